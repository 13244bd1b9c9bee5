import PyProof.Rows.All
import Wide.All
import OpenK.AllK
import Wide.FinOn
import PyProof.EqAt
import PyProof.EqKinds
import PyProof.TupleCall
import KE.KExcSuper
import HandS.ForMost
import HandS.Exc
import HandS.ExcInit
import HandS.ExcSuper
import HandS.ExcField
import HandS.ExcIs
import HandS.Nested
import HandS.ClsMeth
import HandS.FStr
import HandS.IsInst
import HandS.Defaults
import HandS.Text
import HandS.Iter
import HandS.Walk
import HandS.TupAny
import HandS.Conv
import KE.GoesMore
import PyProof.Draws
import PyProof.EnumMake
import PyProof.AutoSeq1
import HandS.More
import HandS.WordsExc
import HandS.ExcOwn
import KE.KStateDown
import Lean
import HandS.Head0
import HandS.Head1
import HandS.Head2
import HandS.HeadEnd
import HandS.HeadHook4
import Wide.Once
import PySem.Challenge.RW_handsroom_k10_deeds_read_and_written
set_option Elab.async false
set_option linter.all false
set_option maxRecDepth 100000
set_option maxHeartbeats 4000000
namespace PySem
namespace ErrX
open Sem
section
variable {prog : Program} {w : World} {A : Around} {E : Value → Shared → Prop} {s : Shared} {a : Addr} {o : Obj} {items : Array Value} {n : Nat} {ts : List Str}
/-- repr of a tuple, whatever stands on the stack -/
theorem call_tuple_repr_any {Q : Value → Shared → Prop} (hTy : s.TypeIs (.ref a) "tuple") (ha : s.heap.get? a = some o) (hd : o.data = .seq items n) (hT : ReprAll prog w items.toList ts)
    (hQ : ∀ (y : Str) u tk, y.length ≤ 100000 → Q (.str y u) { s with toks := tk }) (hsz : (tupleText ts).length ≤ 100000) :
    wpAny (model prog w) A (call (.builtin "tuple.__repr__") [.ref a]) Q E s := by
  refine wpAny_call (codeAny_call_builtin_own (Code.quiet_builtin _ (by decide +kernel)) F.entry_tuple_repr (F.slot_tuple_repr.check _ _ _ _ _ _ _ _ hTy (F.args_tuple_repr_1 _) ?_))
  show wpOwn _ _ _ (Builtin.tupleReprAt 0 ⟨[.ref a], []⟩) _ _ _
  rw [tuple_repr_tree, tupleReprUnderWay_eq]
  refine wpOwn_of_wpAny (wpAny_bind (wpAny_bind (wpAny_stack_any fun st => wpAny_pure ?_)))
  cases st.tail.any (tupGuardF (.ref a)) with
  | true =>
    show wpAny _ _ (do rule "tuple.repr.in-itself"; retStr "(...)") _ _ _
    refine wpAny_bind (wpAny_rule ?_)
    refine wpAny_bind (wpAny_mkStr (wpAny_pure ?_) (by decide +kernel))
    exact hQ _ _ _ (by decide +kernel)
  | false =>
    show wpAny _ _ (tupleReprRest 0 (.ref a)) _ _ _
    exact wpAny_tupleReprRest ha hd hT (fun u tk => hQ _ u tk hsz) (by rw [sizeLine_eq]; omega)
theorem pyReprObj_tuple_any {Q : Value → Shared → Prop} (hTy : s.TypeIs (.ref a) "tuple") (hu : A.units < cLine) (ha : s.heap.get? a = some o) (hd : o.data = .seq items n) (hT : ReprAll prog w items.toList ts)
    (hQ : ∀ (y : Str) u tk, y.length ≤ 100000 → Q (.str y u) { s with toks := tk }) (hsz : (tupleText ts).length ≤ 100000) : wpAny (model prog w) A (pyReprObj (.ref a)) Q E s := by
  unfold pyReprObj
  refine wpAny_bind (wpAny_cRoomFor hu ?_)
  refine wpAny_bind (wpAny_specialOf (name := Str.ofString "__repr__") hTy F.slot_tuple_repr.lookup ?_)
  refine wpAny_bind (m := callSpecialIfBound? (.ref a) (Str.ofString "__repr__")) (wpAny_callSpecialIfBound?_slotG (name := Str.ofString "__repr__") hTy F.slot_tuple_repr
    (call_tuple_repr_any hTy ha hd hT (fun y u tk hy => ?_) hsz))
  exact wpAny_bind (wpAny_isInstance (T := "str") (b := true) rfl isSubtype_str_str (wpAny_pure (hQ y u tk hy)))
end
end ErrX
end PySem

namespace L2
open PySem PySem.Spec PyProof.Rows
/-- a text or an int whose repr is short -/
def Sho (v : V) : Prop := (∃ y : Str, v = .str y ∧ (reprText y).length ≤ 1000 ∧ y.length ≤ 1000) ∨ ∃ i : Int, v = .int i ∧ i.natAbs.log2 < 1920
theorem sho_len {i : Int} (h : i.natAbs.log2 < 1920) : (Str.ofString (toString i)).length ≤ 1921 := int_text_len_1921 h
theorem tupT_len (ts : List Str) : (tupleText ts).length ≤ piled ts + 4 := by
  unfold tupleText
  rw [strLen_append, strLen_append]
  have e1 : ((("(" : String) : Str)).length = 1 := rfl
  have e3 : (((if ts.length == 1 then ",)" else ")" : String) : Str)).length ≤ 2 := by split <;> decide
  rw [e1]
  by_cases h : ts = []
  · subst h
    have e2 : (Str.join ", " []).length = 0 := rfl
    rw [e2]
    omega
  · have := join_length_add ts h
    omega
theorem sho_all {P : Program} {w : World} : ∀ {xs : List V} {us : List Value}, Vals xs us → (∀ v ∈ xs, Sho v) → ∃ ts, ReprAll P w us ts ∧ piled ts ≤ 2000 * xs.length
  | _, _, .nil, _ => ⟨[], .nil, by simp [piled]⟩
  | v :: xs, _ :: us, .cons r rs, h => by
    obtain ⟨ts, h1, h2⟩ := sho_all rs fun u hu => h u (List.mem_cons_of_mem _ hu)
    rcases h v List.mem_cons_self with ⟨y, rfl, hy, _⟩ | ⟨i, rfl, hi⟩
    · obtain ⟨t, rfl⟩ := r
      refine ⟨_, .cons (ReprIs.str y t (by rw [sizeLine_eq]; omega)) h1, ?_⟩
      rw [piled_cons, List.length_cons]
      omega
    · obtain ⟨t, rfl⟩ := r
      refine ⟨_, .cons (ReprIs.int t hi) h1, ?_⟩
      have := sho_len hi
      rw [piled_cons, List.length_cons]
      omega
section
variable {X : Cx}
def tFmtRA (te : TE) : TE := fun σ H Q => te σ H fun x H1 => (Sho x ∨ ∃ p xs, x = .ref p ∧ H1 p = some (.tup xs) ∧ xs.length ≤ 10 ∧ ∀ v ∈ xs, Sho v) ∧ ∀ y : Str, y.length ≤ 100000 → Q (.str y) H1
theorem pe_fmtRA {e : Expr} {te : TE} {pos : Pos} (hu : X.A.units < cLine) (he : PE X e te) : PE X (.FormattedValue e 114 none pos) (tFmtRA te) := by
  refine ⟨fun pins s σ H Q I h => ?_⟩
  refine wpAny_FormattedValue_repr (thn (he.run pins s σ H _ I h) fun v s1 hv => ?_)
  obtain ⟨x, H1, I1, r1, hs, q⟩ := hv
  have sl : (100000 : Nat) ≤ sizeLine := by rw [sizeLine_eq]; omega
  rcases hs with (⟨y, rfl, hz, _⟩ | ⟨i, rfl, hz⟩) | ⟨p, xs, rfl, hp, hl, hx⟩
  · obtain ⟨t, rfl⟩ := r1
    have hz2 : (reprText y).length ≤ sizeLine := by omega
    exact pyReprObj_str (wpAny_formatField_str ⟨.str (reprText y), H1, I1.tok _, ⟨_, rfl⟩, q _ (by omega)⟩ ⟨.str (reprText y), H1, I1.tok _, ⟨_, rfl⟩, q _ (by omega)⟩ hz2) hz2
  · obtain ⟨t, rfl⟩ := r1
    have h3 := sho_len hz
    exact pyReprObj_int hz (wpAny_formatField_str ⟨.str (toString i), H1, I1.tok _, ⟨_, rfl⟩, q _ (by omega)⟩ ⟨.str (toString i), H1, I1.tok _, ⟨_, rfl⟩, q _ (by omega)⟩ (int_text_fits hz))
  · cases r1
    obtain ⟨_, its, rv, o, ho, hc, n, hd⟩ := I1.hok p _ hp
    obtain ⟨ts, h1, h2⟩ := sho_all (P := X.prog) (w := X.w) rv hx
    have h3 := tupT_len ts
    refine ErrX.pyReprObj_tuple_any ⟨o, ho, hc⟩ hu ho hd h1 (fun y u tk hy => ?_) (by omega)
    exact wpAny_formatField_str ⟨.str y, H1, I1.tok _, ⟨_, rfl⟩, q y hy⟩ ⟨.str y, H1, I1.tok _, ⟨_, rfl⟩, q y hy⟩ (by omega)
/-- {x}: a short text, an int, or a tuple of such -/
def tFmtA (te : TE) : TE := fun σ H Q => te σ H fun x H1 => (Sho x ∨ ∃ p xs, x = .ref p ∧ H1 p = some (.tup xs) ∧ xs.length ≤ 10 ∧ ∀ v ∈ xs, Sho v) ∧ ∀ y : Str, y.length ≤ 100000 → Q (.str y) H1
theorem pe_fmtA {e : Expr} {te : TE} {pos : Pos} (hu : X.A.units + 2 < cLine) (he : PE X e te) : PE X (.FormattedValue e (-1) none pos) (tFmtA te) := by
  refine ⟨fun pins s σ H Q I h => ?_⟩
  refine wpAny_FormattedValue_plain (thn (he.run pins s σ H _ I h) fun v s1 hv => ?_)
  obtain ⟨x, H1, I1, r1, hs, q⟩ := hv
  have sl : (100000 : Nat) ≤ sizeLine := by rw [sizeLine_eq]; omega
  rcases hs with (⟨y, rfl, _, hz⟩ | ⟨i, rfl, hz⟩) | ⟨p, xs, rfl, hp, hl, hx⟩
  · obtain ⟨t, rfl⟩ := r1
    exact wpAny_formatField_str ⟨.str y, H1, I1, ⟨t, rfl⟩, q _ (by omega)⟩ ⟨.str y, H1, I1.tok _, ⟨_, rfl⟩, q _ (by omega)⟩ (by omega)
  · obtain ⟨t, rfl⟩ := r1
    have h3 := sho_len hz
    exact wpAny_formatField_int hz ⟨.str (toString i), H1, I1.tok _, ⟨_, rfl⟩, q _ (by omega)⟩
  · cases r1
    obtain ⟨_, its, rv, o, ho, hc, n, hd⟩ := I1.hok p _ hp
    obtain ⟨ts, h1, h2⟩ := sho_all (P := X.prog) (w := X.w) rv hx
    have h3 := tupT_len ts
    exact wpAny_formatField_slot (fun _ _ => nofun) hu ⟨o, ho, hc⟩ F.slot_tuple_format F.slot_tuple_str F.slot_tuple_repr
      (ErrX.call_tuple_repr_any ⟨o, ho, hc⟩ ho hd h1 (fun y u tk hy => ⟨y, u, rfl, .str y, H1, I1.tok _, ⟨_, rfl⟩, q y hy⟩) (by omega))
end
end L2

namespace PySem
namespace ErrX
open PySem.W PySem.Calls PyProof.Rows
section
variable {prog : Program} {w : World} {A : Around} {E : Value → Shared → Prop} {h : Heap} {g : Array GenState} {d : Drawn} {t : Nat} {os : OsState}
variable {nm q : Str} {C N : Addr} {bs bm : List Value} {hdct : Bool} {sn : List Str} {sub : List Value} {ab : Bool} {col : Option Bool} {dd : Option Addr} {k0 k1 k2 k3 k5 : Option Value}
/-- the bound ValueError.__init__ called: the args are laid anew -/
theorem call_mw {u e t0 : Addr} {rest : List Value} {Q : Value → Shared → Prop}
    (hC : h.get? C = some (excClassObj nm q C N bs bm hdct sn sub ab col dd k0 k1 k2 k3 k5 "ValueError.__new__")) (he : h.get? e = some (HandSPX.excO C t0)) (hu : h.get? u = some (kxs_mw "ValueError.__init__" e)) (hrest : rest.length ≤ sizeLine)
    (hq : ∀ h' t1, (∀ b o, b ≠ e → h.get? b = some o → h'.get? b = some o) → h'.get? e = some (HandSPX.excO C t1) → Q .none ⟨h', g, d, t, os⟩) :
    wpAny (model prog w) A (call (.ref u) rest) Q E ⟨h, g, d, t, os⟩ := by
  refine wpAny_call (codeAny_of_tree ?_)
  show wpAny _ A.in1 (callAny (.ref u) ⟨rest, []⟩) _ _ _
  simp only [callAny]
  refine wpAny_bind (wpAny_load hu ?_)
  simp only [kxs_mw, show (Value.type "method-wrapper" == Value.type "method" || Value.type "method-wrapper" == Value.type "builtin_function_or_method" || Value.type "method-wrapper" == Value.type "method-wrapper") = true by decide, if_true]
  refine KFB.if_so (by decide) ?_
  refine wpAny_bind (check_bound_init F.excBase_ValueError.toExcCallFacts hC he rfl ?_)
  refine wpAny_bind (wpAny_pure (wpAny_pure ?_))
  refine ⟨plainId_quiet F.excBase_ValueError.init.plain _, codeAny_builtin F.excBase_ValueError.initEntry ?_⟩
  rw [Around.under_plainId F.excBase_ValueError.init.plain _]
  wp_walk
  refine hq _ h.objs.size (fun b o hb ho => ?_) ?_
  · rw [Heap.get?_update_other _ _ (Ne.symm hb)]
    exact Heap.get?_push_of_some _ ho
  · rw [Heap.get?_update_self _ (Heap.get?_push_of_some _ he) rfl]
    rfl
end
end ErrX
end PySem
namespace L2
open PySem PySem.Spec PyProof.Rows NdefX
/-- what the written part says of an own error class whose __init__ begins with super().__init__(..) -/
structure SupC (P : Program) (K : PySem.W.Frag) (mg : Str → Option Value) (C fI cc cda : Addr) (qual : Str) (params : Arguments) (body : List Stmt) (scope : Scope) : Prop where
  ox : OexC K C
  iC : PySem.W.findIn K (.ref C) "__init__" = some (some (.ref fI))
  tI : PySem.W.typeIn K (.ref fI) = some (.type "function")
  fn : ∃ (oc : Value) (od : Option Addr) (osl : Array (Option Value)) (nm : Str) (kV doc pm ct : Value) (an : Option Addr), K.lookup fI = some ⟨oc, od, .func (PySem.W.fnX nm qual params body scope [("__class__", cc)] .none kV doc pm an (.ref cda) ct), osl⟩
  code : PySem.W.codeIn K (.ref cda) qual = true
  cell : ∃ (cl : Value) (cld : Option Addr) (csl : Array (Option Value)), K.lookup cc = some ⟨cl, cld, .cell (some (.ref C)), csl⟩
  file : ∃ (ccl : Value) (cdd : Option Addr) (vs : Array Value) (ccs : Array (Option Value)) (fl : Str) (tf : Tok), K.lookup cda = some ⟨ccl, cdd, .fields vs, ccs⟩ ∧ vs[2]? = some (.str fl tf) ∧ ((P.main.file : Str) == fl) = true
  sup : mg "super" = none
  top : (P.main.scope.names.lookup ("super" : Str)).isSome = false
  op : PySem.W.nsIn K cStatics "thirdparty.any" = some none
  next : ∃ cd, PySem.W.clsIn K C = some cd ∧ PySem.W.alongIn K "__init__" ((cd.mro.dropWhile (· != .ref C)).drop 1) = some (some (.builtin "ValueError.__init__"))
  self : PySem.W.mroIn K C (.ref C) = some true
  subV : PySem.W.subIn K (.ref C) (.type "ValueError") = some true
theorem boot_super : bootBuiltins "super" = some (.type "super") := by decide +kernel
theorem sup_ok {P : Program} {w : World} {K : PySem.W.Frag} {mg : Str → Option Value} {base : Heap} {C fI cc cda : Addr} {qual : Str} {params : Arguments} {scope : Scope} {k : Nat} {N ps : List Str} {sp : Sp} {e : Expr} {rest : List Stmt} {p0 p1 p2 p3 p4 : Pos} {ar : Arg}
    (T : SupC P K mg C fI cc cda qual params (.Expr (.Call (.Attribute (.Call (.Name "super" p0) [] [] p1) "__init__" p2) [e] [] p3) p4 :: rest) scope) (S : NScope N ps ["__class__"] scope)
    (hps : ps[0]? = some ar.arg) (hpar : (params.posonlyargs ++ params.args).head? = some ar) (hks : scope.names.lookup ("super" : Str) = some NameKind.globalImplicit)
    (hbind : ∀ (nm : Str) (kV doc pm ct : Value) (an : Option Addr) (us : List Value), us.length = ps.length → bindArgs (PySem.W.fnX nm qual params (.Expr (.Call (.Attribute (.Call (.Name "super" p0) [] [] p1) "__init__" p2) [e] [] p3) p4 :: rest) scope [("__class__", cc)] .none kV doc pm an (.ref cda) ct) ⟨us, []⟩ = pure (ps.zip us))
    {pl : Env → Sem Bool} (hev : ∀ env : Env, eval (.Call (.Attribute (.Call (.Name "super" p0) [] [] p1) "__init__" p2) [e] [] p3) env = (do
      let ov ← attributeBase (.Call (.Name "super" p0) [] [] p1) "__init__" env (eval (.Call (.Name "super" p0) [] [] p1) env)
      standAt p2.atName
      let (f, first) ← holding [ov] (getMethod ov "__init__" (pl env))
      callWith p3 f first (backTo p3 (starEach [e] env)) []))
    (hse : ∀ env : Env, starEach [e] env = (false, eval e env) :: starEach [] env)
    (len : ∀ vs H Q E, sp vs H Q E → vs.length = ps.length)
    (hbody : ∀ (A : Around) (outer : List Env) (s : Shared) (H : Hp) (vs : List V) (Q : VK) (E : XK), Room k (A.deeper (envF ⟨"__init__", qual, params, rest, scope, [("__class__", cc)], cda⟩ fI s.heap.objs.size)) → sp vs H Q E →
      ∃ (a : Addr) (vr : List V) (te : TE) (ts : TS), vs = .ref a :: vr ∧ H a = some (exo a C none) ∧
        PE (ncx CX0 P w K mg base N ⟨"__init__", qual, params, rest, scope, [("__class__", cc)], cda⟩ fI A outer s H E) e te ∧ PSs (ncx CX0 P w K mg base N ⟨"__init__", qual, params, rest, scope, [("__class__", cc)], cda⟩ fI A outer s H E) rest ts ∧
        te (startF N vs [some (.ref C)]) H fun _ H1 => H1 a = some (exo a C none) ∧ ts { nx := fun _ H' => Q .non H', rt := Q } (startF N vs [some (.ref C)]) H1) :
    ∃ fd, FnOk P w K mg base CX0 (k + 1) fI fd ps sp ∧ Binds K fd ps [] := by
  obtain ⟨oc, od, osl, nm, kV, doc, pm, ct, an, lk⟩ := T.fn
  obtain ⟨cl, cld, csl, lcell⟩ := T.cell
  obtain ⟨ccl, cdd, cvs, ccs, fl, tf, lcode, hvs, hfile⟩ := T.file
  obtain ⟨cdC, hcd, hal⟩ := T.next
  refine ⟨_, ⟨len, fun A outer s H args us vs Q E hr e0 hb r hsp => ?_⟩, .all (hbind nm kV doc pm ct an)⟩
  have hl := len _ _ _ _ hsp
  have KX : K.In s.heap := e0.mod.kin.keeps fun b o e => (e0.bs b o e).1
  have lim : s.heap.NoLimit := e0.mod.nolimit.keeps fun b o e => (e0.bs b o e).1
  refine PySem.ks_codeAny_call_defAt hr.depth (KX _ _ lk) rfl lim (PySem.W.codeRec_of KX T.code) rfl hb S.nocell (fun x hx => S.par _ (List.of_mem_zip hx).1) (fun h₁ hns kp => ?_) S.co S.gen S.kind
  let F : NF := ⟨"__init__", qual, params, rest, scope, [("__class__", cc)], cda⟩
  have kbase : ∀ {b : Addr} {o : Obj}, K.lookup b = some o → H b = none := fun {b o} q => (e0.bs b o (e0.mod.kin _ _ q)).2
  have CA : CellsAt F.cl ["__class__"] [some (.ref C)] s.heap H := by
    refine ⟨rfl, fun y c q => ?_, fun x y c q1 q2 => ?_, fun i y q => ?_⟩
    · have q2 : y = "__class__" ∧ c = cc := by
        by_cases hy : y = ("__class__" : Str)
        · subst hy
          have q3 : some cc = some c := q
          exact ⟨rfl, (Option.some.inj q3).symm⟩
        · have hy2 : (y == ("__class__" : Str)) = false := by simpa using hy
          have q3 : (match y == ("__class__" : Str) with | true => some cc | false => none) = some c := q
          rw [hy2] at q3
          cases q3
      rw [q2.2]
      exact ⟨kbase lcell, _, _, KX _ _ lcell, rfl⟩
    · have one : ∀ {y : Str}, List.lookup y [(("__class__" : Str), cc)] = some c → y = "__class__" := fun {y} q => by
        by_cases hy : y = ("__class__" : Str)
        · exact hy
        · have hy2 : (y == ("__class__" : Str)) = false := by simpa using hy
          have q3 : (match y == ("__class__" : Str) with | true => some cc | false => none) = some c := q
          rw [hy2] at q3
          cases q3
      rw [one q1, one q2]
    · cases i with
      | zero =>
        have q2 : ("__class__" : Str) = y := Option.some.inj q
        rw [← q2]
        refine ⟨cc, rfl, fun v hv => ?_⟩
        have hv2 : V.ref C = v := Option.some.inj (Option.some.inj hv)
        rw [← hv2]
        exact ⟨.ref C, rfl, _, KX _ _ lcell, rfl⟩
      | succ i =>
        have q2 : (none : Option Str) = some y := by
          rw [← q]
          simp
        cases q2
  have I : Inv (ncx CX0 P w K mg base N F fI A outer s H E) [] (startF N vs [some (.ref C)]) H { s with heap := h₁, toks := s.toks + (ps.zip us).length } := inv_startN S hr.hd e0 hl r CA hns kp
  obtain ⟨a, vr, te, ts, rfl, ha, he, hs, hq⟩ := hbody A outer s H vs Q E (hr.deeper _) hsp
  obtain ⟨t1, ho⟩ := exo_at I.hok ha
  show PySem.wpAt (model P w) (A.deeper (envF F fI s.heap.objs.size)) (.func _ (envF F fI s.heap.objs.size)) (execs _ (envF F fI s.heap.objs.size)) _ _ _
  have hint : interactive (envF F fI s.heap.objs.size) = false := by
    unfold interactive
    rw [show (envF F fI s.heap.objs.size).scope.kind = ScopeKind.function from S.kind]
    rfl
  refine PySem.ks_wpAt_execs_cons (PySem.ks_wpAt_Expr_any (PySem.ks_wpAt_MethodCall (pl := pl (envF F fI s.heap.objs.size)) ?_ (hev _)) hint rfl)
  have hg0 := kp _ _ (KX _ _ lk)
  have hg1 := kp _ _ (KX _ _ lcode)
  have hkc : (envF F fI s.heap.objs.size).kindOf "__class__" = some NameKind.free := S.frk _ List.mem_cons_self
  refine PySem.ks_wpAt_super_base (env := envF F fI s.heap.objs.size) (f := fI) (cc := cda) (oc := ⟨ccl, cdd, .fields cvs, ccs⟩) (hks := hks) (hkc := hkc) (hat := by decide +kernel) (hfu := rfl) (hf := hg0) (hfd := rfl) (hp := hpar) (hco := rfl) (hcc := hg1) (hoc := rfl) (hvs := hvs) (hfile := hfile) (htop := T.top) ?_
  -- super
  obtain ⟨mb, b1, b2⟩ := I.mod.blt
  refine PySem.W.ks_loadName_global (x := "super") S.kind hks (Calls.loadGlobal_builtin (mg := mg) (mb := mb) (v := .type "super") (I.mod.glob.keeps I.bk) T.sup (b1.keeps I.bk) ((b2 _ (by decide +kernel)).trans boot_super) ⟨rfl, ?_⟩)
  have hcc : h₁.IsCell cc (some (.ref C)) := ⟨(⟨cl, cld, .cell (some (.ref C)), csl⟩ : Obj), kp _ _ (KX _ _ lcell), rfl⟩
  refine wpAny_loadName_free (name := "__class__") (c := cc) (v := .ref C) S.kind hkc rfl hcc ?_
  have hx0 : (ps.zip us).reverse.lookup ar.arg = some (Value.ref a) := by
    have ndP : ps.Nodup := by
      have q := S.nd.sublist (List.take_sublist (ps.length + [("__class__" : Str)].length) N)
      rw [S.pre] at q
      exact (List.nodup_append.mp q).1
    obtain ⟨u, hu, rv⟩ := r.get (i := 0) (x := V.ref a) rfl
    have e1 : u = Value.ref a := rv
    rw [e1] at hu
    exact zip_look ndP hps hu
  refine wpAny_loadName_local (v := Value.ref a) S.kind (S.par _ (List.mem_of_getElem? hps)) hns hx0 ?_
  have KX1 : K.In h₁ := fun b o q => kp _ _ (KX _ _ q)
  obtain ⟨oC, hC1, hC2⟩ : ∃ oC, h₁.get? C = some oC ∧ oC.data = .cls cdC := by
    unfold PySem.W.clsIn at hcd
    split at hcd
    · rename_i c d cd' sl q
      cases hcd
      exact ⟨_, KX1 _ _ q, rfl⟩
    · cases hcd
  refine ks_wpAny_isType_cls hC1 hC2 ⟨rfl, ?_⟩
  have hne : a ≠ C := fun z => by
    rw [z] at ho
    have e1 := hC1.symm.trans ho
    cases e1
    cases hC2
  refine ks_wpAny_call_super hC1 hC2 ho rfl (fun c q => by cases q) (PySem.W.looks_mroIn KX1 T.self) (fun h2 so2 k2 => ?_)
  have I2 := ClX.pin_new (t' := s.toks + (ps.zip us).length) I k2 (Nat.le_refl _) so2 (fun v q => by cases q)
  have KX2 : K.In h2 := fun b o q => k2 _ _ (KX1 _ _ q)
  have hI : PySem.W.Looks (model P w) h2 (isInstance (.ref a) (.type "ValueError")) true := by
    have J : PySem.W.InstAt h2 a _ C none := ⟨k2 _ _ ho, rfl, rfl, trivial⟩
    exact J.type.andThen (PySem.W.looks_subIn KX2 T.subV)
  -- .__init__
  refine PySem.W.kxs_getMethod PySem.W.kxs_ValueError so2 (PySem.W.looks_opaque KX2 T.op) (l₀ := cdC.mro) (fun A Q E s k q => wpAny_bind ((PySem.W.looks_clsIn KX2 hcd) A _ E s k (wpAny_pure q))) rfl KX2 hal hI hne (by decide +kernel) ?_
  have I3 := ClX.pin_new (t' := s.toks + (ps.zip us).length + 1) I2 (fun b u q => Heap.get?_push_of_some _ q) (Nat.le_refl _) (Heap.get?_push_size _ rfl) (o := PySem.W.kxs_mw "ValueError.__init__" a) (fun v q => by cases q)
  -- the argument, the call
  have hpl : ((backTo p3 (starEach [e] (envF F fI s.heap.objs.size)))).any (·.1) = false := by
    rw [hse]
    rfl
  refine PySem.W.kxs_callWith (i := "ValueError.__init__") (x := a) (u := h2.objs.size) hpl ?_
  rw [hse]
  refine Calls.evalArgs_plain (Calls.spliced_cons (thn (he.run _ _ _ _ _ I3 hq) fun u4 s4 hv4 => Calls.spliced_nil ?_))
  obtain ⟨v4, H4, I4, r4, ha4, hq4⟩ := hv4
  have hmw := ClX.pin_at I4
  refine ⟨hmw, ?_⟩
  obtain ⟨t4, ho4⟩ := exo_at I4.hok ha4
  obtain ⟨nm', q', N', bs, bm, sn, sub, ab, col, dd, k0, k1, k2', k3, k5, hC, hbm⟩ := T.ox.cls
  have I4' := ClX.unpin (ClX.unpin I4)
  obtain ⟨hp, g, d, t, os⟩ := s4
  refine ErrX.call_mw (C := C) (I4'.kIn _ _ hC) ho4 hmw (by rw [sizeLine_eq]; exact (by decide : 1 ≤ 16777216)) (fun h5 t5 k5' hx5 => ?_)
  have J := I4'.write (t' := t) (x := a) (e := a) (o := exo a C none) (by rw [ha4]; exact True.intro) (.inl rfl) k5' ⟨_, hx5⟩ (exo_ok hx5)
  have eu : upd H4 a (exo a C none) = H4 := by
    funext b
    by_cases hb : b = a
    · rw [hb, upd_same, ha4]
    · rw [upd_ne hb]
  rw [eu] at J
  -- the rest
  refine PySem.wpAt_of_wpAny ?_
  refine wpAny_mono (hs.run [] _ _ _ _ J hq4) (fun fl s' hs => ?_) fun e s' hs => hs
  have fin : ∀ {σ' : L2.St} {H' : Hp} {v : V} {u : Value}, Inv (ncx CX0 P w K mg base N F fI A outer s H E) [] σ' H' s' → L2.RelV v u → Q v H' → CE outer P w H s Q u s' :=
    fun {σ' H' v u} J rv q => ⟨v, H', J.os, J.bare, J.base, J.hok, rv, q⟩
  cases fl with
  | ret u =>
    obtain ⟨v, σ', H', J, rv, q⟩ := hs
    exact fin J rv q
  | next =>
    obtain ⟨σ', H', J, q⟩ := hs
    exact fin (v := V.non) (u := Value.none) J rfl q
  | brk =>
    obtain ⟨_, _, _, q⟩ := hs
    exact False.elim q
  | cont =>
    obtain ⟨_, _, _, q⟩ := hs
    exact False.elim q
end L2
namespace PySem.W
open PySem PySem.Spec PySem.Calls PyProof.Rows
section
variable {prog : Program} {w : World} {A : Around} {E : Value → Shared → Prop} {s : Shared} {K : Frag} {x D : Addr} {ox : Obj}
theorem findObj_dataA {C : Addr} {od : Option Obj} {name : Str} {a g : Value} (hc : (clsIn K C).isSome = true) (ha : findIn K (.ref C) name = some (some a)) (hg : specialIn K a "__get__" = some (some g)) (ht : takesIn K a = some true) : findObj K C od name = some (.bind g a) := by
  obtain ⟨cd, hc⟩ := Option.isSome_iff_exists.mp hc
  unfold findObj
  rw [hc, Option.bind_some, ha, Option.bind_some]
  simp [hg, ht]
theorem kin_classEA {od : Option Obj} {Q : Option Value → Shared → Prop} (hga : findIn K (.ref D) "__getattribute__" = some (some (.builtin "BaseException.__getattribute__"))) (hgt : findIn K (.ref D) "__getattr__" = some none) (hsub : subIn K (.ref D) (.type "BaseException") = some true)
    (hdct : hasDictIn K D = true) (ha : findIn K (.ref D) "__class__" = some (some (.builtin "object.__class__")))
    (hn : specialIn K (.builtin "object.__class__") "__get__" = some (some (.builtin "getset_descriptor.__get__"))) (htk : takesIn K (.builtin "object.__class__") = some true) (hm : mroIn K D (.type "object") = some true)
    (X : K.In s.heap) (I : InstAt s.heap x ox D od) (h : Q (some (.ref D)) { s with toks := s.toks + 1 }) : wpAny (model prog w) A (getAttr? (.ref x) "__class__") Q E s := by
  have hf : findObj K D od "__class__" = some (.bind (.builtin "getset_descriptor.__get__") (.builtin "object.__class__")) := findObj_dataA (by obtain ⟨cd, hc, _⟩ := any_some hdct; rw [hc]; rfl) ha hn htk
  obtain ⟨hp, g, d, t, os⟩ := s
  have L0 := I.type (M := model prog w)
  have L1 := looks_findIn (M := model prog w) X hga
  have L2 := looks_findIn (M := model prog w) X hgt
  have L3 := looks_find (M := model prog w) X I hf
  have sub : Looks (model prog w) hp (isInstance (.ref x) (.type "BaseException")) true := L0.andThen (looks_subIn X hsub)
  have hx0 : (false && onTheHeap (Value.builtin "BaseException.__getattribute__")) = false := rfl
  have hx2 : (Value.builtin "BaseException.__getattribute__" == Value.builtin "object.__getattribute__") = false := by decide +kernel
  have hx1 : (onTheHeap (Value.ref D) && Value.builtin "BaseException.__getattribute__" == Value.builtin "object.__getattribute__") = false := by rw [hx2]; rfl
  unfold getAttr? getAttrBy? getAttrBy
  refine wpAny_bind (wpAny_mkText (wpAny_bind (wpAny_attempt (wpAny_holding (wpAny_bind (L0.at (wpAny_bind (L1.at ?_))))))))
  show wpAny _ _ (if (onTheHeap (Value.ref D) && Value.builtin "BaseException.__getattribute__" == Value.builtin "object.__getattribute__") = true then _ else _) _ _ _
  rw [hx1, if_neg Bool.false_ne_true]
  unfold getAttrByItsOwn hookBefore
  refine wpAny_bind ?_
  rw [if_pos (show onTheHeap (Value.ref D) = true from rfl)]
  refine L2.at ?_
  refine wpAny_bind (wpAny_attempt (wpAny_holding ?_))
  unfold callGetattribute
  rw [hx0, if_neg Bool.false_ne_true]
  unfold boundAndCalled
  rw [PySem.F.excAttr_ValueError.ga.bind (.ref x)]
  refine wpAny_bind (wpAny_pure ?_)
  show wpAny _ _ (call (.builtin "BaseException.__getattribute__") [.ref x, .str "__class__" t]) _ _ _
  refine wpAny_call (codeAny_call_builtin PySem.F.excAttr_ValueError.ga.plain PySem.F.entry_bexc_ga ?_)
  refine @check_slot (model prog w) _ _ ⟨hp, g, d, t + 1, os⟩ "BaseException.__getattribute__" "BaseException" "__getattribute__" (.ref x) [.str "__class__" t] [] _ (by decide +kernel) (by decide +kernel) sub (PySem.F.args_bexc_ga (.ref x) (.str "__class__" t)) ?_
  unfold Builtin.«object.__getattribute__»
  refine wpAny_bind (wpAny_of_eq (a := ((Value.ref x : Value), [Value.str "__class__" t])) (by first | rfl | (simp only [slotArgs]; rfl)) ?_)
  refine wpAny_bind (wpAny_pure (wpAny_bind (L0.at (wpAny_bind (L3.at ?_)))))
  show wpAny _ _ (holding [Value.builtin "object.__class__"] (call (.builtin "getset_descriptor.__get__") [.builtin "object.__class__", .ref x, .ref D]) >>= ret) _ _ _
  refine wpAny_bind (wpAny_holding (wpAny_call (class_get (s := ⟨hp, g, d, t + 1, os⟩) (ox := ox) (od := od) X I hm ?_)))
  refine wpAny_pure ?_
  show wpAny _ _ (handedOut (.ref D)) _ _ _
  rw [handedOut_of (v := .ref D) rfl]
  first
    | exact wpAny_pure (wpAny_pure h)
    | exact wpAny_pure h
    | exact wpAny_pure (wpAny_bind (wpAny_pure (wpAny_pure h)))
theorem kitx_excA {od : Option Obj} (hga : findIn K (.ref D) "__getattribute__" = some (some (.builtin "BaseException.__getattribute__"))) (hgt : findIn K (.ref D) "__getattr__" = some none) (hsub : subIn K (.ref D) (.type "BaseException") = some true) (hdct : hasDictIn K D = true) (ha : findIn K (.ref D) "__class__" = some (some (.builtin "object.__class__")))
    (hn : specialIn K (.builtin "object.__class__") "__get__" = some (some (.builtin "getset_descriptor.__get__"))) (htk : takesIn K (.builtin "object.__class__") = some true) (hm : mroIn K D (.type "object") = some true) :
    KitX K (.ref x) (.ref D) (fun h => InstAt h x ox D od) where
  ty := fun _ _ _ I => I.type
  it := fun _ _ X _ => by
    obtain ⟨cdD, hcD, _⟩ := any_some hdct
    unfold clsIn at hcD
    split at hcD
    · rename_i c' d' cd' sl' ho
      intro A' Q' E' s' k q
      unfold isType loadHead
      exact wpAny_bind (wpAny_loadPart (k _ _ (X _ _ ho)) (wpAny_pure q))
    · cases hcD
  ne := fun h tp dd its n sl X htp => by
    obtain ⟨cdD, hcD, _⟩ := any_some hdct
    refine Bool.eq_false_iff.mpr fun q => ?_
    have e : D = tp := Value.ref.inj (beq_iff_eq.mp q)
    subst e
    unfold clsIn at hcD
    split at hcD
    · rename_i c' d' cd' sl' ho
      have z := (X _ _ ho).symm.trans htp
      cases z
    · cases hcD
  ca := fun X I k => kin_classEA hga hgt hsub hdct ha hn htk hm X I k
end
end PySem.W

namespace L2
open PySem PySem.Spec PyProof.Rows
/-- C(e, ..) as a value: C's own __init__ keeping sp -/
def tMkV (C : Addr) (sp : Sp) (ta : TA) : TE := fun σ H Q => ta σ H fun vs H1 => vs.length ≤ 1000 ∧ ∀ a, H1 a = none → sp (.ref a :: vs) (upd H1 a (exo a C none)) (fun v H2 => v = .non ∧ Q (.ref a) H2) (fun _ _ _ => False)
section
variable {X : Cx} {e : Expr} {es : List Expr} {te : TE} {ta : TA} {p pos : Pos}
theorem run_mkv {CX : CXT} {C fI : Addr} {k : Nat} {fd : FuncData} {ps : List Str} {sp : Sp} {pins : List (Addr × Obj)} {σ : St} {H1 : Hp} {s1 : Shared} {us : List Value} {vs : List V} {Q : VK} (T : OexC X.K C) (iC : PySem.W.findIn X.K (.ref C) "__init__" = some (some (.ref fI))) (tI : PySem.W.typeIn X.K (.ref fI) = some (.type "function"))
    (F1 : FnOk X.prog X.w X.K X.mg X.base CX k fI fd ps sp) (hr : Room (k + 1) X.A) (hb : Binds X.K fd ps []) (hx : Passes CX X (fun _ _ _ => False)) (I1 : Inv X pins σ H1 s1) (r1 : Vals vs us) (hz : vs.length ≤ 1000)
    (q1 : ∀ a, H1 a = none → sp (.ref a :: vs) (upd H1 a (exo a C none)) (fun v H2 => v = .non ∧ Q (.ref a) H2) (fun _ _ _ => False)) :
    wpAny (model X.prog X.w) X.A (call (.ref C) us) (EP X pins σ Q) X.xe s1 := by
  obtain ⟨nm, q, N, bs, bm, sn, sub, ab, col, dd, k0, k1, k2, k3, k5, hC, hbm⟩ := T.cls
  obtain ⟨hp, g, dr, tk, os⟩ := s1
  have hsz : hp.objs.size ≤ hp.objs.size + 1 := Nat.le_succ _
  have hn : H1 (hp.objs.size + 1) = none := I1.hok.fresh hsz
  have hq := q1 (hp.objs.size + 1) hn
  have kk : ∀ b o, hp.get? b = some o → ((hp.push (PySem.W.kdv_tup us)).push (PySem.HandSPX.excO C hp.objs.size)).get? b = some o := fun b o e => Heap.get?_push_of_some _ (Heap.get?_push_of_some _ e)
  have hget : ((hp.push (PySem.W.kdv_tup us)).push (PySem.HandSPX.excO C hp.objs.size)).get? (hp.objs.size + 1) = some (PySem.HandSPX.excO C hp.objs.size) := by heap_get
  have I2 : Inv X pins σ (upd H1 (hp.objs.size + 1) (exo (hp.objs.size + 1) C none)) ⟨(hp.push (PySem.W.kdv_tup us)).push (PySem.HandSPX.excO C hp.objs.size), g, dr, tk, os⟩ :=
    I1.laid (t' := tk) (a := hp.objs.size + 1) (o := exo (hp.objs.size + 1) C none) (h' := (hp.push (PySem.W.kdv_tup us)).push (PySem.HandSPX.excO C hp.objs.size)) kk hsz (exo_ok hget)
  have r2 : Vals (V.ref (hp.objs.size + 1) :: vs) (Value.ref (hp.objs.size + 1) :: us) := .cons rfl r1
  have hl : (Value.ref (hp.objs.size + 1) :: us).length = ps.length := by
    have e := r2.length
    rw [F1.len _ _ _ _ hq] at e
    exact e.symm
  have hus : us.length ≤ sizeLine := by
    rw [← Paired.length r1, sizeLine_eq]
    omega
  refine wpAny_call (PySem.HandSPX.call_own F.excBase_ValueError (fun Y => PySem.HandSPX.refsVE_contains Y bm hbm) (I1.kIn _ _ hC) (PySem.W.looks_findIn I1.kIn iC) (fun self => PySem.W.bind_fn I1.kIn self tI) hus
    (codeAny_mono (F1.run _ X.stack _ _ ⟨Value.ref (hp.objs.size + 1) :: us, []⟩ (Value.ref (hp.objs.size + 1) :: us) _ _ (fun _ _ _ => False) (hr.make C us []) (I2.env0.make C us []) (by
      have z := hb ⟨(hp.push (PySem.W.kdv_tup us)).push (PySem.HandSPX.excO C hp.objs.size), g, dr, tk, os⟩ (Value.ref (hp.objs.size + 1) :: us) I2.kIn (by rw [List.append_nil]; exact hl)
      rw [List.append_nil] at z
      exact z) r2 hq) fun r s' hq' => ?_))
  cases r with
  | error er => exact hx pins σ _ _ er s' I2 hq'
  | ok fl =>
    cases fl with
    | ret u =>
      obtain ⟨v, H2, os2, bare2, un2, hok2, rv, ev, q2⟩ := hq'
      subst ev
      exact ⟨rv, .ref (hp.objs.size + 1), _, I2.call' (ch := []) os2 un2 hok2 bare2 (fun b z => absurd z (by simp)), rfl, q2⟩
    | next => exact False.elim hq'
    | brk => exact False.elim hq'
    | cont => exact False.elim hq'
theorem pe_mkv {CX : CXT} {x : Str} {C fI : Addr} {k : Nat} {fd : FuncData} {ps : List Str} {sp : Sp} (T : OexC X.K C) (iC : PySem.W.findIn X.K (.ref C) "__init__" = some (some (.ref fI))) (tI : PySem.W.typeIn X.K (.ref fI) = some (.type "function"))
    (F1 : FnOk X.prog X.w X.K X.mg X.base CX k fI fd ps sp) (hr : Room (k + 1) X.A) (hb : Binds X.K fd ps []) (hx : Passes CX X (fun _ _ _ => False)) (hg : Gl X x) (hm : X.mg x = some (.ref C)) (ha : PA X (e :: es) ta)
    (hdb : (x == ("__debug__" : Str)) = false := by decide) (he : starEach (e :: es) X.env = (false, eval e X.env) :: starEach es X.env := by rfl) (hpl : (backTo pos (starEach es X.env)).any (·.1) = false := by rfl) :
    PE X (.Call (.Name x p) (e :: es) [] pos) (tMkV C sp ta) := by
  refine ⟨fun pins s σ H Q I h => ?_⟩
  refine wpAny_Call_Name_kw (ld_glob I hg hm ?_ hdb)
  refine PySem.W.callWith_K (h₀ := X.base) I.ok.mod.kin T.kC (thn (ha.run pos pins s σ H _ I h) fun us s1 ⟨vs, H1, I1, r1, hz, q1⟩ => ⟨I1.kIn, ?_⟩) he hpl
  exact run_mkv T iC tI F1 hr hb hx I1 r1 hz q1
theorem pe_mkv0 {CX : CXT} {x : Str} {C fI : Addr} {k : Nat} {fd : FuncData} {ps : List Str} {sp : Sp} (T : OexC X.K C) (iC : PySem.W.findIn X.K (.ref C) "__init__" = some (some (.ref fI))) (tI : PySem.W.typeIn X.K (.ref fI) = some (.type "function"))
    (F1 : FnOk X.prog X.w X.K X.mg X.base CX k fI fd ps sp) (hr : Room (k + 1) X.A) (hb : Binds X.K fd ps []) (hx : Passes CX X (fun _ _ _ => False)) (hg : Gl X x) (hm : X.mg x = some (.ref C))
    (hdb : (x == ("__debug__" : Str)) = false := by decide) : PE X (.Call (.Name x p) [] [] pos) (tMkV C sp tNil) := by
  refine ⟨fun pins s σ H Q I h => ?_⟩
  refine wpAny_Call_Name_kw (ld_glob I hg hm ?_ hdb)
  obtain ⟨hz, q1⟩ := h
  exact PySem.W.callWith_K0 I.kIn T.kC (run_mkv T iC tI F1 hr hb hx I .nil hz q1)
/-- e.f, e an exception that is a value -/
def tXv (K : PySem.W.Frag) (f : Str) (te : TE) : TE := fun σ H Q => te σ H fun x H1 => ∃ (a C d : Addr) (fs : List (Str × V)) (v : V), x = .ref a ∧ XfC K C ∧ PySem.W.findIn K (.ref C) f = some none ∧ H1 a = some (exo a C (some d)) ∧ H1 d = some (exd d fs) ∧ fs.lookup f = some v ∧ Q v H1
theorem pe_xv {f : Str} (he : PE X e te) (hb : attributeBase e f X.env (eval e X.env) = eval e X.env := by rfl) : PE X (.Attribute e f pos) (tXv X.K f te) := by
  refine ⟨fun pins s σ H Q I h => ?_⟩
  refine attr_of hb (thn (he.run pins s σ H _ I h) fun u s1 hh => ?_)
  obtain ⟨x, H1, I1, rx, a, C, d, fs, v, ex, T, hno, ea, ed, l, q⟩ := hh
  subst ex
  obtain rfl : u = Value.ref a := rx
  obtain ⟨t1, ho⟩ := exo_at I1.hok ea
  obtain ⟨mA, hns, hr⟩ := exd_at I1.hok ed
  obtain ⟨od, hod, hl⟩ := lookIn_ns hns
  obtain ⟨u, hu, ru⟩ := RelO.some_of (v := v) (o := mA f) (by rw [← l]; exact hr f)
  have J : PySem.W.InstAt s1.heap a _ C (some od) := ⟨ho, rfl, rfl, hod⟩
  exact HandSPX.exc_get I1.kIn J T.ga T.gg T.exC (PySem.W.findObj_own T.hdC hno rfl (by rw [hl, hu])) (handed_of ru) ⟨v, H1, I1.tok _, ru, q⟩
/-- isinstance(e, C), e an exception that is a value -/
def rIsV (K : PySem.W.Frag) : List V → Hp → VK → Prop := fun xs H Q => ∃ (a D : Addr) (dd : Option Addr) (c : V) (cv : Value) (b : Bool), xs = [.ref a, c] ∧ H a = some (exo a D dd) ∧ (∀ d, dd = some d → ∃ fs, H d = some (exd d fs)) ∧ ExcC K D ∧ (∀ u, RelV c u → u = cv) ∧ PySem.W.kitOne K (.ref D) cv = some b ∧ Q (.bl b) H
theorem call_isV : CallR X (.builtin "isinstance") (rIsV X.K) := by
  intro pins s σ H xs us Q I r h
  obtain ⟨a, D, dd, c, cv, b, rfl, ea, hd, C, hcv, e, q⟩ := h
  cases r with
  | cons rx rr =>
    cases rr with
    | cons rt rr =>
      cases rr
      cases rx
      have ec := hcv _ rt
      subst ec
      obtain ⟨t1, ho⟩ := exo_at I.hok ea
      have J : ∃ od, PySem.W.InstAt s.heap a { cls := .ref D, dict := dd, data := .fields #[.ref t1, .none, .none, .none, .bool false, .none] } D od := by
        cases dd with
        | none => exact ⟨none, ho, rfl, rfl, trivial⟩
        | some d =>
          obtain ⟨fs, hfs⟩ := hd d rfl
          obtain ⟨mA, hns, _⟩ := exd_at I.hok hfs
          obtain ⟨od, hod, _⟩ := lookIn_ns hns
          exact ⟨some od, ho, rfl, rfl, hod⟩
      obtain ⟨od, J⟩ := J
      exact PySem.W.kia_one (PySem.W.kitx_excA C.hg C.hk C.hs C.hd C.ha C.hn C.ht C.hm) I.kIn J e (fun z => nomatch z) fun tk => ⟨.bl b, H, I.kept (t' := tk) fun _ _ z => z, rfl, q⟩
end
end L2
namespace K10
open PySem PySem.Spec PyProof.Rows L2
def top (i : Nat) : Stmt := PySem.Challenge.pw_handsroom_k10_deeds_read_and_written.main.body.getD i (.Pass ⟨0, 0, 0, 0⟩)
abbrev FnP (K : PySem.W.Frag) (x : Str) (st : Stmt) (f : Addr) (fd : FuncData) : Prop := FunD K x x (defArgs st) (defBody st) (defScope st) [] [] f fd
abbrev sDraws : Stmt := top 23
abbrev sNext : Stmt := top 24
theorem scD : FnScope ["_law_script", "_law_draws_here", "_law_place", "_law_cell", "_law_number", "_law_turn", "_law_mixed"] ["_law_script"] (defScope sDraws) := ⟨rfl, rfl, rfl, by decide +kernel, rfl, by decide +kernel, by decide +kernel⟩
theorem scN : FnScope ["_law_draws_here", "_law_many"] ["_law_draws_here", "_law_many"] (defScope sNext) := ⟨rfl, rfl, rfl, by decide +kernel, rfl, by decide +kernel, by decide +kernel⟩
theorem upd_self {H : Hp} {p : Addr} {o : HO} (h : H p = some o) : upd H p o = H := by
  funext b
  by_cases e : b = p
  · rw [e, upd_same, h]
  · rw [upd_ne e]
theorem for_enum {K : PySem.W.Frag} {a : Addr} {xs : List V} {g : TG} {tb : TS} {D : Ends} {σ : L2.St} {H : Hp} (Pv : Nat → L2.St → Hp → Prop) (h0 : Pv 0 σ H) (hl : ∀ i σ H, i ≤ xs.length → Pv i σ H → SqL K H a xs)
    (hs : ∀ (i : Nat) x σ H T, xs[i]? = some x → Pv i σ H → H T = none → g (.ref T) σ (upd H T (.tup [.int (i : Nat), x])) fun σ2 H2 => tb { D with nx := Pv (i + 1), ct := Pv (i + 1), bk := D.nx } σ2 H2) (hd : ∀ σ H, Pv xs.length σ H → D.nx σ H) :
    ∃ W : Nat → Nat → L2.St → Hp → Prop, (∃ m, W 0 m σ H) ∧ ∀ i m σ H, W i m σ H →
      ((Ite K a).stop i H ∧ D.nx σ H) ∨ ((Ite K a).go i H ∧ ∃ N : L2.St → Hp → Prop, (∀ σ' H', N σ' H' → ∃ m', m' < m ∧ W (i + 1) m' σ' H') ∧ ∀ x H', (Ite K a).yld i H x H' → g x σ H' fun σ2 H2 => tb { D with nx := N, ct := N, bk := D.nx } σ2 H2) := by
  refine ⟨fun i m σ H => m = xs.length - i ∧ i ≤ xs.length ∧ Pv i σ H, ⟨xs.length, by simp, Nat.zero_le _, h0⟩, ?_⟩
  rintro i m σ H ⟨rfl, hi, p⟩
  have q := hl i σ H hi p
  by_cases hlt : i < xs.length
  · refine .inr ⟨⟨xs, xs[i], q, by simp [hlt]⟩, Pv (i + 1), fun σ' H' p' => ⟨xs.length - (i + 1), by omega, rfl, hlt, p'⟩, fun x H' y => ?_⟩
    obtain ⟨T, z, rfl, nT, rfl, f⟩ := y
    exact hs i z σ H T (f xs q) p nT
  · have e : i = xs.length := by omega
    subst e
    exact .inl ⟨⟨xs, q, Nat.le_refl _⟩, hd σ H p⟩
theorem same_upd {H : Hp} {p : Addr} {o : HO} (h : H p = none) : Same H (upd H p o) := fun b x e => by
  rw [upd_ne (ne_of_none e h)]
  exact e
/-- what stood stays while an object that was new is changed -/
theorem Same.put {H H3 : Hp} {p : Addr} {o : HO} (s : Same H H3) (h : H p = none) : Same H (upd H3 p o) := fun b x e => by
  rw [upd_ne (ne_of_none e h)]
  exact s b x e
section
variable {P : Program} {w : World} {K : PySem.W.Frag} {mg : Str → Option Value} {base : Heap}
/-! ### the next draw -/
def spNext : Sp := fun vs H Q _ => ∃ (p : Addr) (zs : List Int) (m : Int), vs = [.ref p, .int m] ∧ H p = some (.lst (zs.map V.int)) ∧ 0 < m ∧ ∀ (r : Int) (ys : List Int), 0 ≤ r → r < m → ys.length ≤ zs.length → Q (.int r) (upd H p (.lst (ys.map V.int)))
theorem ok_next {f : Addr} {fd : FuncData} (F : FnP K "_law_next" sNext f fd) (ml : mg "len" = none) (mi : mg "int" = none) : FnOk P w K mg base CX0 1 f fd ["_law_draws_here", "_law_many"] spNext := by
  refine F.ok scN (fun vs H Q E h => ?_) (fun cdv A outer s H vs Q E hr h => ?_)
  · obtain ⟨p, zs, m, rfl, _⟩ := h
    rfl
  · obtain ⟨p, zs, m, rfl, hp, hm, q⟩ := h
    refine ⟨_, PSs.nox (pss_cons (ps_if (pt_cmpR op_eq (pe_callB call_len_seq (by rfl) ml PySem.boot_len (pa_cons (pv 0) pa_nil)) pe_int (nomark _)) (pss_one (ps_ret pe_int)) pss_nil)
      (pss_one (ps_ret (pe_op op_modN (pe_callTy call_int1 (by rfl) mi (by decide +kernel) (pa_cons (pe_bm PySem.F.plainAttrs_list PySem.F.slot_list_pop PySem.F.type_list_pop mt_popAt (pv 0) (pa_cons pe_int pa_nil)) pa_nil)) (pv 1))))), ?_⟩
    refine ⟨.ref p, rfl, p, zs.map V.int, rfl, .inl (SqL.of hp), rfl, _, rfl, ite2 (fun e => ?_) (fun e => ?_)⟩
    · have z := q 0 zs (Int.le_refl _) hm (Nat.le_refl _)
      rw [upd_self hp] at z
      exact z
    · cases zs with
      | nil => exact absurd (decide_eq_true rfl) e
      | cons z zs =>
        refine ⟨.ref p, rfl, .inl ⟨rfl, _, SqL.of hp⟩, p, _, 0, 0, .int z, rfl, rfl, hp, by decide, by decide, ?_, rfl, .inl ⟨z, rfl, .int m, rfl, z, m, rfl, rfl, by omega, ?_⟩⟩
        · exact seqIndex?_zero (by rw [List.length_map, List.length_cons]; omega)
        · exact q _ zs (Int.fmod_nonneg_of_pos _ hm) (Int.fmod_lt_of_pos _ hm) (Nat.le_succ _)
/-! ### all draws -/
def spDraws (K : PySem.W.Frag) : Sp := fun vs H Q _ => ∃ (a : Addr) (ns : List Int), vs = [.ref a] ∧ SqL K H a (ns.map V.int) ∧ ∀ (H' : Hp) (p : Addr) (zs : List Int), Same H H' → H p = none → H' p = some (.lst (zs.map V.int)) → zs.length ≤ 600 → Q (.ref p) H'
theorem cut_ints (ns : List Int) (lo hi : Option Int) : ∃ ms : List Int, cutV (ns.map V.int) lo hi = ms.map V.int := by
  unfold cutV
  rw [← List.map_drop, ← List.map_take]
  exact ⟨_, rfl⟩
/-- the frame of _law_draws between two turns: the list at p holds the draws -/
def DrS (H : Hp) (a p c : Addr) (ms : List Int) (σ : L2.St) (H3 : Hp) : Prop :=
  ∃ (y2 y3 y4 y5 y6 : Option V) (zs : List Int), σ = [some (.ref a), some (.ref p), y2, y3, y4, y5, y6] ∧ Same H H3 ∧ H3 c = some (.lst (ms.map V.int)) ∧ H3 p = some (.lst (zs.map V.int)) ∧ zs.length ≤ 600
/-- .. within a turn: the number, the mixed number -/
def DrI (H : Hp) (a p c : Addr) (ms : List Int) (σ : L2.St) (H3 : Hp) : Prop :=
  ∃ (y2 y3 y5 y6 : Option V) (n : Int) (zs : List Int), σ = [some (.ref a), some (.ref p), y2, y3, some (.int n), y5, y6] ∧ Same H H3 ∧ H3 c = some (.lst (ms.map V.int)) ∧ H3 p = some (.lst (zs.map V.int)) ∧ zs.length ≤ 600
def DrJ (H : Hp) (a p c : Addr) (ms : List Int) (σ : L2.St) (H3 : Hp) : Prop :=
  ∃ (y2 y3 y5 : Option V) (n m : Int) (zs : List Int), σ = [some (.ref a), some (.ref p), y2, y3, some (.int n), y5, some (.int m)] ∧ Same H H3 ∧ H3 c = some (.lst (ms.map V.int)) ∧ H3 p = some (.lst (zs.map V.int)) ∧ zs.length ≤ 600
theorem map_snoc (zs : List Int) (v : Int) : zs.map V.int ++ [V.int v] = (zs ++ [v]).map V.int := by rw [List.map_append]; rfl
theorem app_ok {H H5 : Hp} {p c : Addr} {zs : List Int} {o : HO} (sm : Same H H5) (ec : H5 c = some o) (np : H p = none) (ncp : p ≠ c) (hl : zs.length < 600) (v : Int) :
    Same H (upd H5 p (.lst (zs.map V.int ++ [V.int v]))) ∧ upd H5 p (.lst (zs.map V.int ++ [V.int v])) c = some o ∧ upd H5 p (.lst (zs.map V.int ++ [V.int v])) p = some (.lst ((zs ++ [v]).map V.int)) ∧ (zs ++ [v]).length ≤ 600 := by
  refine ⟨Same.put sm np, ?_, ?_, ?_⟩
  · rw [upd_ne ncp.symm]
    exact ec
  · rw [upd_same, map_snoc]
  · rw [List.length_append, List.length_singleton]
    omega
theorem ok_draws {f : Addr} {fd : FuncData} (F : FnP K "_law_draws" sDraws f fd) (me : mg "enumerate" = none) (ma : mg "abs" = none) (mi : mg "int" = none) (mr : mg "range" = none) (ml : mg "len" = none) : FnOk P w K mg base CX0 1 f fd ["_law_script"] (spDraws K) := by
  refine F.ok scD (fun vs H Q E h => ?_) (fun cdv A outer s H vs Q E hr h => ?_)
  · obtain ⟨a, ns, rfl, _⟩ := h
    rfl
  · obtain ⟨a, ns, rfl, hS, q⟩ := h
    refine ⟨_, PSs.nox (pss_cons (ps_set (i := 1) scD.nd rfl (.inl rfl) (pe_lst pa_nil))
      (pss_cons (ps_for PassesOwn.never rfl (pi_enum (by rfl) me (pa_cons (pe_slice sl_list (pv 0) po_none (po_some pe_int)) pa_nil))
          (pg_tup rfl (pgs_cons (pg_name (i := 2) scD.nd rfl (.inl rfl)) (pgs_cons (pg_name (i := 3) scD.nd rfl (.inl rfl)) pgs_nil)))
        (pss_cons (ps_set (i := 4) scD.nd rfl (.inl rfl) (pe_op op_add (pe_op op_mul pe_int (pe_callB call_abs (by rfl) ma (by decide +kernel) (pa_cons (pv 3) pa_nil))) (pe_callTy call_int1 (by rfl) mi (by decide +kernel) (pa_cons (pe_cmpR op_lt (pv 3) pe_int (nomark _)) pa_nil))))
        (pss_one (ps_if (pt_cmpR op_ge (pv 4) (pe_op op_mul pe_int (pe_op op_pow pe_int pe_int)) (nomark _))
          (pss_one (ps_for PassesOwn.never rfl (pi_range1 rfl mr (pa_cons pe_int pa_nil)) (pg_name (i := 5) scD.nd rfl (.inl rfl))
            (pss_one (ps_if (PW.pt (pw_and (pt_cmpR op_gt (pv 4) pe_int (nomark _)) (pw_and1 (pt_cmpR op_lt (pe_callB call_len_seq (by rfl) ml PySem.boot_len (pa_cons (pv 1) pa_nil)) pe_int (nomark _)))))
              (pss_cons (ps_expr (pe_bm PySem.F.plainAttrs_list PySem.F.slot_list_append PySem.F.type_list_append mt_append (pv 1) (pa_cons (pe_op op_mod (pe_callTy call_int1 (by rfl) mi (by decide +kernel) (pa_cons (pv 4) pa_nil)) pe_int) pa_nil)))
                (pss_one (ps_set (i := 4) scD.nd rfl (.inl rfl) (pe_op op_fdiv (pv 4) pe_int)))) pss_nil))))
          (pss_cons (ps_set (i := 6) scD.nd rfl (.inl rfl) (pe_op op_mod (pe_callTy call_int1 (by rfl) mi (by decide +kernel) (pa_cons (pe_op op_add (pe_op op_add (pe_op op_mul (pv 4) pe_int) (pe_op op_mul (pv 2) pe_int)) pe_int) pa_nil)) pe_int))
            (pss_one (ps_for PassesOwn.never rfl (pi_range1 rfl mr (pa_cons pe_int pa_nil)) (pg_name (i := 5) scD.nd rfl (.inl rfl))
              (pss_cons (ps_set (i := 6) scD.nd rfl (.inl rfl) (pe_op op_mod (pe_callTy call_int1 (by rfl) mi (by decide +kernel) (pa_cons (pe_op op_add (pe_op op_add (pe_op op_mul (pv 6) pe_int) (pe_op op_mul (pv 4) pe_int)) (pv 5)) pa_nil)) pe_int))
              (pss_one (ps_if (pt_cmpR op_lt (pe_callB call_len_seq (by rfl) ml PySem.boot_len (pa_cons (pv 1) pa_nil)) pe_int (nomark _))
                (pss_one (ps_expr (pe_bm PySem.F.plainAttrs_list PySem.F.slot_list_append PySem.F.type_list_append mt_append (pv 1) (pa_cons (pe_op op_fdiv (pv 6) pe_int) pa_nil)))) pss_nil))))))))))
      (pss_one (ps_ret (pv 1))))), ?_⟩
    obtain ⟨ms, ems⟩ := cut_ints ns none (some 63)
    refine ⟨Nat.zero_le _, fun p np => ?_⟩
    have s1 : Same H (upd H p (.lst [])) := same_upd np
    refine ⟨.ref a, rfl, 63, rfl, a, ns.map V.int, rfl, s1.seq hS, fun c nc => ?_⟩
    have ncp : p ≠ c := fun e => by
      rw [← e, upd_same] at nc
      cases nc
    have nc0 : H c = none := s1.free nc
    rw [ems]
    refine ⟨c, ms.map V.int, rfl, SqL.of upd_same, for_enum (K := K) (a := c) (xs := ms.map V.int) (fun _ σ H3 => DrS H a p c ms σ H3) ⟨none, none, none, none, none, [], rfl, (Same.put s1 nc0), upd_same, ?_, by decide⟩ (fun i σ H3 _ ⟨_, _, _, _, _, _, _, _, ec, _⟩ => SqL.of ec) ?_ ?_⟩
    · rw [upd_ne ncp, upd_same]
      rfl
    · rintro i x σ H3 T hx ⟨y2, y3, y4, y5, y6, zs, rfl, sm, ec, ep, hz⟩ nT
      obtain ⟨z, rfl⟩ : ∃ z, x = V.int z := by
        rw [List.getElem?_map] at hx
        cases e : ms[i]? with
        | none =>
          rw [e] at hx
          cases hx
        | some z =>
          rw [e] at hx
          exact ⟨z, (Option.some.inj hx).symm⟩
      refine ⟨T, [.int (i : Nat), .int z], rfl, .inl (.inl upd_same), rfl, .int (i : Nat), [.int z], rfl, .int z, [], rfl, rfl, ?_⟩
      have sm4 : Same H (upd H3 T (.tup [.int (i : Nat), .int z])) := sm.trans (same_upd nT)
      have ec4 : (upd H3 T (.tup [.int (i : Nat), .int z])) c = some (.lst (ms.map V.int)) := by rw [upd_ne (ne_of_none ec nT)]; exact ec
      have ep4 : (upd H3 T (.tup [.int (i : Nat), .int z])) p = some (.lst (zs.map V.int)) := by rw [upd_ne (ne_of_none ep nT)]; exact ep
      generalize upd H3 T (.tup [.int (i : Nat), .int z]) = H4 at sm4 ec4 ep4
      refine ⟨.int z, rfl, z, rfl, 2, _, rfl, rfl, .inl ⟨by decide, by decide⟩, .int z, rfl, z, 0, rfl, rfl, .inr ⟨_, rfl, _, _, rfl, rfl, ?_⟩⟩
      refine ⟨_, rfl, 10, 18, rfl, rfl, ⟨by decide, by decide, by decide⟩, 2, _, rfl, rfl, .inl ⟨by decide, by decide⟩, _, _, rfl, rfl, _, rfl, ite2 (fun _ => ?_) (fun _ => ?_)⟩
      · -- for turn in range(60)
        refine ⟨60, rfl, by decide, by decide, for_range (n := 60) (fun _ σ H5 => DrI H a p c ms σ H5) ⟨_, _, _, _, _, zs, rfl, sm4, ec4, ep4, hz⟩ ?_ ?_⟩
        · rintro k σ H5 _ ⟨z2, z3, z5, z6, n5, zs5, rfl, sm5, ec5, ep5, hz5⟩
          refine ⟨.int n5, rfl, n5, 0, rfl, rfl, _, rfl, ite2 (fun _ => ?_) (fun _ => ?_)⟩
          · refine ⟨.ref p, rfl, p, _, rfl, .inl (SqL.of ep5), _, _, rfl, rfl, _, rfl, ite2 (fun hl => ?_) (fun _ => ?_)⟩
            · have hl5 : zs5.length < 600 := by
                have := of_decide_eq_true hl
                rw [List.length_map] at this
                omega
              refine ⟨.ref p, rfl, .inl ⟨rfl, _, SqL.of ep5⟩, .int n5, rfl, .inl ⟨n5, rfl, n5, 720, rfl, rfl, (by show (0 : Int) < 720; decide), p, _, _, rfl, rfl, ep5, small1000 (by rw [List.length_map]; omega), ?_⟩⟩
              refine ⟨.int n5, rfl, n5, 720, rfl, rfl, ⟨by decide, by decide⟩, z2, z3, _, z6, _, zs5 ++ [n5 % 720], rfl, app_ok sm5 ec5 np ncp hl5 _⟩
            · exact ⟨z2, z3, _, z6, n5, zs5, rfl, sm5, ec5, ep5, hz5⟩
          · exact ⟨z2, z3, _, z6, n5, zs5, rfl, sm5, ec5, ep5, hz5⟩
        · rintro σ H5 ⟨z2, z3, z5, z6, n5, zs5, rfl, sm5, ec5, ep5, hz5⟩
          exact ⟨_, _, _, _, _, zs5, rfl, sm5, ec5, ep5, hz5⟩
      · -- the mixed number, for turn in range(6)
        refine ⟨_, rfl, _, 48271, rfl, rfl, .inr ⟨by decide, by decide⟩, _, rfl, _, 7919, rfl, rfl, .inr ⟨by decide, by decide⟩, _, _, rfl, rfl, _, _, rfl, rfl, .inl ⟨_, rfl, _, 2147483647, rfl, rfl, (by show (0 : Int) < 2147483647; decide), ?_⟩⟩
        refine ⟨6, rfl, by decide, by decide, for_range (n := 6) (fun _ σ H5 => DrJ H a p c ms σ H5) ⟨_, _, _, _, _, zs, rfl, sm4, ec4, ep4, hz⟩ ?_ ?_⟩
        · rintro k σ H5 _ ⟨z2, z3, z5, n5, m5, zs5, rfl, sm5, ec5, ep5, hz5⟩
          refine ⟨_, rfl, _, 69621, rfl, rfl, .inr ⟨by decide, by decide⟩, _, rfl, _, 31, rfl, rfl, .inr ⟨by decide, by decide⟩, _, _, rfl, rfl, _, rfl, _, _, rfl, rfl, .inl ⟨_, rfl, _, 2147483629, rfl, rfl, (by show (0 : Int) < 2147483629; decide), ?_⟩⟩
          refine ⟨.ref p, rfl, p, _, rfl, .inl (SqL.of ep5), _, _, rfl, rfl, _, rfl, ite2 (fun hl => ?_) (fun _ => ?_)⟩
          · have hl5 : zs5.length < 600 := by
              have := of_decide_eq_true hl
              rw [List.length_map] at this
              omega
            refine ⟨.ref p, rfl, .inl ⟨rfl, _, SqL.of ep5⟩, _, rfl, _, 127, rfl, rfl, ⟨by decide, by decide⟩, p, _, _, rfl, rfl, ep5, small1000 (by rw [List.length_map]; omega), ?_⟩
            exact ⟨z2, z3, _, _, _, zs5 ++ [_], rfl, app_ok sm5 ec5 np ncp hl5 _⟩
          · exact ⟨z2, z3, _, _, _, zs5, rfl, sm5, ec5, ep5, hz5⟩
        · rintro σ H5 ⟨z2, z3, z5, n5, m5, zs5, rfl, sm5, ec5, ep5, hz5⟩
          exact ⟨_, _, _, _, _, zs5, rfl, sm5, ec5, ep5, hz5⟩
    · rintro σ H3 ⟨y2, y3, y4, y5, y6, zs, rfl, sm, ec, ep, hz⟩
      exact ⟨.ref p, rfl, q H3 p zs sm np ep hz⟩
end
end K10
namespace K10
open PySem PySem.Spec PyProof.Rows L2
abbrev sIs : Stmt := top 11
def lets : Str := "abcdefghijklmnopqrstuvwxyz"
def digs : Str := "0123456789"
def RES : List Str := ["lock", "kind", "body", "routine", "done", "do", "with", "block", "either", "or", "repeat", "close", "drop", "give", "skip", "make", "copy", "fetch", "read", "keep", "write", "put", "call", "take", "as"]
def okc (c : Nat) : Bool := decide (c ∈ lets.cps.toList) || decide (c ∈ digs.cps.toList)
def headOk (s : Str) : Bool := match s.cps[0]? with
  | some c => decide (c ∈ lets.cps.toList)
  | none => false
def isName (s : Str) : Bool := (decide (1 ≤ s.length) && decide (s.length ≤ 8)) && (headOk s && !inV (.str s) (RES.map V.str) && s.cps.toList.all okc)
theorem RES_flat : (RES.map V.str).all flatV = true := by decide +kernel
/-- a value that is_name is asked of, and what it answers -/
inductive Ask (H : Hp) : V → Bool → Prop where
  | str (s : Str) (h : s.length ≤ 1000) : Ask H (.str s) (isName s)
  | non : Ask H .non false
  | bl (k : Bool) : Ask H (.bl k) false
  | int (i : Int) : Ask H (.int i) false
  | lst (p : Addr) (xs : List V) (h : H p = some (.lst xs)) : Ask H (.ref p) false
  | tup (p : Addr) (xs : List V) (h : H p = some (.tup xs)) : Ask H (.ref p) false
/-- is it a text? -/
def strB : V → Bool
  | .str _ => true
  | _ => false
theorem ask_isi {K : PySem.W.Frag} {H : Hp} {v : V} {b : Bool} (a : Ask H v b) : ∃ t, TyX K H v t ∧ PySem.W.kitOne K t (.type "str") = some (strB v) := by
  cases a with
  | str s h => exact ⟨_, .base (.str s), kit_ty (a := "str") (b := "str") (r := true) (by decide +kernel)⟩
  | non => exact ⟨_, .base .non, kit_ty (r := false) (by decide +kernel)⟩
  | bl k => exact ⟨_, .base (.bl k), kit_ty (a := "bool") (b := "str") (r := false) (by decide +kernel)⟩
  | int i => exact ⟨_, .base (.int i), kit_ty (a := "int") (b := "str") (r := false) (by decide +kernel)⟩
  | lst p xs h => exact ⟨_, .base (.lst h), kit_ty (a := "list") (b := "str") (r := false) (by decide +kernel)⟩
  | tup p xs h => exact ⟨_, .base (.tup h), kit_ty (a := "tuple") (b := "str") (r := false) (by decide +kernel)⟩
theorem scI : FnScope ["value", "letter"] ["value"] (defScope sIs) := ⟨rfl, rfl, rfl, by decide +kernel, rfl, by decide +kernel, by decide +kernel⟩
/-- what the module's names hold -/
structure Nm (K : PySem.W.Frag) (mg : Str → Option Value) (aR : Addr) : Prop where
  isi : mg "isinstance" = none
  str : mg "str" = none
  len : mg "len" = none
  all : mg "all" = none
  most : ∃ t, mg "_MOST_CHARACTERS" = some (.int 8 t)
  lets : ∃ t, mg "_LETTERS" = some (.str K10.lets t)
  digs : ∃ t, mg "_DIGITS" = some (.str K10.digs t)
  res : mg "RESERVED" = some (.ref aR)
  resT : ∀ H : Hp, SqT K H aR (RES.map V.str)
theorem ifN {c A B : Prop} [Decidable c] (h1 : c → B) (h2 : ¬ c → A) : if (!decide c) = true then A else B := by
  by_cases h : c
  · rw [decide_eq_true h]
    exact iteF (h1 h)
  · rw [decide_eq_false h]
    exact iteT (h2 h)
theorem ifB {A B : Prop} {c : Bool} (h1 : c = true → A) (h2 : c = false → B) : if c = true then A else B := by
  cases c with
  | true => exact iteT (h1 rfl)
  | false => exact iteF (h2 rfl)
theorem first_cp {s : Str} (h : 1 ≤ s.length) : ∃ c, s.cps[0]? = some c := by
  have h2 : 0 < s.cps.size := h
  exact ⟨_, Array.getElem?_eq_getElem h2⟩
theorem isName_short {s : Str} (h : ¬ 1 ≤ s.length) : isName s = false := by
  unfold isName
  rw [decide_eq_false h]
  rfl
theorem isName_long {s : Str} (h : ¬ s.length ≤ 8) : isName s = false := by
  unfold isName
  rw [decide_eq_false h, Bool.and_false]
  rfl
theorem isName_head {s : Str} {c : Nat} (h : s.cps[0]? = some c) (hc : ¬ c ∈ lets.cps.toList) : isName s = false := by
  have e : headOk s = false := by
    unfold headOk
    rw [h]
    exact decide_eq_false hc
  unfold isName
  rw [e, Bool.false_and, Bool.false_and, Bool.and_false]
theorem isName_res {s : Str} (h : inV (.str s) (RES.map V.str) = true) : isName s = false := by
  unfold isName
  rw [h, Bool.not_true, Bool.and_false, Bool.false_and, Bool.and_false]
theorem isName_all {s : Str} {c : Nat} (h1 : 1 ≤ s.length) (h2 : s.length ≤ 8) (h : s.cps[0]? = some c) (hc : c ∈ lets.cps.toList) (hr : inV (.str s) (RES.map V.str) = false) : isName s = s.cps.toList.all okc := by
  have e : headOk s = true := by
    unfold headOk
    rw [h]
    exact decide_eq_true hc
  unfold isName
  rw [e, hr, decide_eq_true h1, decide_eq_true h2]
  rfl
theorem take_snoc {s : Str} {i c : Nat} (h : s.cps[i]? = some c) : s.cps.toList.take (i + 1) = s.cps.toList.take i ++ [c] := by
  have h2 : s.cps.toList[i]? = some c := by rw [Array.getElem?_toList]; exact h
  rw [List.take_add_one, h2]
  rfl
section
variable {P : Program} {w : World} {K : PySem.W.Frag} {mg : Str → Option Value} {base : Heap} {aR : Addr}
def spIs : Sp := fun vs H Q _ => ∃ (v : V) (b : Bool), vs = [v] ∧ Ask H v b ∧ ∀ H', Same H H' → Q (.bl b) H'
theorem ok_is {f : Addr} {fd : FuncData} (F : FnP K "is_name" sIs f fd) (N : Nm K mg aR) : FnOk P w K mg base CX0 1 f fd ["value"] spIs := by
  obtain ⟨tm, hm⟩ := N.most
  obtain ⟨tl, hl⟩ := N.lets
  obtain ⟨td, hd⟩ := N.digs
  refine F.ok scI (fun vs H Q E h => ?_) (fun cdv A outer s H vs Q E hr h => ?_)
  · obtain ⟨v, b, rfl, _⟩ := h
    rfl
  · obtain ⟨v, b, rfl, ask, q⟩ := h
    refine ⟨_, PSs.nox (pss_cons (ps_if (PW.pt (pw_or (pt_not (pt_val (pe_callB call_isi (by rfl) N.isi (by decide +kernel) (pa_cons (pv 0) (pa_cons (pe_bltn (v := .ty "str") (by rfl) N.str (by decide +kernel) rfl) pa_nil)))))
        (pw_or1 (pt_not (pt_chain op_le op_le pe_int (pe_callB call_len_str (by rfl) N.len PySem.boot_len (pa_cons (pv 0) pa_nil)) (pe_glob (v := .int 8) (by rfl) hm ⟨_, rfl⟩)))))) (pss_one (ps_ret pe_bl)) pss_nil)
      (pss_cons (ps_if (PW.pt (pw_or (pt_cmpR op_notIn_sign (pe_item_str (pv 0) pe_int (fun _ _ => rfl)) (pe_glob (v := .str lets) (by rfl) hl ⟨_, rfl⟩) rfl)
        (pw_or1 (pt_cmpR op_in_seq (pv 0) (pe_glob (v := .ref aR) (by rfl) N.res rfl) rfl)))) (pss_one (ps_ret pe_bl)) pss_nil)
      (pss_one (ps_ret (pe_callB (cr_all rfl) (by rfl) N.all (by decide +kernel) (pa_cons
        (pe_lc (own := [("letter", 1)]) (g := gName 1) (tt := tYes) rfl scI.nd (pi_str (pv 0)) (blkOk_by (N := ["value", "letter"]) (sc := defScope sIs) (by decide +kernel)) (fun _ _ _ _ _ => pg_name (i := 1) scI.nd rfl (.inl rfl)) (fun _ _ _ _ _ => pts_nil)
          (fun _ _ _ _ _ => pe_or (pe_cmpR op_in_sign (pv 1) (pe_glob (v := .str lets) (by rfl) hl ⟨_, rfl⟩) rfl) (pe_one (pe_cmpR op_in_sign (pv 1) (pe_glob (v := .str digs) (by rfl) hd ⟨_, rfl⟩) rfl)))) pa_nil)))))), ?_⟩
    obtain ⟨t, ty, kt⟩ := ask_isi (K := K) ask
    refine ⟨v, rfl, v, .ty "str", t, .type "str", strB v, rfl, .ty _, ty, kt, strB v, rfl, ?_⟩
    cases ask with
    | str s hs =>
      refine iteF ?_
      refine ⟨.str s, rfl, s, rfl, by rw [sizeLine_eq]; omega, 1, _, rfl, rfl, _, rfl, ite2 (fun h1 => ?_) (fun h1 => ?_)⟩
      · have h1 : 1 ≤ s.length := by
          have := of_decide_eq_true h1
          omega
        refine ⟨_, _, rfl, rfl, _, rfl, ifN (fun h2 => ?_) (fun h2 => ?_)⟩
        · have h2 : s.length ≤ 8 := by omega
          obtain ⟨c, hc⟩ := first_cp h1
          refine ⟨.str s, rfl, s, 0, c, rfl, rfl, by decide, by decide, by omega, hc, c, lets, rfl, rfl, _, rfl, ifN (fun h3 => ?_) (fun h3 => ?_)⟩
          · refine ⟨.str s, rfl, aR, RES.map V.str, rfl, .inr (N.resT _), rfl, RES_flat, _, rfl, ifB (fun h4 => ?_) (fun h4 => ?_)⟩
            · have z := q _ (Same.refl _)
              rw [isName_res h4] at z
              exact z
            · have e := isName_all h1 h2 hc h3 h4
              rw [e] at q
              refine ⟨.str s, rfl, s, rfl, fun D nD => lc_it walk_str (fun i H3 => Same H H3 ∧ H3 D = some (.lst (((s.cps.toList.take i).map okc).map V.bl))) ⟨same_upd nD, upd_same⟩ (fun _ _ _ _ => True.intro) ?_ ?_⟩
              · rintro i x H3 H4 hi ⟨sm, eD⟩ ⟨rfl, k, hk, rfl⟩
                refine ⟨rfl, iteT (B := Same H H4 ∧ H4 D = some (.lst (((s.cps.toList.take (i + 1)).map okc).map V.bl))) ?_⟩
                have fin : ∀ b : Bool, okc k = b → ∃ acc, H4 D = some (.lst acc) ∧ acc.length < sizeLine ∧ Same H (upd H4 D (.lst (acc ++ [V.bl b]))) ∧ upd H4 D (.lst (acc ++ [V.bl b])) D = some (.lst (((s.cps.toList.take (i + 1)).map okc).map V.bl)) := fun b hb => by
                  refine ⟨_, eD, small1000 ?_, Same.put sm nD, ?_⟩
                  · rw [List.length_map, List.length_map, List.length_take]
                    have : s.cps.toList.length ≤ 8 := h2
                    omega
                  · rw [upd_same, take_snoc hk, List.map_append, List.map_append, ← hb]
                    rfl
                refine ⟨.str ⟨#[k]⟩, rfl, k, lets, rfl, rfl, _, rfl, ite2 (fun h5 => ?_) (fun h5 => ?_)⟩
                · exact fin true (by unfold okc; rw [h5]; rfl)
                · refine ⟨.str ⟨#[k]⟩, rfl, k, digs, rfl, rfl, ?_⟩
                  exact fin _ (by unfold okc; rw [Bool.eq_false_iff.mpr h5]; rfl)
              · rintro H3 ⟨sm, eD⟩
                rw [show s.cps.toList.take s.cps.size = s.cps.toList from List.take_of_length_le (Nat.le_refl _)] at eD
                refine ⟨D, (s.cps.toList.map okc), rfl, SqL.of eD, ?_⟩
                rw [show (s.cps.toList.map okc).all id = s.cps.toList.all okc by rw [List.all_map]; rfl]
                exact q _ sm
          · have z := q _ (Same.refl _)
            rw [isName_head hc h3] at z
            exact z
        · have z := q _ (Same.refl _)
          rw [isName_long (by omega)] at z
          exact z
      · have z := q _ (Same.refl _)
        rw [isName_short (fun h => h1 (decide_eq_true (by omega)))] at z
        refine ⟨_, rfl, iteT z⟩
    | non => exact iteT (iteT (q _ (Same.refl _)))
    | bl k => exact iteT (iteT (q _ (Same.refl _)))
    | int i => exact iteT (iteT (q _ (Same.refl _)))
    | lst p xs h => exact iteT (iteT (q _ (Same.refl _)))
    | tup p xs h => exact iteT (iteT (q _ (Same.refl _)))
end
end K10
namespace K10
open PySem PySem.Spec PyProof.Rows L2
abbrev D := PyData
def nmD : D → Bool
  | .str s => isName s
  | _ => false
def isStr : D → Bool
  | .str _ => true
  | _ => false
def toStr : D → Str
  | .str s => s
  | _ => ""
def isAs (d : D) : Bool := PyData.eqv d (.str "as")
theorem isAs_str (s : Str) : isAs (.str s) = (s == "as") := by unfold isAs; simp [PyData.eqv]
theorem nm_str {d : D} (h : nmD d = true) : d = .str (toStr d) ∧ isName (toStr d) = true := by
  cases d with
  | str s => exact ⟨rfl, h⟩
  | _ => cases h
theorem strs_of : ∀ {ds : List D}, ds.all nmD = true → ds = (ds.map toStr).map PyData.str ∧ (ds.map toStr).all isName = true
  | [], _ => ⟨rfl, rfl⟩
  | d :: ds, h => by
    rw [List.all_cons, Bool.and_eq_true] at h
    obtain ⟨e1, e2⟩ := nm_str h.1
    obtain ⟨e3, e4⟩ := strs_of h.2
    refine ⟨?_, ?_⟩
    · rw [List.map_cons, List.map_cons, ← e1, ← e3]
    · rw [List.map_cons, List.all_cons, e2, e4]; rfl
theorem all_nm (ws : List Str) : (ws.map PyData.str).all nmD = ws.all isName := by
  rw [List.all_map]; rfl
theorem toStr_map : ∀ ws : List Str, (ws.map PyData.str).map toStr = ws
  | [] => rfl
  | w :: ws => by rw [List.map_cons, List.map_cons, toStr_map ws]; rfl
theorem as_not : isName "as" = false := by decide +kernel
theorem nm_ne {w : Str} (h : isName w = true) : w ≠ "as" := fun e => by
  rw [e, as_not] at h
  cases h
theorem nm_32 {w : Str} (h : isName w = true) : 32 ∉ w.cps.toList := fun hm => by
  unfold isName at h
  simp only [Bool.and_eq_true] at h
  have z := List.all_eq_true.mp h.2.2 32 hm
  revert z
  decide +kernel
/-! ### the last two of a list -/
theorem two_last {α : Type} {ds : List α} (h : 2 ≤ ds.length) : ∃ r a b, ds = r ++ [a, b] := by
  obtain ⟨b, r, e⟩ : ∃ b r, ds.reverse = b :: r := by
    cases e : ds.reverse with
    | nil =>
      have := congrArg List.length e
      rw [List.length_reverse, List.length_nil] at this
      omega
    | cons b r => exact ⟨b, r, rfl⟩
  cases r with
  | nil =>
    have := congrArg List.length e
    rw [List.length_reverse] at this
    simp at this
    omega
  | cons a r =>
    refine ⟨r.reverse, a, b, ?_⟩
    have := congrArg List.reverse e
    rw [List.reverse_reverse] at this
    rw [this]
    simp
def end2 {α : Type} (ds : List α) : Option (List α × α × α) := match ds.reverse with
  | b :: a :: r => some (r.reverse, a, b)
  | _ => none
theorem end2_app {α : Type} (r : List α) (a b : α) : end2 (r ++ [a, b]) = some (r, a, b) := by
  unfold end2
  have e : (r ++ [a, b]).reverse = b :: a :: r.reverse := by simp
  rw [e]
  simp
theorem end2_short {α : Type} {ds : List α} (h : ds.length < 2) : end2 ds = none := by
  unfold end2
  cases ds with
  | nil => rfl
  | cons d ds => cases ds with
    | nil => rfl
    | cons e ds => simp at h; omega
/-! ### the program's deeds -/
def wg (ds : List D) : List D := match end2 ds with
  | some (r, a, b) => if (decide (1 < r.length) && (isAs a && nmD b)) = true then r else ds
  | none => ds
theorem wg_app (r : List D) (a b : D) : wg (r ++ [a, b]) = if (decide (1 < r.length) && (isAs a && nmD b)) = true then r else r ++ [a, b] := by
  unfold wg
  rw [end2_app]
theorem wg_short {ds : List D} (h : ds.length ≤ 3) : wg ds = ds := by
  by_cases h2 : 2 ≤ ds.length
  · obtain ⟨r, a, b, rfl⟩ := two_last h2
    rw [wg_app, if_neg]
    have : ¬ 1 < r.length := by simp at h; omega
    simp [this]
  · unfold wg
    rw [end2_short (by omega)]
def flagAt (ws : List Str) (i : Nat) : Bool := match ws[i]? with
  | some w => inV (.str w) ((ws.take i).map V.str)
  | none => false
def hasRep (ws : List Str) : Bool := ((List.range ws.length).map (flagAt ws)).any id
def LEN : List (Str × Nat) := [("skip", 1), ("make", 2), ("copy", 3), ("read", 3), ("keep", 3), ("write", 3), ("put", 2)]
def isCall : List D → Bool
  | [_, n, .tuple ps] => nmD n && ps.all nmD
  | _ => false
def namesOf (w : Str) (r : List D) : List D := if w = "take" then (wg (.str w :: r)).drop 1 else r
def lenB (h : Str) (n : Nat) : Bool := match LEN.lookup h with
  | some k => decide (n = k)
  | none => false
def isDeedL : List D → Bool
  | .str w :: r => if w = "call" then isCall (wg (.str w :: r)) else
      ((namesOf w r).all nmD && (if w = "take" then decide ((namesOf w r).length = 1)
        else if w = "fetch" then decide (0 < (namesOf w r).length) && !hasRep (((namesOf w r).drop 1).map toStr)
        else lenB w (r.length + 1)))
  | _ => false
def isDeed : D → Bool
  | .tuple ds => isDeedL ds
  | _ => false
/-! ### words -/
def cut (ws : List Str) : List Str × List Str := match end2 ws with
  | some (r, a, b) => if r ≠ [] ∧ a = "as" then (r, [a, b]) else (ws, [])
  | none => (ws, [])
def build (ws : List Str) : List D := match (cut ws).1 with
  | h :: r => if h = "call" then .str h :: ((r.take 1).map PyData.str ++ (.tuple ((r.drop 1).map .str) :: (cut ws).2.map .str)) else (h :: (r ++ (cut ws).2)).map .str
  | [] => []
def lawForm (h : Str) (r t : List Str) : Option (List D) :=
  if h = "take" ∧ r.length = 1 then some ((h :: (r ++ t)).map .str)
  else if h = "call" ∧ 0 < r.length then some (.str h :: ((r.take 1).map PyData.str ++ (.tuple ((r.drop 1).map .str) :: t.map .str)))
  else if h = "fetch" ∧ 0 < r.length then (if hasRep (r.drop 1) = true then none else some ((h :: r).map .str))
  else if h = "skip" ∧ r.length = 0 then some [.str h]
  else if (h = "make" ∨ h = "put") ∧ r.length = 1 then some ((h :: r).map .str)
  else if (h = "copy" ∨ h = "read" ∨ h = "keep" ∨ h = "write") ∧ r.length = 2 then some ((h :: r).map .str)
  else none
def lawRead (ws : List Str) : Option (List D) := match (cut ws).1 with
  | h :: r => if (r ++ (cut ws).2.drop 1).all isName = true then (if (cut ws).2 ≠ [] ∧ ¬ (h = "take" ∨ h = "call") then none else lawForm h r (cut ws).2) else none
  | [] => none
theorem cut_cases (ws : List Str) : ((cut ws).2 = [] ∧ (cut ws).1 = ws) ∨ ∃ r g, r ≠ [] ∧ ws = r ++ [("as" : Str), g] ∧ (cut ws).1 = r ∧ (cut ws).2 = [("as" : Str), g] := by
  by_cases h2 : 2 ≤ ws.length
  · obtain ⟨r, a, b, rfl⟩ := two_last h2
    unfold cut
    rw [end2_app]
    by_cases h : r ≠ [] ∧ a = "as"
    · refine .inr ⟨r, b, h.1, by rw [h.2], ?_, ?_⟩
      · show (if r ≠ [] ∧ a = "as" then (r, [a, b]) else (r ++ [a, b], [])).1 = r
        rw [if_pos h]
      · show (if r ≠ [] ∧ a = "as" then (r, [a, b]) else (r ++ [a, b], [])).2 = _
        rw [if_pos h, h.2]
    · refine .inl ⟨?_, ?_⟩
      · show (if r ≠ [] ∧ a = "as" then (r, [a, b]) else (r ++ [a, b], [])).2 = []
        rw [if_neg h]
      · show (if r ≠ [] ∧ a = "as" then (r, [a, b]) else (r ++ [a, b], [])).1 = _
        rw [if_neg h]
  · unfold cut
    rw [end2_short (by omega)]
    exact .inl ⟨rfl, rfl⟩
theorem cut_as {r : List Str} (h : r ≠ []) (g : Str) : cut (r ++ [("as" : Str), g]) = (r, [("as" : Str), g]) := by
  unfold cut
  rw [end2_app]
  show (if r ≠ [] ∧ ("as" : Str) = "as" then (r, [("as" : Str), g]) else (r ++ [("as" : Str), g], [])) = _
  rw [if_pos ⟨h, rfl⟩]
theorem cut_no {h : Str} {r : List Str} (hr : ∀ w ∈ r, w ≠ "as") : cut (h :: r) = (h :: r, []) := by
  rcases cut_cases (h :: r) with ⟨e1, e2⟩ | ⟨r2, g, hne, e, _, _⟩
  · exact Prod.ext e2 e1
  · cases r2 with
    | nil => exact absurd rfl hne
    | cons k r2 =>
      rw [List.cons_append] at e
      injection e with _ e
      exact absurd rfl (hr "as" (by rw [e]; simp))
/-- tails: none, or as and a word -/
def Tl (t : List Str) : Prop := t = [] ∨ ∃ g, t = [("as" : Str), g]
theorem wg_t {h : D} {r : List D} {t : List Str} (ht : Tl t) (hr : t = [] → ∀ a ∈ r, isAs a = false) (hl : t ≠ [] → r ≠ []) :
    wg (h :: (r ++ t.map .str)) = if (t.drop 1).all isName = true then h :: r else h :: (r ++ t.map .str) := by
  rcases ht with rfl | ⟨g, rfl⟩
  · show wg (h :: (r ++ [])) = h :: r
    rw [List.append_nil]
    by_cases hl : (h :: r).length ≤ 3
    · exact wg_short hl
    · obtain ⟨r2, a, b, e⟩ := two_last (ds := h :: r) (by omega)
      rw [e, wg_app, if_neg]
      have ha : isAs a = false := by
        cases r2 with
        | nil =>
          have e9 := congrArg List.length e
          rw [List.nil_append] at e9
          simp only [List.length_cons, List.length_nil] at e9 hl
          omega
        | cons k r2 =>
          rw [List.cons_append] at e
          injection e with _ e
          exact hr rfl a (by rw [e]; simp)
      rw [ha]
      simp
  · have e : h :: (r ++ ([("as" : Str), g] : List Str).map .str) = (h :: r) ++ [.str "as", .str g] := rfl
    rw [e, wg_app]
    have h1 : 1 < (h :: r).length := by
      have := List.length_pos_iff.mpr (hl (by simp))
      rw [List.length_cons]
      omega
    have h2 : isAs (.str "as") = true := by rw [isAs_str]; rfl
    rw [h2, decide_eq_true h1]
    show (if (true && (true && isName g)) = true then _ else _) = if (([g] : List Str).all isName) = true then _ else _
    have e3 : ([g] : List Str).all isName = isName g := by simp
    rw [e3, Bool.true_and, Bool.true_and]
theorem asl {r : List Str} (h : r.all isName = true) : ∀ a ∈ r.map PyData.str, isAs a = false := by
  intro a ha
  obtain ⟨w, hw, rfl⟩ := List.mem_map.mp ha
  rw [isAs_str]
  exact beq_eq_false_iff_ne.mpr (nm_ne (List.all_eq_true.mp h w hw))
end K10
namespace K10
open PySem PySem.Spec PyProof.Rows L2
theorem ne_take_call : (("take" : Str) = "call") = False := eq_false (by decide +kernel)
theorem ne_take_fetch : (("take" : Str) = "fetch") = False := eq_false (by decide +kernel)
theorem ne_take_skip : (("take" : Str) = "skip") = False := eq_false (by decide +kernel)
theorem ne_take_make : (("take" : Str) = "make") = False := eq_false (by decide +kernel)
theorem ne_take_put : (("take" : Str) = "put") = False := eq_false (by decide +kernel)
theorem ne_take_copy : (("take" : Str) = "copy") = False := eq_false (by decide +kernel)
theorem ne_take_read : (("take" : Str) = "read") = False := eq_false (by decide +kernel)
theorem ne_take_keep : (("take" : Str) = "keep") = False := eq_false (by decide +kernel)
theorem ne_take_write : (("take" : Str) = "write") = False := eq_false (by decide +kernel)
theorem ne_call_take : (("call" : Str) = "take") = False := eq_false (by decide +kernel)
theorem ne_call_fetch : (("call" : Str) = "fetch") = False := eq_false (by decide +kernel)
theorem ne_call_skip : (("call" : Str) = "skip") = False := eq_false (by decide +kernel)
theorem ne_call_make : (("call" : Str) = "make") = False := eq_false (by decide +kernel)
theorem ne_call_put : (("call" : Str) = "put") = False := eq_false (by decide +kernel)
theorem ne_call_copy : (("call" : Str) = "copy") = False := eq_false (by decide +kernel)
theorem ne_call_read : (("call" : Str) = "read") = False := eq_false (by decide +kernel)
theorem ne_call_keep : (("call" : Str) = "keep") = False := eq_false (by decide +kernel)
theorem ne_call_write : (("call" : Str) = "write") = False := eq_false (by decide +kernel)
theorem ne_fetch_take : (("fetch" : Str) = "take") = False := eq_false (by decide +kernel)
theorem ne_fetch_call : (("fetch" : Str) = "call") = False := eq_false (by decide +kernel)
theorem ne_fetch_skip : (("fetch" : Str) = "skip") = False := eq_false (by decide +kernel)
theorem ne_fetch_make : (("fetch" : Str) = "make") = False := eq_false (by decide +kernel)
theorem ne_fetch_put : (("fetch" : Str) = "put") = False := eq_false (by decide +kernel)
theorem ne_fetch_copy : (("fetch" : Str) = "copy") = False := eq_false (by decide +kernel)
theorem ne_fetch_read : (("fetch" : Str) = "read") = False := eq_false (by decide +kernel)
theorem ne_fetch_keep : (("fetch" : Str) = "keep") = False := eq_false (by decide +kernel)
theorem ne_fetch_write : (("fetch" : Str) = "write") = False := eq_false (by decide +kernel)
theorem ne_skip_take : (("skip" : Str) = "take") = False := eq_false (by decide +kernel)
theorem ne_skip_call : (("skip" : Str) = "call") = False := eq_false (by decide +kernel)
theorem ne_skip_fetch : (("skip" : Str) = "fetch") = False := eq_false (by decide +kernel)
theorem ne_skip_make : (("skip" : Str) = "make") = False := eq_false (by decide +kernel)
theorem ne_skip_put : (("skip" : Str) = "put") = False := eq_false (by decide +kernel)
theorem ne_skip_copy : (("skip" : Str) = "copy") = False := eq_false (by decide +kernel)
theorem ne_skip_read : (("skip" : Str) = "read") = False := eq_false (by decide +kernel)
theorem ne_skip_keep : (("skip" : Str) = "keep") = False := eq_false (by decide +kernel)
theorem ne_skip_write : (("skip" : Str) = "write") = False := eq_false (by decide +kernel)
theorem ne_make_take : (("make" : Str) = "take") = False := eq_false (by decide +kernel)
theorem ne_make_call : (("make" : Str) = "call") = False := eq_false (by decide +kernel)
theorem ne_make_fetch : (("make" : Str) = "fetch") = False := eq_false (by decide +kernel)
theorem ne_make_skip : (("make" : Str) = "skip") = False := eq_false (by decide +kernel)
theorem ne_make_put : (("make" : Str) = "put") = False := eq_false (by decide +kernel)
theorem ne_make_copy : (("make" : Str) = "copy") = False := eq_false (by decide +kernel)
theorem ne_make_read : (("make" : Str) = "read") = False := eq_false (by decide +kernel)
theorem ne_make_keep : (("make" : Str) = "keep") = False := eq_false (by decide +kernel)
theorem ne_make_write : (("make" : Str) = "write") = False := eq_false (by decide +kernel)
theorem ne_put_take : (("put" : Str) = "take") = False := eq_false (by decide +kernel)
theorem ne_put_call : (("put" : Str) = "call") = False := eq_false (by decide +kernel)
theorem ne_put_fetch : (("put" : Str) = "fetch") = False := eq_false (by decide +kernel)
theorem ne_put_skip : (("put" : Str) = "skip") = False := eq_false (by decide +kernel)
theorem ne_put_make : (("put" : Str) = "make") = False := eq_false (by decide +kernel)
theorem ne_put_copy : (("put" : Str) = "copy") = False := eq_false (by decide +kernel)
theorem ne_put_read : (("put" : Str) = "read") = False := eq_false (by decide +kernel)
theorem ne_put_keep : (("put" : Str) = "keep") = False := eq_false (by decide +kernel)
theorem ne_put_write : (("put" : Str) = "write") = False := eq_false (by decide +kernel)
theorem ne_copy_take : (("copy" : Str) = "take") = False := eq_false (by decide +kernel)
theorem ne_copy_call : (("copy" : Str) = "call") = False := eq_false (by decide +kernel)
theorem ne_copy_fetch : (("copy" : Str) = "fetch") = False := eq_false (by decide +kernel)
theorem ne_copy_skip : (("copy" : Str) = "skip") = False := eq_false (by decide +kernel)
theorem ne_copy_make : (("copy" : Str) = "make") = False := eq_false (by decide +kernel)
theorem ne_copy_put : (("copy" : Str) = "put") = False := eq_false (by decide +kernel)
theorem ne_copy_read : (("copy" : Str) = "read") = False := eq_false (by decide +kernel)
theorem ne_copy_keep : (("copy" : Str) = "keep") = False := eq_false (by decide +kernel)
theorem ne_copy_write : (("copy" : Str) = "write") = False := eq_false (by decide +kernel)
theorem ne_read_take : (("read" : Str) = "take") = False := eq_false (by decide +kernel)
theorem ne_read_call : (("read" : Str) = "call") = False := eq_false (by decide +kernel)
theorem ne_read_fetch : (("read" : Str) = "fetch") = False := eq_false (by decide +kernel)
theorem ne_read_skip : (("read" : Str) = "skip") = False := eq_false (by decide +kernel)
theorem ne_read_make : (("read" : Str) = "make") = False := eq_false (by decide +kernel)
theorem ne_read_put : (("read" : Str) = "put") = False := eq_false (by decide +kernel)
theorem ne_read_copy : (("read" : Str) = "copy") = False := eq_false (by decide +kernel)
theorem ne_read_keep : (("read" : Str) = "keep") = False := eq_false (by decide +kernel)
theorem ne_read_write : (("read" : Str) = "write") = False := eq_false (by decide +kernel)
theorem ne_keep_take : (("keep" : Str) = "take") = False := eq_false (by decide +kernel)
theorem ne_keep_call : (("keep" : Str) = "call") = False := eq_false (by decide +kernel)
theorem ne_keep_fetch : (("keep" : Str) = "fetch") = False := eq_false (by decide +kernel)
theorem ne_keep_skip : (("keep" : Str) = "skip") = False := eq_false (by decide +kernel)
theorem ne_keep_make : (("keep" : Str) = "make") = False := eq_false (by decide +kernel)
theorem ne_keep_put : (("keep" : Str) = "put") = False := eq_false (by decide +kernel)
theorem ne_keep_copy : (("keep" : Str) = "copy") = False := eq_false (by decide +kernel)
theorem ne_keep_read : (("keep" : Str) = "read") = False := eq_false (by decide +kernel)
theorem ne_keep_write : (("keep" : Str) = "write") = False := eq_false (by decide +kernel)
theorem ne_write_take : (("write" : Str) = "take") = False := eq_false (by decide +kernel)
theorem ne_write_call : (("write" : Str) = "call") = False := eq_false (by decide +kernel)
theorem ne_write_fetch : (("write" : Str) = "fetch") = False := eq_false (by decide +kernel)
theorem ne_write_skip : (("write" : Str) = "skip") = False := eq_false (by decide +kernel)
theorem ne_write_make : (("write" : Str) = "make") = False := eq_false (by decide +kernel)
theorem ne_write_put : (("write" : Str) = "put") = False := eq_false (by decide +kernel)
theorem ne_write_copy : (("write" : Str) = "copy") = False := eq_false (by decide +kernel)
theorem ne_write_read : (("write" : Str) = "read") = False := eq_false (by decide +kernel)
theorem ne_write_keep : (("write" : Str) = "keep") = False := eq_false (by decide +kernel)
theorem form_take (r t : List Str) : lawForm "take" r t = if r.length = 1 then some ((("take" : Str) :: (r ++ t)).map .str) else none := by
  simp only [lawForm, ne_take_call, ne_take_fetch, ne_take_skip, ne_take_make, ne_take_put, ne_take_copy, ne_take_read, ne_take_keep, ne_take_write, true_and, false_and, if_false, or_false, false_or, true_or, or_true, or_self]
theorem form_call (r t : List Str) : lawForm "call" r t = if 0 < r.length then some (.str "call" :: ((r.take 1).map PyData.str ++ (.tuple ((r.drop 1).map .str) :: t.map .str))) else none := by
  simp only [lawForm, ne_call_take, ne_call_fetch, ne_call_skip, ne_call_make, ne_call_put, ne_call_copy, ne_call_read, ne_call_keep, ne_call_write, true_and, false_and, if_false, or_false, false_or, true_or, or_true, or_self]
theorem form_fetch (r t : List Str) : lawForm "fetch" r t = if 0 < r.length then (if hasRep (r.drop 1) = true then none else some ((("fetch" : Str) :: r).map .str)) else none := by
  simp only [lawForm, ne_fetch_take, ne_fetch_call, ne_fetch_skip, ne_fetch_make, ne_fetch_put, ne_fetch_copy, ne_fetch_read, ne_fetch_keep, ne_fetch_write, true_and, false_and, if_false, or_false, false_or, true_or, or_true, or_self]
theorem form_skip (r t : List Str) : lawForm "skip" r t = if r.length = 0 then some [.str "skip"] else none := by
  simp only [lawForm, ne_skip_take, ne_skip_call, ne_skip_fetch, ne_skip_make, ne_skip_put, ne_skip_copy, ne_skip_read, ne_skip_keep, ne_skip_write, true_and, false_and, if_false, or_false, false_or, true_or, or_true, or_self]
theorem len_skip : LEN.lookup ("skip" : Str) = some 1 := by decide +kernel
theorem form_make (r t : List Str) : lawForm "make" r t = if r.length = 1 then some ((("make" : Str) :: r).map .str) else none := by
  simp only [lawForm, ne_make_take, ne_make_call, ne_make_fetch, ne_make_skip, ne_make_put, ne_make_copy, ne_make_read, ne_make_keep, ne_make_write, true_and, false_and, if_false, or_false, false_or, true_or, or_true, or_self]
theorem len_make : LEN.lookup ("make" : Str) = some 2 := by decide +kernel
theorem form_put (r t : List Str) : lawForm "put" r t = if r.length = 1 then some ((("put" : Str) :: r).map .str) else none := by
  simp only [lawForm, ne_put_take, ne_put_call, ne_put_fetch, ne_put_skip, ne_put_make, ne_put_copy, ne_put_read, ne_put_keep, ne_put_write, true_and, false_and, if_false, or_false, false_or, true_or, or_true, or_self]
theorem len_put : LEN.lookup ("put" : Str) = some 2 := by decide +kernel
theorem form_copy (r t : List Str) : lawForm "copy" r t = if r.length = 2 then some ((("copy" : Str) :: r).map .str) else none := by
  simp only [lawForm, ne_copy_take, ne_copy_call, ne_copy_fetch, ne_copy_skip, ne_copy_make, ne_copy_put, ne_copy_read, ne_copy_keep, ne_copy_write, true_and, false_and, if_false, or_false, false_or, true_or, or_true, or_self]
theorem len_copy : LEN.lookup ("copy" : Str) = some 3 := by decide +kernel
theorem form_read (r t : List Str) : lawForm "read" r t = if r.length = 2 then some ((("read" : Str) :: r).map .str) else none := by
  simp only [lawForm, ne_read_take, ne_read_call, ne_read_fetch, ne_read_skip, ne_read_make, ne_read_put, ne_read_copy, ne_read_keep, ne_read_write, true_and, false_and, if_false, or_false, false_or, true_or, or_true, or_self]
theorem len_read : LEN.lookup ("read" : Str) = some 3 := by decide +kernel
theorem form_keep (r t : List Str) : lawForm "keep" r t = if r.length = 2 then some ((("keep" : Str) :: r).map .str) else none := by
  simp only [lawForm, ne_keep_take, ne_keep_call, ne_keep_fetch, ne_keep_skip, ne_keep_make, ne_keep_put, ne_keep_copy, ne_keep_read, ne_keep_write, true_and, false_and, if_false, or_false, false_or, true_or, or_true, or_self]
theorem len_keep : LEN.lookup ("keep" : Str) = some 3 := by decide +kernel
theorem form_write (r t : List Str) : lawForm "write" r t = if r.length = 2 then some ((("write" : Str) :: r).map .str) else none := by
  simp only [lawForm, ne_write_take, ne_write_call, ne_write_fetch, ne_write_skip, ne_write_make, ne_write_put, ne_write_copy, ne_write_read, ne_write_keep, true_and, false_and, if_false, or_false, false_or, true_or, or_true, or_self]
theorem len_write : LEN.lookup ("write" : Str) = some 3 := by decide +kernel
theorem form_other {h : Str} (h_take : h ≠ "take") (h_call : h ≠ "call") (h_fetch : h ≠ "fetch") (h_skip : h ≠ "skip") (h_make : h ≠ "make") (h_put : h ≠ "put") (h_copy : h ≠ "copy") (h_read : h ≠ "read") (h_keep : h ≠ "keep") (h_write : h ≠ "write") (r t : List Str) : lawForm h r t = none := by
  simp only [lawForm, eq_false h_take, eq_false h_call, eq_false h_fetch, eq_false h_skip, eq_false h_make, eq_false h_put, eq_false h_copy, eq_false h_read, eq_false h_keep, eq_false h_write, false_and, if_false, or_self]
theorem len_other {h : Str} (h_skip : h ≠ "skip") (h_make : h ≠ "make") (h_put : h ≠ "put") (h_copy : h ≠ "copy") (h_read : h ≠ "read") (h_keep : h ≠ "keep") (h_write : h ≠ "write") : LEN.lookup h = none := by
  simp only [LEN, List.lookup, beq_eq_false_iff_ne.mpr h_skip, beq_eq_false_iff_ne.mpr h_make, beq_eq_false_iff_ne.mpr h_put, beq_eq_false_iff_ne.mpr h_copy, beq_eq_false_iff_ne.mpr h_read, beq_eq_false_iff_ne.mpr h_keep, beq_eq_false_iff_ne.mpr h_write]
end K10
namespace K10
open PySem PySem.Spec PyProof.Rows L2
def buildC (h : Str) (r t : List Str) : List D := if h = "call" then .str h :: ((r.take 1).map PyData.str ++ (.tuple ((r.drop 1).map .str) :: t.map PyData.str)) else (h :: (r ++ t)).map PyData.str
def lawC (h : Str) (r t : List Str) : Option (List D) := if (r ++ t.drop 1).all isName = true then (if t ≠ [] ∧ ¬ (h = "take" ∨ h = "call") then none else lawForm h r t) else none
theorem isDeedL_call (r : List D) : isDeedL (.str "call" :: r) = isCall (wg (.str "call" :: r)) := by
  simp only [isDeedL, if_true]
theorem isDeedL_take (r : List D) : isDeedL (.str "take" :: r) = (((wg (.str "take" :: r)).drop 1).all nmD && decide (((wg (.str "take" :: r)).drop 1).length = 1)) := by
  simp only [isDeedL, namesOf, ne_take_call, if_false, if_true]
theorem isDeedL_any {h : Str} (h1 : h ≠ "call") (h2 : h ≠ "take") (r : List D) : isDeedL (.str h :: r) = (r.all nmD && (if h = "fetch" then decide (0 < r.length) && !hasRep ((r.drop 1).map toStr) else lenB h (r.length + 1))) := by
  simp only [isDeedL, namesOf, eq_false h1, eq_false h2, if_false]
theorem wg_g {h : D} {r : List D} {t : List Str} (ht : Tl t) (hr : t = [] → ∀ r' a b, h :: r = r' ++ [a, b] → 1 < r'.length → isAs a = false) (hl : t ≠ [] → r ≠ []) :
    wg (h :: (r ++ t.map PyData.str)) = if (t.drop 1).all isName = true then h :: r else h :: (r ++ t.map PyData.str) := by
  by_cases e : t = []
  · subst e
    show wg (h :: (r ++ [])) = h :: r
    rw [List.append_nil]
    by_cases hl : (h :: r).length ≤ 3
    · exact wg_short hl
    · obtain ⟨r2, a, b, e⟩ := two_last (ds := h :: r) (by omega)
      have h3 : 1 < r2.length := by
        have e9 := congrArg List.length e
        simp only [List.length_append, List.length_cons, List.length_nil] at e9 hl
        omega
      rw [e, wg_app, hr rfl r2 a b e h3]
      simp
  · exact wg_t ht (fun q => absurd q e) hl
theorem all_t (r t : List Str) : (r ++ t.drop 1).all isName = (r.all isName && (t.drop 1).all isName) := List.all_append
theorem law_core (h : Str) (r t : List Str) (ht : Tl t) (hno : t = [] → ∀ (r' : List Str) (a b : Str), h :: r = r' ++ [a, b] → r' ≠ [] → a ≠ "as") :
    lawC h r t = if isDeedL (buildC h r t) = true then some (buildC h r t) else none := by
  by_cases hc : h = "call"
  · subst hc
    have eb : buildC "call" r t = .str "call" :: (((r.take 1).map PyData.str ++ [.tuple ((r.drop 1).map .str)]) ++ t.map PyData.str) := by
      unfold buildC
      rw [if_pos rfl, List.append_assoc]
      rfl
    have el : lawC "call" r t = if (r ++ t.drop 1).all isName = true then (if 0 < r.length then some (buildC "call" r t) else none) else none := by
      unfold lawC buildC
      rw [form_call, if_pos rfl, if_neg (fun h : t ≠ [] ∧ ¬ ((("call" : Str) = "take") ∨ (("call" : Str) = "call")) => h.2 (.inr rfl))]
    have ed : isDeedL (buildC "call" r t) = (decide (0 < r.length) && (r ++ t.drop 1).all isName) := by
      rw [eb, isDeedL_call, wg_g ht ?_ (fun _ => by simp), all_t]
      · cases r with
        | nil =>
          have z : decide (0 < ([] : List Str).length) = false := rfl
          rw [z, Bool.false_and]
          split
          · rfl
          · rcases ht with rfl | ⟨g, rfl⟩
            · rfl
            · rfl
        | cons n ps =>
          have z : decide (0 < (n :: ps).length) = true := by simp
          rw [z, Bool.true_and]
          have i1 : isCall (.str "call" :: (((n :: ps).take 1).map PyData.str ++ [.tuple (((n :: ps).drop 1).map .str)])) = (n :: ps).all isName := by
            show (nmD (.str n) && (ps.map PyData.str).all nmD) = _
            rw [all_nm]
            rfl
          cases ha : (t.drop 1).all isName with
          | true =>
            rw [if_pos rfl, i1, Bool.and_true]
          | false =>
            rw [if_neg (by simp), Bool.and_false]
            rcases ht with rfl | ⟨g, rfl⟩
            · cases ha
            · rfl
      · intro _ r' a b e hl
        have e9 := congrArg List.length e
        simp only [List.length_append, List.length_cons, List.length_nil, List.length_map, List.length_take] at e9
        omega
    rw [el, ed]
    cases (r ++ t.drop 1).all isName with
    | false =>
      rw [Bool.and_false]
      rfl
    | true =>
      rw [if_pos rfl, Bool.and_true]
      by_cases h0 : 0 < r.length
      · rw [if_pos h0, decide_eq_true h0]
        rfl
      · rw [if_neg h0, decide_eq_false h0]
        rfl
  have eb : buildC h r t = (h :: (r ++ t)).map PyData.str := by
    unfold buildC
    rw [if_neg hc]
  by_cases hk : h = "take"
  · subst hk
    have el : lawC "take" r t = if (r ++ t.drop 1).all isName = true then (if r.length = 1 then some (buildC "take" r t) else none) else none := by
      unfold lawC
      rw [form_take, eb, if_neg (fun h : t ≠ [] ∧ ¬ ((("take" : Str) = "take") ∨ (("take" : Str) = "call")) => h.2 (.inl rfl))]
    have ed : isDeedL (buildC "take" r t) = ((r ++ t.drop 1).all isName && decide (r.length = 1)) := by
      rw [eb, List.map_cons, isDeedL_take]
      by_cases hz : t ≠ [] ∧ r = []
      · obtain ⟨h1, rfl⟩ := hz
        rcases ht with rfl | ⟨g, rfl⟩
        · exact absurd rfl h1
        · rw [wg_short (by show 3 ≤ 3; decide)]
          have q2 : (([PyData.str "as", PyData.str g] : List D).all nmD && decide (([PyData.str "as", PyData.str g] : List D).length = 1)) = false := by rw [show decide (([PyData.str "as", PyData.str g] : List D).length = 1) = false from rfl, Bool.and_false]
          refine q2.trans ?_
          exact (Bool.and_eq_false_iff.mpr (.inr (by simp))).symm
      · rw [List.map_append, wg_g ht ?_ (fun h1 h2 => hz ⟨h1, List.map_eq_nil_iff.mp h2⟩), all_t]
        · cases ha : (t.drop 1).all isName with
          | true =>
            rw [if_pos rfl]
            show ((r.map PyData.str).all nmD && decide ((r.map PyData.str).length = 1)) = _
            rw [all_nm, List.length_map, Bool.and_true]
          | false =>
            rw [if_neg (by simp), Bool.and_false, Bool.false_and]
            show ((r.map PyData.str ++ t.map PyData.str).all nmD && _) = false
            rw [List.all_append, all_nm, all_nm]
            have : t.all isName = false := by
              rcases ht with rfl | ⟨g, rfl⟩
              · cases ha
              · show (isName "as" && _) = false
                rw [as_not]
                rfl
            rw [this, Bool.and_false, Bool.false_and]
        · intro e r' a b e2 hl
          have e3 : (("take" : Str) :: r).map PyData.str = r' ++ [a, b] := by rw [List.map_cons, e2]
          obtain ⟨l1, l2, e4, e5, e6⟩ := List.map_eq_append_iff.mp e3
          obtain ⟨x, l3, e7, e8, e9⟩ := List.map_eq_cons_iff.mp e6
          obtain ⟨y, l4, e10, e11, e12⟩ := List.map_eq_cons_iff.mp e9
          have e13 : l4 = [] := List.map_eq_nil_iff.mp e12
          subst e13
          subst e10
          subst e7
          have hne : l1 ≠ [] := fun q => by
            rw [← e5, q] at hl
            simp at hl
          have := hno e l1 x y e4 hne
          rw [← e8, isAs_str]
          exact beq_eq_false_iff_ne.mpr this
    rw [el, ed]
    cases (r ++ t.drop 1).all isName with
    | false => rfl
    | true =>
      rw [if_pos rfl, Bool.true_and]
      by_cases h1 : r.length = 1
      · rw [if_pos h1, if_pos (decide_eq_true h1)]
      · rw [if_neg h1, if_neg (by rw [decide_eq_false h1]; simp)]
  have ed : isDeedL (buildC h r t) = ((r ++ t).all isName && (if h = "fetch" then decide (0 < (r ++ t).length) && !hasRep ((r ++ t).drop 1) else lenB h ((r ++ t).length + 1))) := by
    rw [eb, List.map_cons, isDeedL_any hc hk, all_nm, ← List.map_drop, toStr_map, List.length_map]
  rcases ht with rfl | ⟨g, rfl⟩
  · rw [List.append_nil] at ed eb
    have el : lawC h r [] = if r.all isName = true then lawForm h r [] else none := by
      unfold lawC
      rw [List.drop_nil, List.append_nil, if_neg (fun q : (([] : List Str) ≠ []) ∧ ¬ (h = "take" ∨ h = "call") => q.1 rfl)]
    rw [el, ed, eb]
    cases r.all isName with
    | false => rfl
    | true =>
      rw [if_pos rfl, Bool.true_and]
      by_cases hf : h = "fetch"
      · subst hf
        rw [form_fetch, if_pos rfl]
        by_cases h0 : 0 < r.length
        · rw [if_pos h0, decide_eq_true h0, Bool.true_and]
          cases hasRep (r.drop 1) with
          | true => rfl
          | false => rfl
        · rw [if_neg h0, decide_eq_false h0]
          rfl
      rw [if_neg hf]
      have fin : ∀ (n : Nat) (v : Option (List D)), LEN.lookup h = some n → v = (if r.length + 1 = n then some ((h :: r).map PyData.str) else none) → v = if (lenB h (r.length + 1)) = true then some ((h :: r).map PyData.str) else none := by
        intro n v e1 e2
        have e3 : lenB h (r.length + 1) = decide (r.length + 1 = n) := by
          unfold lenB
          rw [e1]
        rw [e3, e2]
        by_cases q : r.length + 1 = n
        · rw [if_pos q]
          rw [decide_eq_true q, if_pos rfl]
        · rw [if_neg q]
          rw [decide_eq_false q, if_neg (by simp)]
      have ar : ∀ (k : Nat) (x : Option (List D)), (if r.length = k then x else none) = if r.length + 1 = k + 1 then x else none := fun k x => by
        by_cases q : r.length = k
        · rw [if_pos q, if_pos (by omega)]
        · rw [if_neg q, if_neg (by omega)]
      by_cases q1 : h = "skip"
      · subst q1
        refine fin 1 _ len_skip ?_
        rw [form_skip, ← ar 0]
        by_cases q : r.length = 0
        · rw [List.length_eq_zero_iff.mp q]
          rfl
        · rw [if_neg q, if_neg q]
      by_cases q2 : h = "make"
      · subst q2; exact fin 2 _ len_make (by rw [form_make, ← ar 1])
      by_cases q3 : h = "put"
      · subst q3; exact fin 2 _ len_put (by rw [form_put, ← ar 1])
      by_cases q4 : h = "copy"
      · subst q4; exact fin 3 _ len_copy (by rw [form_copy, ← ar 2])
      by_cases q5 : h = "read"
      · subst q5; exact fin 3 _ len_read (by rw [form_read, ← ar 2])
      by_cases q6 : h = "keep"
      · subst q6; exact fin 3 _ len_keep (by rw [form_keep, ← ar 2])
      by_cases q7 : h = "write"
      · subst q7; exact fin 3 _ len_write (by rw [form_write, ← ar 2])
      have e3 : lenB h (r.length + 1) = false := by
        unfold lenB
        rw [len_other q1 q2 q3 q4 q5 q6 q7]
      rw [form_other hk hc hf q1 q2 q3 q4 q5 q6 q7, e3]
      rfl
  · have el : lawC h r [("as" : Str), g] = none := by
      unfold lawC
      rw [if_pos (⟨by simp, fun q => q.elim hk hc⟩ : [("as" : Str), g] ≠ [] ∧ ¬ (h = "take" ∨ h = "call"))]
      split <;> rfl
    have : (r ++ [("as" : Str), g]).all isName = false := by
      rw [List.all_append]
      show (_ && (isName "as" && _)) = false
      rw [as_not, Bool.false_and, Bool.and_false]
    rw [el, ed, this, Bool.false_and]
    rfl
theorem law_build {ws : List Str} (hne : ws ≠ []) : lawRead ws = if isDeedL (build ws) = true then some (build ws) else none := by
  have key : ∀ h r t, cut ws = (h :: r, t) → Tl t → (t = [] → ∀ (r' : List Str) (a b : Str), h :: r = r' ++ [a, b] → r' ≠ [] → a ≠ "as") → lawRead ws = if isDeedL (build ws) = true then some (build ws) else none := by
    intro h r t e ht hno
    have e1 : lawRead ws = lawC h r t := by
      unfold lawRead
      rw [e]
      rfl
    have e2 : build ws = buildC h r t := by
      unfold build
      rw [e]
      rfl
    rw [e1, e2]
    exact law_core h r t ht hno
  rcases cut_cases ws with ⟨e1, e2⟩ | ⟨r2, g, hr, e, e1, e2⟩
  · cases ws with
    | nil => exact absurd rfl hne
    | cons h r =>
      refine key h r [] (Prod.ext e2 e1) (.inl rfl) fun _ r' a b e hr ea => ?_
      rw [ea] at e
      rw [e, cut_as hr] at e1
      cases e1
  · cases r2 with
    | nil => exact absurd rfl hr
    | cons h r => exact key h r _ (Prod.ext e1 e2) (.inr ⟨g, rfl⟩) fun q => by cases q
end K10
namespace K10
open PySem PySem.Spec PyProof.Rows L2
def Wd (w : Str) : Prop := w ≠ "as" ∧ 32 ∉ w.cps.toList
/-- the forms of deeds, and their words -/
inductive Fm : List D → List Str → Prop
  | call (n : Str) (ps t : List Str) : Wd n → (∀ w ∈ ps, Wd w) → Tl t → (∀ w ∈ t, 32 ∉ w.cps.toList) → Fm (.str "call" :: .str n :: .tuple (ps.map .str) :: t.map .str) ("call" :: n :: (ps ++ t))
  | any (h : Str) (r t : List Str) : h ≠ "call" → 32 ∉ h.cps.toList → (∀ w ∈ r, Wd w) → Tl t → (∀ w ∈ t, 32 ∉ w.cps.toList) → (t = [] ∨ r ≠ [] ∨ t ≠ []) → Fm ((h :: (r ++ t)).map .str) (h :: (r ++ t))
theorem Fm.any0 {h : Str} {r : List Str} (h1 : h ≠ "call") (h2 : 32 ∉ h.cps.toList) (hr : ∀ w ∈ r, Wd w) : Fm ((h :: r).map .str) (h :: r) := by
  have z := Fm.any h r [] h1 h2 hr (.inl rfl) (fun _ q => by cases q) (.inl rfl)
  rw [List.append_nil] at z
  exact z
theorem Fm.call0 {n : Str} {ps : List Str} (hn : Wd n) (hp : ∀ w ∈ ps, Wd w) : Fm [.str "call", .str n, .tuple (ps.map .str)] ("call" :: n :: ps) := by
  have z := Fm.call n ps [] hn hp (.inl rfl) (fun _ q => by cases q)
  rw [List.append_nil] at z
  exact z
theorem call32 : 32 ∉ ("call" : Str).cps.toList := by decide +kernel
theorem as32 : 32 ∉ ("as" : Str).cps.toList := by decide +kernel
theorem Fm.no {ds : List D} {ws : List Str} (f : Fm ds ws) : ws ≠ [] ∧ ∀ w ∈ ws, 32 ∉ w.cps.toList := by
  cases f with
  | call n ps t hn hp ht h32 =>
    refine ⟨by simp, fun w hw => ?_⟩
    rcases List.mem_cons.mp hw with rfl | hw
    · exact call32
    rcases List.mem_cons.mp hw with rfl | hw
    · exact hn.2
    rcases List.mem_append.mp hw with hw | hw
    · exact (hp w hw).2
    · exact h32 w hw
  | any h r t h1 h2 hr ht h32 =>
    refine ⟨by simp, fun w hw => ?_⟩
    rcases List.mem_cons.mp hw with rfl | hw
    · exact h2
    rcases List.mem_append.mp hw with hw | hw
    · exact (hr w hw).2
    · exact h32 w hw
theorem cut_tl {h : Str} {r t : List Str} (hr : ∀ w ∈ r, Wd w) (ht : Tl t) : cut (h :: (r ++ t)) = (h :: r, t) := by
  rcases ht with rfl | ⟨g, rfl⟩
  · rw [List.append_nil]
    exact cut_no fun w hw => (hr w hw).1
  · exact cut_as (r := h :: r) (by simp) g
theorem Fm.built {ds : List D} {ws : List Str} (f : Fm ds ws) : build ws = ds := by
  cases f with
  | call n ps t hn hp ht h32 =>
    have e : cut (("call" : Str) :: n :: (ps ++ t)) = (("call" : Str) :: n :: ps, t) := cut_tl (r := n :: ps) (fun w hw => by
      rcases List.mem_cons.mp hw with rfl | hw
      · exact hn
      · exact hp w hw) ht
    unfold build
    rw [e]
    show (if ("call" : Str) = "call" then _ else _) = _
    rw [if_pos rfl]
    rfl
  | any h r t h1 h2 hr ht h32 =>
    unfold build
    rw [cut_tl hr ht]
    show (if h = "call" then _ else _) = _
    rw [if_neg h1]
/-! ### a deed is of a form -/
theorem isAs_eq {a : D} (h : isAs a = true) : a = .str "as" := by
  cases a with
  | str s =>
    rw [isAs_str] at h
    rw [eq_of_beq h]
  | _ => simp [isAs, PyData.eqv] at h
theorem wg_or (ds : List D) : wg ds = ds ∨ ∃ g, isName g = true ∧ ds = wg ds ++ [.str "as", .str g] ∧ 1 < (wg ds).length := by
  by_cases h2 : 2 ≤ ds.length
  · obtain ⟨r, a, b, rfl⟩ := two_last h2
    rw [wg_app]
    by_cases h : (decide (1 < r.length) && (isAs a && nmD b)) = true
    · rw [if_pos h]
      simp only [Bool.and_eq_true, decide_eq_true_eq] at h
      obtain ⟨h1, h3, h4⟩ := h
      obtain ⟨e1, e2⟩ := nm_str h4
      exact .inr ⟨toStr b, e2, by rw [isAs_eq h3, ← e1], h1⟩
    · rw [if_neg h]
      exact .inl rfl
  · exact .inl (wg_short (by omega))
theorem wds {ws : List Str} (h : ws.all isName = true) : ∀ w ∈ ws, Wd w := fun w hw => ⟨nm_ne (List.all_eq_true.mp h w hw), nm_32 (List.all_eq_true.mp h w hw)⟩
theorem tl32 {g : Str} (h : isName g = true) : ∀ w ∈ [("as" : Str), g], 32 ∉ w.cps.toList := by
  intro w hw
  rcases List.mem_cons.mp hw with rfl | hw
  · exact as32
  · rw [List.mem_singleton.mp hw]
    exact nm_32 h
theorem LEN32 {h : Str} {n : Nat} (e : LEN.lookup h = some n) : h ≠ "call" ∧ 32 ∉ h.cps.toList := by
  have key : ∀ p ∈ LEN, p.1 ≠ "call" ∧ 32 ∉ p.1.cps.toList := by decide +kernel
  have : ∀ {l : List (Str × Nat)}, l.lookup h = some n → ∃ p ∈ l, p.1 = h := by
    intro l
    induction l with
    | nil => intro q; cases q
    | cons p l ih =>
      intro q
      rw [List.lookup_cons] at q
      split at q
      · next hh => exact ⟨p, List.mem_cons_self, (eq_of_beq hh).symm⟩
      · obtain ⟨p2, h2, h3⟩ := ih q
        exact ⟨p2, List.mem_cons_of_mem _ h2, h3⟩
  obtain ⟨p, hp, rfl⟩ := this e
  exact key p hp
theorem fm_of {ds : List D} (h : isDeedL ds = true) : ∃ ws, Fm ds ws := by
  cases ds with
  | nil => cases h
  | cons d r =>
    cases d with
    | str w =>
      by_cases hc : w = "call"
      · subst hc
        rw [isDeedL_call] at h
        have : ∃ (n : Str) (ps : List Str) (x : D), wg (.str "call" :: r) = [x, .str n, .tuple (ps.map .str)] ∧ isName n = true ∧ ps.all isName = true := by
          revert h
          generalize wg (.str "call" :: r) = q
          intro h
          match q, h with
          | [x, n, .tuple ps], h =>
            simp only [isCall, Bool.and_eq_true] at h
            obtain ⟨e1, e2⟩ := nm_str h.1
            obtain ⟨e3, e4⟩ := strs_of h.2
            exact ⟨toStr n, ps.map toStr, x, by rw [← e1, ← e3], e2, e4⟩
        obtain ⟨n, ps, x, e, hn, hp⟩ := this
        rcases wg_or (.str "call" :: r) with e2 | ⟨g, hg, e2, _⟩
        · rw [e] at e2
          injection e2 with e3 e4
          subst e3
          subst e4
          exact ⟨_, Fm.call0 ⟨nm_ne hn, nm_32 hn⟩ (wds hp)⟩
        · rw [e] at e2
          injection e2 with e3 e4
          subst e4
          exact ⟨_, Fm.call n ps _ ⟨nm_ne hn, nm_32 hn⟩ (wds hp) (.inr ⟨g, rfl⟩) (tl32 hg)⟩
      · by_cases hk : w = "take"
        · subst hk
          rw [isDeedL_take, Bool.and_eq_true] at h
          have hl := of_decide_eq_true h.2
          obtain ⟨e1, e2⟩ := strs_of h.1
          have t32 : 32 ∉ ("take" : Str).cps.toList := by decide +kernel
          have tc : ("take" : Str) ≠ "call" := by decide +kernel
          rcases wg_or (.str "take" :: r) with e | ⟨g, hg, e, _⟩
          · rw [e] at e1 e2
            have e1 : r = (r.map toStr).map PyData.str := e1
            rw [e1]
            exact ⟨_, Fm.any0 tc t32 (wds e2)⟩
          · generalize wg (.str "take" :: r) = q at *
            cases q with
            | nil => simp at hl
            | cons x q =>
              rw [List.cons_append] at e
              injection e with e3 e4
              subst e4
              have e1 : q = (q.map toStr).map PyData.str := e1
              refine ⟨"take" :: (q.map toStr ++ [("as" : Str), g]), ?_⟩
              have z := Fm.any "take" (q.map toStr) [("as" : Str), g] tc t32 (wds e2) (.inr ⟨g, rfl⟩) (tl32 hg) (.inr (.inr (by simp)))
              rw [List.map_cons, List.map_append, ← e1] at z
              exact z
        · rw [isDeedL_any hc hk, Bool.and_eq_true] at h
          obtain ⟨e1, e2⟩ := strs_of h.1
          have : w ≠ "call" ∧ 32 ∉ w.cps.toList := by
            refine ⟨hc, ?_⟩
            by_cases hf : w = "fetch"
            · rw [hf]
              decide +kernel
            · have h2 := h.2
              rw [if_neg hf] at h2
              unfold lenB at h2
              cases e : LEN.lookup w with
              | none => rw [e] at h2; cases h2
              | some n => exact (LEN32 e).2
          rw [e1]
          exact ⟨_, Fm.any0 this.1 this.2 (wds e2)⟩
    | _ => cases h
/-! ### the law's reading of values -/
def flatL (c : Bool) : Nat → List D → Option (List Str)
  | _, [] => some []
  | i, .str s :: r => (flatL c (i + 1) r).map (s :: ·)
  | i, .tuple ps :: r => if i = 2 ∧ c = true ∧ ps.all isStr = true then (flatL c (i + 1) r).map (ps.map toStr ++ ·) else none
  | _, _ => none
theorem flat_strs (c : Bool) : ∀ (i : Nat) (ws : List Str), flatL c i (ws.map .str) = some ws
  | _, [] => rfl
  | i, w :: ws => by
    rw [List.map_cons]
    show (flatL c (i + 1) (ws.map .str)).map (w :: ·) = _
    rw [flat_strs c (i + 1) ws]
    rfl
def headCall : List D → Bool
  | d :: _ => PyData.eqv d (.str "call")
  | [] => false
theorem Fm.flat {ds : List D} {ws : List Str} (f : Fm ds ws) : flatL (headCall ds) 0 ds = some ws := by
  cases f with
  | call n ps t hn hp ht h32 =>
    have e : headCall (.str "call" :: .str n :: .tuple (ps.map .str) :: t.map .str) = true := by
      show PyData.eqv (.str "call") (.str "call") = true
      simp [PyData.eqv]
    rw [e]
    show ((if 2 = 2 ∧ true = true ∧ (ps.map PyData.str).all isStr = true then (flatL true 3 (t.map .str)).map ((ps.map PyData.str).map toStr ++ ·) else none).map (n :: ·)).map (("call" : Str) :: ·) = _
    rw [if_pos ⟨rfl, rfl, by rw [List.all_map]; exact List.all_eq_true.mpr fun _ _ => rfl⟩, flat_strs, toStr_map]
    rfl
  | any h r t h1 h2 hr ht h32 => exact flat_strs _ _ _
def splitW (x : Str) : List Str := Txt.split x " "
def joinW (ws : List Str) : Str := Txt.join " " ws
theorem splitW_join {ws : List Str} (hne : ws ≠ []) (h : ∀ w ∈ ws, 32 ∉ w.cps.toList) : splitW (joinW ws) = ws :=
  TL.split_join (y := " ") (s := 32) (S := []) (by decide +kernel) (by decide +kernel) hne h
theorem spl_some (S : List Nat) : ∀ (l : List Nat) (k : Nat) (acc : List Nat), TL.spl S k acc l ≠ []
  | [], k, acc => by rw [TL.spl_nil]; simp
  | c :: r, k + 1, acc => spl_some S r k acc
  | c :: r, 0, acc => by
    cases h : TL.pre S (c :: r) with
    | true => rw [TL.spl_hit h]; simp
    | false => rw [TL.spl_miss h]; exact spl_some S r 0 _
theorem splitW_ne (x : Str) : splitW x ≠ [] := fun e => by
  have z := TL.split_spl x " " (by decide +kernel) (TL.kind_ok (by decide +kernel))
  rw [show Txt.split x " " = [] from e] at z
  exact spl_some _ _ _ _ z.symm
def lawDeedL (ds : List D) : Bool := match ds with
  | [] => false
  | _ :: _ => match flatL (headCall ds) 0 ds with
    | none => false
    | some ws => match lawRead (splitW (joinW ws)) with
      | some e => PyData.eqvAll e ds
      | none => false
theorem eqv_str {s : Str} {y : D} (h : PyData.eqv (.str s) y = true) : y = .str s := by
  cases y with
  | str z =>
    have : (s == z) = true := by simpa [PyData.eqv] using h
    rw [eq_of_beq this]
  | _ => simp [PyData.eqv] at h
theorem eqvAll_strs : ∀ (ws : List Str) (ys : List D), PyData.eqvAll (ws.map .str) ys = true → ys = ws.map .str
  | [], [], _ => rfl
  | [], _ :: _, h => by simp [PyData.eqvAll] at h
  | _ :: _, [], h => by simp [PyData.eqvAll] at h
  | w :: ws, y :: ys, h => by
    rw [List.map_cons, PyData.eqvAll, Bool.and_eq_true] at h
    rw [eqv_str h.1, eqvAll_strs ws ys h.2]
    rfl
theorem Fm.eqv {e ds : List D} {ws : List Str} (f : Fm e ws) (h : PyData.eqvAll e ds = true) : ds = e := by
  cases f with
  | call n ps t hn hp ht h32 =>
    match ds, h with
    | [], h => simp [PyData.eqvAll] at h
    | [_], h => simp [PyData.eqvAll] at h
    | [_, _], h => simp [PyData.eqvAll] at h
    | a :: b :: c :: r, h =>
      simp only [PyData.eqvAll, Bool.and_eq_true] at h
      obtain ⟨h1, h2, h3, h4⟩ := h
      rw [eqv_str h1, eqv_str h2, eqvAll_strs _ _ h4]
      cases c with
      | tuple cs =>
        have : PyData.eqvAll (ps.map PyData.str) cs = true := by simpa [PyData.eqv] using h3
        rw [eqvAll_strs _ _ this]
      | _ => simp [PyData.eqv] at h3
  | any h2 r t h1 h2 hr ht h32 => exact eqvAll_strs _ _ h
theorem law_deed {ds : List D} (hs : PyData.canLayAll0 ds = true) : lawDeedL ds = isDeedL ds := by
  cases hd : isDeedL ds with
  | true =>
    obtain ⟨ws, f⟩ := fm_of hd
    have hb := law_build (splitW_ne (joinW ws))
    rw [splitW_join f.no.1 f.no.2, f.built, if_pos hd] at hb
    cases ds with
    | nil => cases hd
    | cons d r =>
      show (match flatL (headCall (d :: r)) 0 (d :: r) with | none => false | some ws => match lawRead (splitW (joinW ws)) with | some e => PyData.eqvAll e (d :: r) | none => false) = true
      rw [f.flat]
      show (match lawRead (splitW (joinW ws)) with | some e => PyData.eqvAll e (d :: r) | none => false) = true
      rw [splitW_join f.no.1 f.no.2, hb]
      exact PySem.SeqAt.eqvAll_refl _ hs
  | false =>
    cases ds with
    | nil => rfl
    | cons d r =>
      show (match flatL (headCall (d :: r)) 0 (d :: r) with | none => false | some ws => match lawRead (splitW (joinW ws)) with | some e => PyData.eqvAll e (d :: r) | none => false) = false
      cases e1 : flatL (headCall (d :: r)) 0 (d :: r) with
      | none => rfl
      | some ws =>
        show (match lawRead (splitW (joinW ws)) with | some e => PyData.eqvAll e (d :: r) | none => false) = false
        cases e2 : lawRead (splitW (joinW ws)) with
        | none => rfl
        | some e =>
          show PyData.eqvAll e (d :: r) = false
          cases e3 : PyData.eqvAll e (d :: r) with
          | false => rfl
          | true =>
            rw [law_build (splitW_ne _)] at e2
            by_cases q : isDeedL (build (splitW (joinW ws))) = true
            · rw [if_pos q] at e2
              injection e2 with e2
              rw [e2] at q
              obtain ⟨ws2, f⟩ := fm_of q
              rw [f.eqv e3, q] at hd
              cases hd
            · rw [if_neg q] at e2
              cases e2
end K10
namespace EK
open PySem PySem.Spec PyProof.Rows L2
/-! ### enumerate(t), t a tuple -/
theorem new_enum_tup (tp : Addr) (ys : Array Value) :
    Meets (Builtin.«enumerate.__new__» ⟨[.type "enumerate", .ref tp], []⟩) (fun _ R s => s.heap.IsTuple tp ys ∧
      R (.ok (.ret (.ref (s.heap.push { cls := .type "tuple_iterator", data := .fields #[.ref tp, .int 0 0] }).objs.size)))
        { s with heap := (s.heap.push { cls := .type "tuple_iterator", data := .fields #[.ref tp, .int 0 0] }).push { cls := .type "enumerate", data := .fields #[.none, .bool false, .ref s.heap.objs.size, rawInt 0, .none, .none] } }) :=
  .of_wp fun prog w A R s h => by
    obtain ⟨hp, g, d, tk, os⟩ := s
    obtain ⟨ht, h⟩ := h
    have sub1 := sub_enumerate
    have it1 : ∀ {A' : Around} {E : Value → Shared → Prop} {Q : Value → Shared → Prop}, Q (.ref hp.objs.size) ⟨hp.push { cls := .type "tuple_iterator", data := .fields #[.ref tp, .int 0 0] }, g, d, tk, os⟩ → wpAny (model prog w) A' (pyIter (.ref tp)) Q E ⟨hp, g, d, tk, os⟩ :=
      fun q => wpAny_pyIter_tuple (s := ⟨hp, g, d, tk, os⟩) ht q
    wp_walk using it1
    refine wpAny_stack_any fun st => wpAny_pure ?_
    split
    · rename_i c _ _ _ _ _
      cases (c == Value.type "enumerate")
      · wp_walk using it1
        exact ⟨_, rfl, h⟩
      · wp_walk using it1
        exact ⟨_, rfl, h⟩
    · wp_walk using it1
      exact ⟨_, rfl, h⟩
theorem made_enum_tup {prog : Program} {w : World} {A : Around} {E : Value → Shared → Prop} {s : Shared} {tp : Addr} {ys : Array Value} {Q : Value → Shared → Prop} (ht : s.heap.IsTuple tp ys)
    (h : ∀ h', IsEnum h' (s.heap.objs.size + 1) s.heap.objs.size 0 .none → h'.IsTupleIter s.heap.objs.size tp 0 → h'.objs.size = s.heap.objs.size + 2 →
      (∀ b o, s.heap.get? b = some o → h'.get? b = some o) → Q (.ref (s.heap.objs.size + 1)) { s with heap := h' }) :
    wpAny (model prog w) A (call (.type "enumerate") [.ref tp]) Q E s := by
  refine callType_new F.called_enumerate (by decide) (F.typeCall_enumerate_1 _) (F.newCall_enumerate_1 _) (fun obj => F.args_object_init_2 obj _) F.entry_enumerate_new
    (new_enum_tup tp ys) ⟨ht, ?_⟩
  have z1 : (s.heap.push { cls := .type "tuple_iterator", data := .fields #[.ref tp, .int 0 0] }).objs.size = s.heap.objs.size + 1 := Heap.size_push ..
  show _ ∧ _
  rw [z1]
  have e1 : IsEnum ((s.heap.push { cls := .type "tuple_iterator", data := .fields #[.ref tp, .int 0 0] }).push
      { cls := .type "enumerate", data := .fields #[.none, .bool false, .ref s.heap.objs.size, rawInt 0, .none, .none] }) (s.heap.objs.size + 1) s.heap.objs.size 0 .none := by
    have y := Heap.get?_push_size (s.heap.push { cls := .type "tuple_iterator", data := .fields #[.ref tp, .int 0 0] })
      (o := { cls := .type "enumerate", data := .fields #[.none, .bool false, .ref s.heap.objs.size, rawInt 0, .none, .none] }) rfl
    rw [z1] at y
    exact y
  refine ⟨⟨_, e1, rfl⟩, h _ e1 ⟨_, Heap.get?_push_of_some _ (Heap.get?_push_size _ rfl), rfl, rfl⟩ (by rw [Heap.size_push, z1]) fun b o x => Heap.get?_push_of_some _ (Heap.get?_push_of_some _ x)⟩
/-- the tuple at a, each item in a new pair -/
def ItT (K : PySem.W.Frag) (a : Addr) : It :=
  ⟨fun i H => ∃ (xs : List V) (x : V), SqT K H a xs ∧ xs[i]? = some x, fun i H v H' => ∃ T x, v = .ref T ∧ H T = none ∧ H' = upd H T (.tup [.int (i : Nat), x]) ∧ ∀ xs, SqT K H a xs → xs[i]? = some x, fun i H => ∃ xs : List V, SqT K H a xs ∧ xs.length ≤ i⟩
theorem apart_enum {h : Heap} {a e it : Addr} {i : Int} {old : Value} {ys : Array Value} {n : Nat} (p : h.IsTuple a ys) (he : IsEnum h e it i old) (hit : h.IsTupleIter it a n) : a ≠ it ∧ a ≠ e := by
  obtain ⟨o, h1, h2, _⟩ := p
  obtain ⟨o2, k1, k2, _⟩ := hit
  refine ⟨?_, ?_⟩
  · rintro rfl
    rw [h1] at k1
    injection k1 with k1
    rw [k1, k2] at h2
    revert h2
    decide
  · rintro rfl
    have he : h.get? a = _ := he
    rw [h1] at he
    injection he with he
    rw [he] at h2
    revert h2
    show (Value.type "enumerate" = Value.type "tuple") → False
    decide
theorem end_enum_tup {prog : Program} {w : World} {A : Around} {E : Value → Shared → Prop} {s : Shared} {e it a : Addr} {i : Nat} {c : Int} {ys : Array Value} {old : Value} {Q : Option Value → Shared → Prop} (hd : A.handled = none)
    (he : IsEnum s.heap e it c old) (hi : s.heap.IsTupleIter it a i) (ha : s.heap.IsTuple a ys) (hn : ys[i]? = none) (q : ∀ h', Heap.ExtBut it s.heap h' → Q none { s with heap := h' }) : wpAny (model prog w) A (pyNext (.ref e)) Q E s := by
  have ty : s.TypeIs (.ref e) "enumerate" := ⟨_, he, rfl⟩
  unfold pyNext
  refine wpAny_bind (wpAny_attempt (wpAny_callSpecial?_slot (name := Str.ofString "__next__") ty F.slot_enumerate_next (wpAny_call_entry F.slot_enumerate_next ty F.entry_enumerate_next ?_ (F.args_enumerate_next_1 _))))
  show wpAny _ _ (field (.ref e) 2 >>= _) _ _ _
  refine wpAny_bind (wpAny_field he rfl (x := .ref it) rfl ?_)
  refine wpAny_bind (wpAny_nextOf_tuple_end hd hi ha hn fun h2 y eb ey => ?_)
  obtain ⟨o, ho, ec⟩ := ey
  refine wpAny_bind (wpAny_isInstance (T := "StopIteration") (b := true) ⟨o, ho, ec⟩ isSubtype_stop ?_)
  exact wpAny_pure (q _ eb)
theorem turn_ItT {P : Program} {w : World} {K : PySem.W.Frag} {elts : List Expr} {kk : Nat} {tpos : Pos} (a e it : Addr) :
    Turn P w K (.Tuple elts kk tpos) (ItT K a) [e, it] e (fun i h => (∃ old, IsEnum h e it ((i : Nat) : Int) old) ∧ h.IsTupleIter it a i ∧ e ≠ it) where
  mem := by simp
  obj := fun i h st b hb => by
    obtain ⟨⟨old, he⟩, ⟨o, ho, hc, hd⟩, _⟩ := st
    rcases (by simpa using hb : b = e ∨ b = it) with z | z
    · rw [z]; exact ⟨_, he, fun v q => nomatch q⟩
    · rw [z]; exact ⟨o, ho, fun v q => by rw [hd] at q; cases q⟩
  keep := fun i h h' st k => let ⟨⟨old, he⟩, hi, hne⟩ := st; ⟨⟨old, k e (by simp) _ he⟩, hi.at fun o q => k it (by simp) o q, hne⟩
  item := by
    intro X hP hw hK hc i pins s σ H E I hf st hg
    subst hP hw hK
    obtain ⟨⟨old, he⟩, hit, hne⟩ := st
    obtain ⟨xs, x, hq, hx⟩ := hg
    obtain ⟨its, rv, p, hz⟩ := I.tuple hq
    obtain ⟨u, hu, ru⟩ := rv.get hx
    have p2 : s.heap.IsTuple a its.toArray := p
    obtain ⟨a1, a2⟩ := apart_enum p2 he hit
    have hel : e < s.heap.objs.size := Heap.lt_size he
    have hil : it < s.heap.objs.size := by obtain ⟨_, q, _⟩ := hit; exact Heap.lt_size q
    have hlt : i < its.toArray.size := by
      rw [List.size_toArray]
      exact (List.getElem?_eq_some_iff.mp hu).1
    refine wpAny_pyNext_enum_itemD (Draws.tuple (A := X.A.in1) (I.ok.hd hc) it a a1 its.toArray) he ⟨hit, p2⟩ hlt hne (by simp [hne, Ne.symm a2]) fun u' h' tk hu' ho st' hT hsz hk => ?_
    obtain rfl : u = u' := by
      have : its[i]? = some u' := by simpa using hu'
      exact Option.some.inj (hu.symm.trans this)
    refine ⟨_, rfl, wpAny_letOwnedTupleGo_enum (s := { s with heap := h', toks := tk + 1 }) ho fun h'' he' sb => ?_⟩
    have hT2 : h''.get? s.heap.objs.size = some { cls := .type "tuple", data := .seq #[.int i tk, u] } := (sb.2 _ (Nat.ne_of_gt hel)).trans hT
    have new : ObjOk X.prog X.w (upd H s.heap.objs.size (.tup [.int (i : Nat), x])) h'' s.heap.objs.size (.tup [.int (i : Nat), x]) :=
      ⟨by show 2 ≤ sizeLine; decide, [.int i tk, u], .cons ⟨_, rfl⟩ (.cons ru .nil), ⟨_, hT2, rfl, _, rfl⟩⟩
    have I1 : Inv X pins σ (upd H s.heap.objs.size (.tup [.int (i : Nat), x])) { s with heap := h'', toks := tk + 1 } :=
      I.turnedNew (ch := [e, it]) (fun b ob hb q => (sb.2 b (fun z => hb (by simp [z]))).trans (hk b ob (fun z => hb (by simp [z])) (fun z => hb (by simp [z])) q)) hf (Nat.le_refl _) new
    refine ⟨.ref s.heap.objs.size, _, I1, rfl, ⟨_, x, rfl, I.hok.fresh (Nat.le_refl _), rfl, fun ys hy => ?_⟩, ⟨⟨u, ?_⟩, st'.1.at fun o q => (sb.2 it (Ne.symm hne)).trans q, hne⟩, fun b hb => ?_⟩
    · rw [I.tuple_inj hy hq]
      exact hx
    · rw [show ((i + 1 : Nat) : Int) = (i : Int) + 1 by omega]
      exact he'
    · have hb' : b < s.heap.objs.size := by
        rcases (by simpa using hb : b = e ∨ b = it) with z | z
        · rw [z]; exact hel
        · rw [z]; exact hil
      rw [upd_ne (Nat.ne_of_lt hb')]
      exact (hf b hb).1
  done := by
    intro X hP hw hK hc i pins s σ H E I hf st hg
    subst hP hw hK
    obtain ⟨⟨old, he⟩, hit, hne⟩ := st
    obtain ⟨xs, hq, hx⟩ := hg
    obtain ⟨its, rv, p, hz⟩ := I.tuple hq
    have p2 : s.heap.IsTuple a its.toArray := p
    obtain ⟨f0, f1, f2, f3, f4, f5⟩ := hf it (by simp)
    have hl := rv.length
    exact end_enum_tup (I.ok.hd hc) he hit p2 (by rw [← Array.getElem?_toList]; exact List.getElem?_eq_none (by show its.length ≤ i; omega)) fun h' eb => ⟨rfl, I.turned (t' := s.toks) (fun b o hb q => eb b o hb q) f0 f1 f3 f4 f5⟩
  self := fun A i s Q E st h => let ⟨⟨_, he⟩, _⟩ := st; wpAny_pyIter_enum he h
def iEnT (K : PySem.W.Frag) (ta : TA) : TI := fun σ H R => ta σ H fun vs H1 => ∃ a xs, vs = [.ref a] ∧ SqT K H1 a xs ∧ R (ItT K a) H1
theorem pi_enT {X : Cx} {e : Expr} {ta : TA} {p pos tpos : Pos} {elts : List Expr} {kk : Nat} (hg : Gl X "enumerate") (hm : X.mg "enumerate" = none) (ha : PA X [e] ta) (hs : starEach [e] X.env = [(false, eval e X.env)] := by rfl) :
    PI X (.Tuple elts kk tpos) (.Call (.Name "enumerate" p) [e] [] pos) (iEnT X.K ta) := by
  refine ⟨fun pins s σ H R I h => ?_⟩
  refine Call_ (ld_blt I hg hm boot_enumerate (PyProof.Rows.callWith_type1 (thn (ha.run pos pins s σ H _ I h) fun us s1 ⟨vs, H1, I1, r1, q1⟩ => ?_) hs rfl))
  obtain ⟨a, xs, rfl, hq, q⟩ := q1
  cases r1 with
  | cons r rr =>
    cases rr
    cases r
    obtain ⟨its, rv, p', hz⟩ := I1.tuple hq
    have p2 : s1.heap.IsTuple a its.toArray := p'
    refine made_enum_tup p2 fun h' he hit hsz hk => wpAny_pyIter_enum he ?_
    have I2 : Inv X pins σ H1 { s1 with heap := h' } := I1.kept (t' := s1.toks) hk
    refine ⟨s1.heap.objs.size + 1, [s1.heap.objs.size + 1, s1.heap.objs.size], _, _, H1, rfl, I2, turn_ItT a (s1.heap.objs.size + 1) s1.heap.objs.size, ⟨⟨.none, he⟩, hit, Nat.succ_ne_self _⟩, fun b hb => ?_, q⟩
    have hle : s1.heap.objs.size ≤ b := by
      rcases (by simpa using hb : b = s1.heap.objs.size + 1 ∨ b = s1.heap.objs.size) with z | z
      · rw [z]; exact Nat.le_add_right _ _
      · rw [z]; exact Nat.le_refl _
    exact I1.fpOk hle (I1.hok.fresh hle)
theorem walk_enT {K : PySem.W.Frag} {a : Addr} {xs : List V} : Walk (ItT K a) xs.length (fun H => SqT K H a xs) (YPair (fun i => some (.int (i : Nat))) (fun i => xs[i]?)) := by
  refine ⟨fun i _ hi q => ⟨xs, xs[i], q, by simp [hi]⟩, fun _ q => ⟨xs, q, Nat.le_refl _⟩, fun i H v H' _ q y => ?_⟩
  obtain ⟨T, x, h1, h2, h3, h4⟩ := y
  exact ⟨T, .int (i : Nat), x, h1, h2, h3, rfl, h4 xs q⟩
/-! ### list.extend(t), t a tuple -/
def rExtT : V → List V → Hp → VK → Prop := fun x vs H Q => ∃ l b xs zs, x = .ref l ∧ vs = [.ref b] ∧ H l = some (.lst xs) ∧ H b = some (.tup zs) ∧ xs.length + zs.length ≤ sizeLine ∧ Q .non (upd H l (.lst (xs ++ zs)))
theorem tuple_plain : True := True.intro
/-! ### t + u, t[lo:hi]: some tuple of the items -/
def rCatU (K : PySem.W.Frag) : R2 := fun x y H Q => ∃ a b xs ys, x = .ref a ∧ y = .ref b ∧ SqT K H a xs ∧ SqT K H b ys ∧ xs.length + ys.length ≤ sizeLine ∧ ∀ p H', Same H H' → SqT K H' p (xs ++ ys) → Q (.ref p) H'
theorem same_new {H : Hp} {p : Addr} {o : HO} (h : H p = none) : Same H (upd H p o) := fun b x e => by
  by_cases z : b = p
  · rw [z, h] at e
    cases e
  · rw [upd_ne z]
    exact e
theorem op_catU {X : Cx} : OpR X (binaryOp .Add) (rCatU X.K) := by
  intro pins s σ H x y v u Q I rx ry h
  obtain ⟨a, b, xs, ys, e1, e2, ha, hb, hz, q⟩ := h
  refine op_catA pins s σ H x y v u Q I rx ry ⟨a, b, xs, ys, e1, e2, ha, hb, hz, fun e => ?_, fun _ e => ?_, fun _ _ p np => ?_⟩
  · subst e
    exact q b H (Same.refl _) hb
  · subst e
    have z := q a H (Same.refl _) (by rw [List.append_nil]; exact ha)
    exact z
  · exact q p _ (same_new np) (SqT.of upd_same)
def rSlU (K : PySem.W.Frag) : V → Option Int → Option Int → Hp → VK → Prop := fun x lo hi H Q => ∃ a xs, x = .ref a ∧ SqT K H a xs ∧ ∀ p H', Same H H' → SqT K H' p (cutV xs lo hi) → Q (.ref p) H'
theorem sl_tupU {X : Cx} : SlR X (rSlU X.K) := by
  intro pins s σ H x v vl vu lo hi sl Q I rx hs pl pu h
  obtain ⟨a, xs, e, hx, q⟩ := h
  refine sl_tupA pins s σ H x v vl vu lo hi sl Q I rx hs pl pu ⟨a, xs, e, hx, fun z => ?_, fun _ p np => ?_⟩
  · have : cutV xs lo hi = xs := by
      unfold cutV
      rw [z.1, z.2, List.drop_zero, Nat.sub_zero, List.take_length]
    exact q a H (Same.refl _) (by rw [this]; exact hx)
  · exact q p _ (same_new np) (SqT.of upd_same)
/-! ### == of texts, or of data -/
def rEqU (K : PySem.W.Frag) : R2 := fun x y H Q => ∃ (d e : PyData), Dp K H x d ∧ Dp K H y e ∧ ((∃ a b, d = .str a ∧ e = .str b) ∨ (SeqAt.shaped d = true ∧ SeqAt.shaped e = true)) ∧ Q (.bl (PyData.eqv d e)) H
theorem op_eqU {X : Cx} (hu : X.A.units + 64 < cLine) : OpR X (compareOp .Eq) (rEqU X.K) := by
  intro pins s σ H x y v u Q I rx ry h
  obtain ⟨d, e, hd, he, hc, q⟩ := h
  rcases hc with ⟨a, b, rfl, rfl⟩ | ⟨sd, se⟩
  · cases hd
    cases he
    refine op_eq pins s σ H _ _ v u Q I rx ry ⟨rfl, ?_⟩
    rw [dec_str]
    simpa [PyData.eqv] using q
  · exact op_eqD hu pins s σ H x y v u Q I rx ry ⟨d, e, hd, he, sd, se, q⟩
end EK
namespace EK
open PySem PySem.Spec PyProof.Rows L2
section
open AutoSeq1
theorem ext_tup (l : Addr) (items : Array Value) (n : Nat) (b : Addr) (items2 : Array Value) (n2 : Nat) (dc : Option Addr) (sl : Array (Option Value)) (hs0 : ¬(!items.isEmpty && Builtin.List.listTooLong (items.size + items2.size)) = true) (hs1 : items.size ≤ sizeLine) (hs2 : items.size + items2.size ≤ sizeLine + 1) :
    Meets (Builtin.«list.extend» ⟨[.ref l, .ref b], []⟩) (fun _ R s => s.heap.get? l = some { cls := .type "list", dict := none, data := .seq items n, slots := #[] } ∧ s.heap.get? b = some { cls := .type "tuple", dict := dc, data := .seq items2 n2, slots := sl } ∧ R (.ok (.ret Value.none)) { s with heap := s.heap.update l (Obj.mapSeq fun x => x ++ items2), toks := s.toks }) :=
  .of_wp fun prog w A R s h => by
    obtain ⟨hp, g, d, tk, os⟩ := s
    obtain ⟨hl, hb, h⟩ := h
    have f1 := idx_int
    have f2 := AutoSeq1.sub_tuple_tuple
    have f3 := AutoSeq1.sub_list_list
    have f4 := AutoSeq1.sub_tuple_list
    have f5 := AutoSeq1.sub_list_tuple
    have hz' : (items ++ items2).size ≤ sizeLine + 1 := by rw [Array.size_append]; exact hs2
    wp_walk using (wpAny_updateSeq hl rfl (hz := hs1) (_hz' := hz')), wpAny_loadPart' hl, wpAny_loadPart' hb
    exact ⟨_, rfl, h⟩
end
theorem mt_extT {X : Cx} : MtM X "list.extend" rExtT := by
  intro pins s σ H x vs v us Q I rx rv h
  obtain ⟨l, b, xs, zs, rfl, rfl, hH, hB, hz, q⟩ := h
  cases rx
  obtain ⟨u, rfl, ru⟩ := rv.one
  cases ru
  obtain ⟨z, its, n, r, hl, e⟩ := I.lstM hH
  obtain ⟨its2, r2, ⟨⟨c2, dc, dt, sl⟩, e2, c3, n2, d3⟩, z2⟩ := I.tuple (SqT.of (K := X.K) hB)
  replace c3 : c2 = .type "tuple" := c3
  replace d3 : dt = .seq its2.toArray n2 := d3
  subst c3 d3
  have hl2 := r2.length
  have hsz : its.toArray.size + its2.toArray.size ≤ sizeLine := by rw [List.size_toArray, List.size_toArray]; omega
  have hlong : ¬ (!its.toArray.isEmpty && Builtin.List.listTooLong (its.toArray.size + its2.toArray.size)) = true := by
    rw [notLongL hsz, Bool.and_false]
    exact Bool.false_ne_true
  refine call_meets F.slot_list_extend ⟨_, e, rfl⟩ F.entry_list_extend (F.args_list_extend_2 _ _) (ext_tup l its.toArray n b its2.toArray n2 dc sl hlong (by rw [List.size_toArray]; omega) (by omega)) ⟨e, e2, ?_⟩
  refine ⟨.non, _, I.lset (its' := its ++ its2) hH e (by simp) (r.append r2) ?_, rfl, q⟩
  rw [List.length_append]
  omega
end EK
namespace K10
open PySem PySem.Spec PyProof.Rows L2
/-! ### values and data -/
mutual
inductive Vr (pd : Addr) (H : Hp) : V → D → Prop
  | no : Vr pd H .non .none
  | bo (b : Bool) : Vr pd H (.bl b) (.bool b)
  | num (i : Int) : Vr pd H (.int i) (.int i)
  | txt (x : Str) : Vr pd H (.str x) (.str x)
  | li {a : Addr} {xs : List V} {ds : List D} : H a = some (.lst xs) → a ≠ pd → VrA pd H xs ds → Vr pd H (.ref a) (.list ds)
  | tu {a : Addr} {xs : List V} {ds : List D} : H a = some (.tup xs) → a ≠ pd → VrA pd H xs ds → Vr pd H (.ref a) (.tuple ds)
inductive VrA (pd : Addr) (H : Hp) : List V → List D → Prop
  | nil : VrA pd H [] []
  | cons {v : V} {vs : List V} {d : D} {ds : List D} : Vr pd H v d → VrA pd H vs ds → VrA pd H (v :: vs) (d :: ds)
end
mutual
theorem Vr.dp {pd : Addr} {H : Hp} (K : PySem.W.Frag) : ∀ (d : D) {v : V}, Vr pd H v d → Dp K H v d
  | .none, _, h => by cases h; exact .non
  | .bool b, _, h => by cases h; exact .bl b
  | .int i, _, h => by cases h; exact .int i
  | .str x, _, h => by cases h; exact .str x
  | .list ds, _, h => by
    cases h with
    | li h1 _ h3 => exact .lst (SqL.of h1) (VrA.dp K ds h3)
  | .tuple ds, _, h => by
    cases h with
    | tu h1 _ h3 => exact .tup (SqT.of h1) (VrA.dp K ds h3)
  | .dict _, _, h => by cases h
theorem VrA.dp {pd : Addr} {H : Hp} (K : PySem.W.Frag) : ∀ (ds : List D) {vs : List V}, VrA pd H vs ds → DpAll K H vs ds
  | [], _, h => by cases h; exact .nil
  | d :: ds, _, h => by
    cases h with
    | cons h1 h2 => exact .cons (Vr.dp K d h1) (VrA.dp K ds h2)
end
mutual
theorem Vr.up {pd : Addr} {H H' : Hp} (k : ∀ b o, H b = some o → b ≠ pd → H' b = some o) : ∀ (d : D) {v : V}, Vr pd H v d → Vr pd H' v d
  | .none, _, h => by cases h; exact .no
  | .bool b, _, h => by cases h; exact .bo b
  | .int i, _, h => by cases h; exact .num i
  | .str x, _, h => by cases h; exact .txt x
  | .list ds, _, h => by
    cases h with
    | li h1 h2 h3 => exact .li (k _ _ h1 h2) h2 (VrA.up k ds h3)
  | .tuple ds, _, h => by
    cases h with
    | tu h1 h2 h3 => exact .tu (k _ _ h1 h2) h2 (VrA.up k ds h3)
  | .dict _, _, h => by cases h
theorem VrA.up {pd : Addr} {H H' : Hp} (k : ∀ b o, H b = some o → b ≠ pd → H' b = some o) : ∀ (ds : List D) {vs : List V}, VrA pd H vs ds → VrA pd H' vs ds
  | [], _, h => by cases h; exact .nil
  | d :: ds, _, h => by
    cases h with
    | cons h1 h2 => exact .cons (Vr.up k d h1) (VrA.up k ds h2)
end
variable {pd : Addr} {H H' : Hp}
theorem Vr.same (s : Same H H') {d : D} {v : V} (h : Vr pd H v d) : Vr pd H' v d := h.up (fun b o e _ => s b o e) d
theorem VrA.same (s : Same H H') {ds : List D} {vs : List V} (h : VrA pd H vs ds) : VrA pd H' vs ds := h.up (fun b o e _ => s b o e) ds
theorem VrA.len : ∀ {vs : List V} {ds : List D}, VrA pd H vs ds → vs.length = ds.length
  | _, [], h => by cases h; rfl
  | _, d :: ds, h => by
    cases h with
    | cons h1 h2 => rw [List.length_cons, List.length_cons, h2.len]
theorem VrA.get : ∀ {vs : List V} {ds : List D} {i : Nat} {v : V}, VrA pd H vs ds → vs[i]? = some v → ∃ d, ds[i]? = some d ∧ Vr pd H v d
  | _, [], i, v, h, e => by cases h; cases e
  | _, d :: ds, 0, v, h, e => by
    cases h with
    | cons h1 h2 =>
      cases e
      exact ⟨d, rfl, h1⟩
  | _, d :: ds, i + 1, v, h, e => by
    cases h with
    | cons h1 h2 => exact VrA.get (i := i) h2 e
theorem VrA.app : ∀ {vs us : List V} {ds es : List D}, VrA pd H vs ds → VrA pd H us es → VrA pd H (vs ++ us) (ds ++ es)
  | _, us, [], es, h, k => by cases h; exact k
  | _, us, d :: ds, es, h, k => by
    cases h with
    | cons h1 h2 => exact .cons h1 (VrA.app h2 k)
theorem VrA.split : ∀ {ds es : List D} {vs : List V}, VrA pd H vs (ds ++ es) → ∃ xs ys, vs = xs ++ ys ∧ VrA pd H xs ds ∧ VrA pd H ys es
  | [], es, vs, h => ⟨[], vs, rfl, .nil, h⟩
  | d :: ds, es, vs, h => by
    cases h with
    | cons h1 h2 =>
      obtain ⟨xs, ys, rfl, k1, k2⟩ := VrA.split h2
      exact ⟨_ :: xs, ys, rfl, .cons h1 k1, k2⟩
theorem VrA.take : ∀ {vs : List V} {ds : List D} (n : Nat), VrA pd H vs ds → VrA pd H (vs.take n) (ds.take n)
  | _, _, 0, h => by rw [List.take_zero, List.take_zero]; exact .nil
  | _, [], n + 1, h => by cases h; exact .nil
  | _, d :: ds, n + 1, h => by
    cases h with
    | cons h1 h2 => exact .cons h1 (VrA.take n h2)
theorem VrA.drop : ∀ {vs : List V} {ds : List D} (n : Nat), VrA pd H vs ds → VrA pd H (vs.drop n) (ds.drop n)
  | _, _, 0, h => h
  | _, [], n + 1, h => by cases h; exact .nil
  | _, d :: ds, n + 1, h => by
    cases h with
    | cons h1 h2 => exact VrA.drop n h2
theorem VrA.strs : ∀ (ws : List Str), VrA pd H (ws.map V.str) (ws.map PyData.str)
  | [] => .nil
  | w :: ws => .cons (.txt w) (VrA.strs ws)
theorem VrA.strs_inv : ∀ {ws : List Str} {vs : List V}, VrA pd H vs (ws.map PyData.str) → vs = ws.map V.str
  | [], _, h => by cases h; rfl
  | w :: ws, _, h => by
    cases h with
    | cons h1 h2 =>
      cases h1
      rw [VrA.strs_inv h2]
      rfl
def LiS (d : D) : Prop := ∀ s, d = .str s → s.length ≤ 1000
def Li (d : D) : Prop := LiS d ∧ ∀ ps, d = .tuple ps → ps.length ≤ 1000 ∧ ∀ p ∈ ps, LiS p
def LiW (ds : List D) : Prop := ds.length ≤ 1000 ∧ ∀ d ∈ ds, Li d
def LiL (ds : List D) : Prop := LiW ds ∧ ∀ r x y, ds = r ++ [x, y] → 1 < r.length → (∃ s, x = .str s) ∨ SeqAt.shaped x = true
theorem Vr.ask {v : V} {d : D} (h : Vr pd H v d) (l : LiS d) : Ask H v (nmD d) := by
  cases h with
  | no => exact .non
  | bo b => exact .bl b
  | num i => exact .int i
  | txt x => exact .str x (l x rfl)
  | li h1 h2 h3 => exact .lst _ _ h1
  | tu h1 h2 h3 => exact .tup _ _ h1
theorem sl1000 : (1000 : Nat) ≤ sizeLine := by rw [sizeLine_eq]; omega
theorem cut_from (xs : List V) (k : Nat) : cutV xs (some (k : Nat)) none = xs.drop k := by
  unfold cutV
  have e1 : HT.sIx xs.length xs.length none = xs.length := rfl
  have e2 : HT.sIx xs.length 0 (some ((k : Nat) : Int)) = min k xs.length := by
    unfold HT.sIx
    simp only
    rw [if_neg (by omega), Int.toNat_natCast]
  rw [e1, e2]
  by_cases h : k ≤ xs.length
  · rw [Nat.min_eq_left h]
    exact List.take_of_length_le (by rw [List.length_drop]; omega)
  · rw [Nat.min_eq_right (by omega), List.drop_length, List.drop_eq_nil_of_le (by omega), List.take_nil]
theorem cut_to (xs : List V) (k : Nat) : cutV xs none (some (k : Nat)) = xs.take k := by
  unfold cutV
  have e1 : HT.sIx xs.length 0 none = 0 := rfl
  have e2 : HT.sIx xs.length xs.length (some ((k : Nat) : Int)) = min k xs.length := by
    unfold HT.sIx
    simp only
    rw [if_neg (by omega), Int.toNat_natCast]
  rw [e1, e2, List.drop_zero, Nat.sub_zero]
  by_cases h : k ≤ xs.length
  · rw [Nat.min_eq_left h]
  · rw [Nat.min_eq_right (by omega), List.take_length, List.take_of_length_le (by omega)]
theorem cut_butn (xs ys : List V) (k : Nat) (hk : ys.length = k) (h0 : 0 < k) : cutV (xs ++ ys) none (some (-(k : Int))) = xs := by
  unfold cutV
  have e1 : HT.sIx (xs ++ ys).length 0 none = 0 := rfl
  have e2 : HT.sIx (xs ++ ys).length (xs ++ ys).length (some (-(k : Int))) = xs.length := by
    unfold HT.sIx
    simp only
    rw [if_pos (by omega), List.length_append]
    omega
  rw [e1, e2, List.drop_zero, Nat.sub_zero]
  exact List.take_left
theorem cut_lastn (xs ys : List V) (k : Nat) (hk : ys.length = k) (h0 : 0 < k) : cutV (xs ++ ys) (some (-(k : Int))) none = ys := by
  unfold cutV
  have e1 : HT.sIx (xs ++ ys).length (xs ++ ys).length none = (xs ++ ys).length := rfl
  have e2 : HT.sIx (xs ++ ys).length 0 (some (-(k : Int))) = xs.length := by
    unfold HT.sIx
    simp only
    rw [if_pos (by omega), List.length_append]
    omega
  rw [e1, e2, List.drop_left]
  exact List.take_of_length_le (by rw [List.length_append]; omega)
theorem at_back (xs ys : List V) (k : Nat) (h0 : 0 < k) (h1 : k ≤ ys.length) : atI (xs ++ ys) (-(k : Int)) = ys[ys.length - k]? := by
  unfold atI ixN
  rw [if_neg (by omega), if_pos (by rw [List.length_append]; omega)]
  show (xs ++ ys)[_]? = _
  rw [List.getElem?_append_right (by rw [List.length_append]; omega)]
  congr 1
  rw [List.length_append]
  omega
end K10
namespace K10
open PySem PySem.Spec PyProof.Rows L2
/-! ### t + u, t[lo:hi] of tuples that stand in the heap: old or new -/
def rCatH : R2 := fun x y H Q => ∃ a b xs ys, x = .ref a ∧ y = .ref b ∧ H a = some (.tup xs) ∧ H b = some (.tup ys) ∧ xs.length + ys.length ≤ sizeLine ∧ ∀ p H', Same H H' → H' p = some (.tup (xs ++ ys)) → (p = a ∨ p = b ∨ H p = none) → Q (.ref p) H'
theorem op_catH {X : Cx} : OpR X (binaryOp .Add) rCatH := by
  intro pins s σ H x y v u Q I rx ry h
  obtain ⟨a, b, xs, ys, e1, e2, ha, hb, hz, q⟩ := h
  refine op_catA pins s σ H x y v u Q I rx ry ⟨a, b, xs, ys, e1, e2, SqT.of ha, SqT.of hb, hz, fun e => ?_, fun _ e => ?_, fun _ _ p np => ?_⟩
  · subst e
    exact q b H (Same.refl _) hb (.inr (.inl rfl))
  · subst e
    exact q a H (Same.refl _) (by rw [List.append_nil]; exact ha) (.inl rfl)
  · exact q p _ (EK.same_new np) upd_same (.inr (.inr np))
def rSlH : V → Option Int → Option Int → Hp → VK → Prop := fun x lo hi H Q => ∃ a xs, x = .ref a ∧ H a = some (.tup xs) ∧ ∀ p H', Same H H' → H' p = some (.tup (cutV xs lo hi)) → (p = a ∨ H p = none) → Q (.ref p) H'
theorem sl_tupH {X : Cx} : SlR X rSlH := by
  intro pins s σ H x v vl vu lo hi sl Q I rx hs pl pu h
  obtain ⟨a, xs, e, hx, q⟩ := h
  refine sl_tupA pins s σ H x v vl vu lo hi sl Q I rx hs pl pu ⟨a, xs, e, SqT.of hx, fun z => ?_, fun _ p np => ?_⟩
  · have : cutV xs lo hi = xs := by
      unfold cutV
      rw [z.1, z.2, List.drop_zero, Nat.sub_zero, List.take_length]
    exact q a H (Same.refl _) (by rw [this]; exact hx) (.inl rfl)
  · exact q p _ (EK.same_new np) upd_same (.inr np)
abbrev sRep : Stmt := top 5
abbrev sWg : Stmt := top 14
theorem scRep : FnScope ["values", "at", "value"] ["values"] (defScope sRep) := ⟨rfl, rfl, rfl, by decide +kernel, rfl, by decide +kernel, by decide +kernel⟩
theorem scWg : FnScope ["value"] ["value"] (defScope sWg) := ⟨rfl, rfl, rfl, by decide +kernel, rfl, by decide +kernel, by decide +kernel⟩
section
variable {P : Program} {w : World} {K : PySem.W.Frag} {mg : Str → Option Value} {base : Heap} {aR pd : Addr}
theorem sqT {H H' : Hp} {a : Addr} {xs : List V} (e : Same H H') (h : SqT K H a xs) : SqT K H' a xs := by
  rcases h with h | h
  · rcases h with h | ⟨o, h⟩
    · exact .inl (.inl (e _ _ h))
    · exact .inl (.inr ⟨o, e _ _ h⟩)
  · exact .inr h
def spRep (K : PySem.W.Frag) : Sp := fun vs H Q _ => ∃ (a : Addr) (ws : List Str), vs = [.ref a] ∧ SqT K H a (ws.map V.str) ∧ ws.length ≤ 1000 ∧ ∀ H', Same H H' → Q (.bl (hasRep ws)) H'
theorem flags_take {ws : List Str} {i : Nat} (h : i < ws.length) : (List.range (i + 1)).map (flagAt ws) = (List.range i).map (flagAt ws) ++ [flagAt ws i] := by
  rw [List.range_succ, List.map_append]
  rfl
theorem ok_rep {f : Addr} {fd : FuncData} (F : FnP K "has_repeat" sRep f fd) (me : mg "enumerate" = none) (ma : mg "any" = none) : FnOk P w K mg base CX0 1 f fd ["values"] (spRep K) := by
  refine F.ok scRep (fun vs H Q E h => ?_) (fun cdv A outer s H vs Q E hr h => ?_)
  · obtain ⟨a, ws, rfl, _⟩ := h
    rfl
  · obtain ⟨a, ws, rfl, ha, hl, q⟩ := h
    refine ⟨_, PSs.nox (pss_one (ps_ret (pe_callB (cr_any rfl) (by rfl) ma (by decide +kernel) (pa_cons
      (pe_lc (own := [("at", 1), ("value", 2)]) (g := gTup K 2 (gCons (gName 1) (gCons (gName 2) gNil))) (tt := tYes) rfl scRep.nd (EK.pi_enT (by rfl) me (pa_cons (pv 0) pa_nil)) (blkOk_by (N := ["values", "at", "value"]) (sc := defScope sRep) (by decide +kernel))
        (fun _ _ _ _ _ => pg_tup rfl (pgs_cons (pg_name (i := 1) scRep.nd rfl (.inl rfl)) (pgs_cons (pg_name (i := 2) scRep.nd rfl (.inl rfl)) pgs_nil))) (fun _ _ _ _ _ => pts_nil)
        (fun _ _ _ _ _ => pe_cmpR (r := rIn K false) op_in_seq (pv 2) (pe_slice (r := EK.rSlU K) EK.sl_tupU (pv 0) po_none (po_some (pv 1))) rfl)) pa_nil)))), ?_⟩
    refine ⟨.ref a, rfl, a, ws.map V.str, rfl, ha, fun Dl nD => lc_it EK.walk_enT (fun i H3 => Same H H3 ∧ H3 Dl = some (.lst (((List.range i).map (flagAt ws)).map V.bl))) ⟨same_upd nD, upd_same⟩ (fun i H3 _ p => sqT (p.1) ha) ?_ ?_⟩
    · rintro i x H3 H4 hi ⟨sm, eD⟩ ⟨T, v1, v2, rfl, nT, rfl, e1, e2⟩
      rw [List.length_map] at hi
      cases e1
      have e3 : ws[i]? = some ws[i] := List.getElem?_eq_getElem hi
      have e2 : (ws.map V.str)[i]? = some v2 := e2
      rw [List.getElem?_map, e3] at e2
      cases e2
      have sm4 : Same H (upd H3 T (.tup [.int (i : Nat), V.str ws[i]])) := sm.trans (same_upd nT)
      refine ⟨T, _, rfl, SqT.of upd_same, rfl, .int (i : Nat), [.str ws[i]], rfl, .str ws[i], [], rfl, rfl, rfl, ?_⟩
      refine iteT (B := Same H (upd H3 T (.tup [.int (i : Nat), V.str ws[i]])) ∧ (upd H3 T (.tup [.int (i : Nat), V.str ws[i]])) Dl = some (.lst (((List.range (i + 1)).map (flagAt ws)).map V.bl))) ⟨.str ws[i], rfl, .ref a, rfl, .int (i : Nat), rfl, (i : Nat), rfl, a, ws.map V.str, rfl, sqT (sm4) ha, fun p H5 s5 hp => ?_⟩
      rw [cut_to] at hp
      refine ⟨p, _, rfl, .inr hp, rfl, by rw [← List.map_take, List.all_map]; exact List.all_eq_true.mpr fun _ _ => rfl, ?_⟩
      have eD5 : H5 Dl = some (.lst (((List.range i).map (flagAt ws)).map V.bl)) := s5 _ _ (by rw [upd_ne (ne_of_none eD nT)]; exact eD)
      have sm5 : Same H H5 := sm4.trans s5
      refine ⟨_, eD5, small1000 (by rw [List.length_map, List.length_map, List.length_range]; omega), Same.put sm5 nD, ?_⟩
      rw [upd_same, flags_take hi, List.map_append]
      have e6 : flagAt ws i = inV (.str ws[i]) ((ws.take i).map V.str) := by
        unfold flagAt
        rw [e3]
      rw [e6, List.map_take]
      rfl
    · rintro H3 ⟨sm, eD⟩
      rw [List.length_map] at eD
      exact ⟨Dl, _, rfl, SqL.of eD, q _ sm⟩
/-! ### _without_guard -/
def spWg (K : PySem.W.Frag) (pd : Addr) : Sp := fun vs H Q _ => ∃ (a : Addr) (xs : List V) (ds : List D), vs = [.ref a] ∧ H a = some (.tup xs) ∧ VrA pd H xs ds ∧ LiL ds ∧ ∀ p H' ys, Same H H' → H' p = some (.tup ys) → VrA pd H' ys (wg ds) → (p = a ∨ H p = none) → Q (.ref p) H'
theorem ok_wg {f fI : Addr} {fd fdI : FuncData} (F : FnP K "_without_guard" sWg f fd) (FI : FnP K "is_name" sIs fI fdI) (gI : mg "is_name" = some (.ref fI)) (N : Nm K mg aR) :
    FnOk P w K mg base CX0 2 f fd ["value"] (spWg K pd) := by
  have GI : FnOk P w K mg base CX0 1 fI fdI ["value"] spIs := ok_is FI N
  have bI : Binds K fdI ["value"] [] := FI.bindsN fun _ _ _ _ _ _ us hl => match us, hl with | [_], _ => rfl
  refine F.ok scWg (fun vs H Q E h => ?_) (fun cdv A outer s H vs Q E hr h => ?_)
  · obtain ⟨a, xs, ds, rfl, _⟩ := h
    rfl
  · obtain ⟨a, xs, ds, rfl, hA, hv, hl, q⟩ := h
    have ha : SqT K H a xs := SqT.of hA
    refine ⟨_, PSs.nox (pss_cons (ps_if (PW.pt (pw_and (pt_cmpR op_gt (pe_callB call_len_seq (by rfl) N.len PySem.boot_len (pa_cons (pv 0) pa_nil)) pe_int (nomark _))
        (pw_and (pt_cmpR (EK.op_eqU hr.units) (pe_ix ix_tup (pv 0) (pe_un un_neg pe_int) (fun _ _ => rfl)) pe_str (nomark _))
          (pw_and1 (pt_val (pe_call GI hr (by rfl) gI FI.kp bI .nil pass0 (pa_cons (pe_ix ix_tup (pv 0) (pe_un un_neg pe_int) (fun _ _ => rfl)) pa_nil)))))))
        (pss_one (ps_ret (pe_slice (r := rSlH) sl_tupH (pv 0) po_none (po_some (pe_un un_neg pe_int))))) pss_nil)
      (pss_one (ps_ret (pv 0)))), ?_⟩
    have hlen := hv.len
    have stay : wg ds = ds → Q (.ref a) H := fun e => q a H xs (Same.refl _) hA (by rw [e]; exact hv) (.inl rfl)
    refine ⟨.ref a, rfl, a, xs, rfl, .inr ha, _, _, rfl, rfl, _, rfl, ite2 (fun h3 => ?_) (fun h3 => ?_)⟩
    · have h3 : 3 < ds.length := by
        have := of_decide_eq_true h3
        omega
      obtain ⟨r, x, y, rfl⟩ := two_last (ds := ds) (by omega)
      obtain ⟨us, vs2, rfl, v1, v2⟩ := hv.split
      cases v2 with
      | cons vx v2 =>
      cases v2 with
      | cons vy v2 =>
      cases v2
      rename_i ux uy
      have lx := hl.2 r x y rfl
      have l1r : 1 < r.length := by
        have e9 : (r ++ [x, y]).length = r.length + 2 := by simp
        omega
      have ly : Li y := hl.1.2 y (by simp)
      have i2 : atI (us ++ [ux, uy]) (-2) = some ux := at_back us [ux, uy] 2 (by decide) (by show 2 ≤ 2; decide)
      have i1 : atI (us ++ [ux, uy]) (-1) = some uy := at_back us [ux, uy] 1 (by decide) (by show 1 ≤ 2; decide)
      have hw : wg (r ++ [x, y]) = if (isAs x && nmD y) = true then r else r ++ [x, y] := by
        rw [wg_app]
        have e9 : (r ++ [x, y]).length = r.length + 2 := by simp
        have : decide (1 < r.length) = true := decide_eq_true (by omega)
        rw [this, Bool.true_and]
      refine ⟨.ref a, rfl, 2, rfl, a, _, _, ux, rfl, rfl, ha, i2, x, .str "as", vx.dp K, .str _, ?_, _, rfl, ite2 (fun h4 => ?_) (fun h4 => ?_)⟩
      · rcases lx l1r with ⟨z, rfl⟩ | sh
        · exact .inl ⟨_, _, rfl, rfl⟩
        · exact .inr ⟨sh, by decide +kernel⟩
      · have h4 : isAs x = true := h4
        refine ⟨.ref a, rfl, 1, rfl, a, _, _, uy, rfl, rfl, ha, i1, uy, nmD y, rfl, vy.ask ly.1, fun H' sm => ?_⟩
        rw [h4, Bool.true_and] at hw
        refine ⟨_, rfl, ifB (fun h5 => ?_) (fun h5 => ?_)⟩
        · rw [h5, if_pos rfl] at hw
          refine ⟨.ref a, rfl, 2, rfl, -2, rfl, a, _, rfl, sm _ _ hA, fun p H2 s2 hp ho => ?_⟩
          have := cut_butn us [ux, uy] 2 rfl (by decide)
          rw [show (-(2 : Int)) = -((2 : Nat) : Int) from rfl] at hp
          rw [this] at hp
          exact q p H2 us (sm.trans s2) hp (by rw [hw]; exact (v1.same sm).same s2) (ho.imp id fun z => sm.free z)
        · rw [h5, if_neg (by simp)] at hw
          exact ⟨_, rfl, q a H' _ sm (sm _ _ hA) (by rw [hw]; exact hv.same sm) (.inl rfl)⟩
      · have h4 : isAs x = false := Bool.eq_false_iff.mpr h4
        rw [h4, Bool.false_and, if_neg (by simp)] at hw
        exact iteF ⟨_, rfl, stay hw⟩
    · have h3 : ds.length ≤ 3 := by
        by_cases z : ds.length ≤ 3
        · exact z
        · exact absurd (decide_eq_true (by omega)) h3
      exact iteF ⟨_, rfl, stay (wg_short h3)⟩
end
end K10
namespace K10
open PySem PySem.Spec PyProof.Rows L2
abbrev sCall : Stmt := top 15
abbrev sDeed : Stmt := top 16
theorem scCall : FnScope ["value", "name"] ["value"] (defScope sCall) := ⟨rfl, rfl, rfl, by decide +kernel, rfl, by decide +kernel, by decide +kernel⟩
theorem scDeed : FnScope ["value", "word", "names", "name"] ["value"] (defScope sDeed) := ⟨rfl, rfl, rfl, by decide +kernel, rfl, by decide +kernel, by decide +kernel⟩
def isTup : D → Bool
  | .tuple _ => true
  | _ => false
section
variable {P : Program} {w : World} {K : PySem.W.Frag} {mg : Str → Option Value} {base : Heap} {aR pd : Addr}
theorem Vr.tupK {H : Hp} {v : V} {d : D} (h : Vr pd H v d) : ∃ t, TyX K H v t ∧ PySem.W.kitOne K t (.type "tuple") = some (isTup d) := by
  cases h with
  | no => exact ⟨_, .base .non, kit_ty (r := false) (by decide +kernel)⟩
  | bo b => exact ⟨_, .base (.bl b), kit_ty (a := "bool") (b := "tuple") (r := false) (by decide +kernel)⟩
  | num i => exact ⟨_, .base (.int i), kit_ty (a := "int") (b := "tuple") (r := false) (by decide +kernel)⟩
  | txt x => exact ⟨_, .base (.str x), kit_ty (a := "str") (b := "tuple") (r := false) (by decide +kernel)⟩
  | li h1 h2 h3 => exact ⟨_, .base (.lst h1), kit_ty (a := "list") (b := "tuple") (r := false) (by decide +kernel)⟩
  | tu h1 h2 h3 => exact ⟨_, .base (.tup h1), kit_ty (a := "tuple") (b := "tuple") (r := true) (by decide +kernel)⟩
theorem Vr.strK {H : Hp} {v : V} {d : D} (h : Vr pd H v d) : ∃ t, TyX K H v t ∧ PySem.W.kitOne K t (.type "str") = some (isStr d) := by
  cases h with
  | no => exact ⟨_, .base .non, kit_ty (r := false) (by decide +kernel)⟩
  | bo b => exact ⟨_, .base (.bl b), kit_ty (a := "bool") (b := "str") (r := false) (by decide +kernel)⟩
  | num i => exact ⟨_, .base (.int i), kit_ty (a := "int") (b := "str") (r := false) (by decide +kernel)⟩
  | txt x => exact ⟨_, .base (.str x), kit_ty (a := "str") (b := "str") (r := true) (by decide +kernel)⟩
  | li h1 h2 h3 => exact ⟨_, .base (.lst h1), kit_ty (a := "list") (b := "str") (r := false) (by decide +kernel)⟩
  | tu h1 h2 h3 => exact ⟨_, .base (.tup h1), kit_ty (a := "tuple") (b := "str") (r := false) (by decide +kernel)⟩
/-- [is_name(x) for x in t] -/
theorem names_it {H : Hp} {a : Addr} {xs : List V} {ds : List D} {te : TE} {j : Nat} {σ : L2.St} {Q : VK} (ha : SqT K H a xs) (hv : VrA pd H xs ds) (hl : ∀ d ∈ ds, LiS d) (hn : ds.length ≤ 1000)
    (hte : ∀ v H3 (Q' : VK) b, Ask H3 v b → (∀ H', Same H3 H' → Q' (.bl b) H') → te ((wipe σ [j]).set j (some v)) H3 Q') (hw : ∀ v, wipe ((wipe σ [j]).set j (some v)) [j] = wipe σ [j])
    (hQ : ∀ H' D, Same H H' → SqL K H' D ((ds.map nmD).map V.bl) → Q (.ref D) H') : ∀ D, H D = none → ∃ W : Nat → Nat → Hp → Prop, (∃ m, W 0 m (upd H D (.lst []))) ∧ ∀ i m H, W i m H →
    ((Itt K a).stop i H ∧ Q (.ref D) H) ∨ ((Itt K a).go i H ∧ ∃ Nx : Hp → Prop, (∀ H', Nx H' → ∃ m', m' < m ∧ W (i + 1) m' H') ∧ ∀ x H', (Itt K a).yld i H x H' → gName j x (wipe σ [j]) H' fun σ2 H2 => wipe σ2 [j] = wipe σ [j] ∧ tYes σ2 H2 fun b H3 =>
      if b = true then te σ2 H3 fun y H4 => ∃ acc, H4 D = some (.lst acc) ∧ acc.length < sizeLine ∧ Nx (upd H4 D (.lst (acc ++ [y]))) else Nx H3) := by
  intro Dl nD
  have hlen := hv.len
  refine lc_it walk_tup (fun i H3 => Same H H3 ∧ H3 Dl = some (.lst (((ds.take i).map nmD).map V.bl))) ⟨same_upd nD, upd_same⟩ (fun i H3 _ p => sqT p.1 ha) ?_ ?_
  · rintro i x H3 H4 hi ⟨sm, eD⟩ ⟨rfl, hx⟩
    obtain ⟨d, hd, vd⟩ := hv.get hx
    have ld : LiS d := hl d (List.mem_of_getElem? hd)
    refine ⟨hw x, ?_⟩
    refine iteT (B := Same H H4 ∧ H4 Dl = some (.lst (((ds.take (i + 1)).map nmD).map V.bl))) ?_
    refine hte x H4 _ (nmD d) ((vd.same sm).ask ld) fun H5 s5 => ?_
    have eD5 := s5 _ _ eD
    refine ⟨_, eD5, small1000 (by rw [List.length_map, List.length_map, List.length_take]; omega), Same.put (sm.trans s5) nD, ?_⟩
    have e2 : ds.take (i + 1) = ds.take i ++ [d] := by rw [List.take_add_one, hd]; rfl
    rw [upd_same, e2, List.map_append, List.map_append]
    rfl
  · rintro H3 ⟨sm, eD⟩
    rw [hlen, List.take_length] at eD
    exact hQ H3 Dl sm (SqL.of eD)
theorem all_id (ds : List D) : (ds.map nmD).all id = ds.all nmD := by rw [List.all_map]; rfl
theorem names_all {H : Hp} {a : Addr} {xs : List V} {ds : List D} {te : TE} {j : Nat} {σ : L2.St} {Q : VK} (ha : SqT K H a xs) (hv : VrA pd H xs ds) (hl : ∀ d ∈ ds, LiS d) (hn : ds.length ≤ 1000)
    (hte : ∀ v H3 (Q' : VK) b, Ask H3 v b → (∀ H', Same H3 H' → Q' (.bl b) H') → te ((wipe σ [j]).set j (some v)) H3 Q') (hw : ∀ v, wipe ((wipe σ [j]).set j (some v)) [j] = wipe σ [j])
    (hQ : ∀ H', Same H H' → Q (.bl (ds.all nmD)) H') : ∀ D, H D = none → ∃ W : Nat → Nat → Hp → Prop, (∃ m, W 0 m (upd H D (.lst []))) ∧ ∀ i m H, W i m H →
    ((Itt K a).stop i H ∧ tNil σ H fun xs H2 => rAll K (V.ref D :: xs) H2 Q) ∨ ((Itt K a).go i H ∧ ∃ Nx : Hp → Prop, (∀ H', Nx H' → ∃ m', m' < m ∧ W (i + 1) m' H') ∧ ∀ x H', (Itt K a).yld i H x H' → gName j x (wipe σ [j]) H' fun σ2 H2 => wipe σ2 [j] = wipe σ [j] ∧ tYes σ2 H2 fun b H3 =>
      if b = true then te σ2 H3 fun y H4 => ∃ acc, H4 D = some (.lst acc) ∧ acc.length < sizeLine ∧ Nx (upd H4 D (.lst (acc ++ [y]))) else Nx H3) :=
  names_it (Q := fun x H2 => rAll K [x] H2 Q) ha hv hl hn hte hw fun H2 Dl s2 hD => ⟨Dl, _, rfl, hD, by rw [all_id]; exact hQ H2 s2⟩
def spCall (K : PySem.W.Frag) (pd : Addr) : Sp := fun vs H Q _ => ∃ (a : Addr) (xs : List V) (ds : List D), vs = [.ref a] ∧ SqT K H a xs ∧ VrA pd H xs ds ∧ LiW ds ∧ ∀ H', Same H H' → Q (.bl (isCall ds)) H'
theorem isCall_len {ds : List D} (h : ds.length ≠ 3) : isCall ds = false := by
  unfold isCall
  split
  · exact absurd rfl h
  · rfl
theorem ok_call {f fI : Addr} {fd fdI : FuncData} (F : FnP K "_is_call" sCall f fd) (FI : FnP K "is_name" sIs fI fdI) (gI : mg "is_name" = some (.ref fI)) (N : Nm K mg aR) (mt : mg "tuple" = none) :
    FnOk P w K mg base CX0 2 f fd ["value"] (spCall K pd) := by
  have GI : FnOk P w K mg base CX0 1 fI fdI ["value"] spIs := ok_is FI N
  have bI : Binds K fdI ["value"] [] := FI.bindsN fun _ _ _ _ _ _ us hl => match us, hl with | [_], _ => rfl
  refine F.ok scCall (fun vs H Q E h => ?_) (fun cdv A outer s H vs Q E hr h => ?_)
  · obtain ⟨a, xs, ds, rfl, _⟩ := h
    rfl
  · obtain ⟨a, xs, ds, rfl, ha, hv, hl, q⟩ := h
    refine ⟨_, PSs.nox (pss_cons (ps_if (PW.pt (pw_or (pt_cmpR op_ne (pe_callB call_len_seq (by rfl) N.len PySem.boot_len (pa_cons (pv 0) pa_nil)) pe_int (nomark _))
        (pw_or (pt_not (pt_val (pe_call GI hr (by rfl) gI FI.kp bI .nil pass0 (pa_cons (pe_ix ix_tup (pv 0) pe_int (fun _ _ => rfl)) pa_nil))))
          (pw_or1 (pt_not (pt_val (pe_callB call_isi (by rfl) N.isi (by decide +kernel) (pa_cons (pe_ix ix_tup (pv 0) pe_int (fun _ _ => rfl)) (pa_cons (pe_bltn (v := .ty "tuple") (by rfl) mt (by decide +kernel) rfl) pa_nil))))))))) (pss_one (ps_ret pe_bl)) pss_nil)
      (pss_one (ps_ret (pe_callB (cr_all rfl) (by rfl) N.all (by decide +kernel) (pa_cons
        (pe_lc (own := [("name", 1)]) (g := gName 1) (tt := tYes) rfl scCall.nd (pi_tup (pe_ix ix_tup (pv 0) pe_int (fun _ _ => rfl))) (blkOk_by (N := ["value", "name"]) (sc := defScope sCall) (by decide +kernel)) (fun _ _ _ _ _ => pg_name (i := 1) scCall.nd rfl (.inl rfl)) (fun _ _ _ _ _ => pts_nil)
          (fun _ _ _ _ _ => pe_call GI hr (by rfl) gI FI.kp bI .nil pass0 (pa_cons (pv 1) pa_nil))) pa_nil))))), ?_⟩
    have hlen := hv.len
    refine ⟨.ref a, rfl, a, xs, rfl, .inr ha, rfl, _, rfl, ifN (fun h3 => ?_) (fun h3 => ?_)⟩
    · have h3 : ds.length = 3 := by
        injection h3 with h3
        omega
      match ds, h3 with
      | [d0, d1, d2], _ =>
        cases hv with
        | cons v0 hv =>
        cases hv with
        | cons v1 hv =>
        cases hv with
        | cons v2 hv =>
        cases hv
        rename_i u0 u1 u2
        have l1 := hl.2 d1 (by simp)
        have l2 := hl.2 d2 (by simp)
        have e : isCall [d0, d1, d2] = (nmD d1 && (isTup d2 && (match d2 with | .tuple ps => ps | _ => []).all nmD)) := by
          unfold isCall
          cases d2 <;> simp [isTup]
        refine ⟨.ref a, rfl, a, _, 1, u1, rfl, rfl, ha, rfl, u1, nmD d1, rfl, v1.ask l1.1, fun H1 s1 => ⟨_, rfl, ?_⟩⟩
        cases hb : nmD d1 with
        | false =>
          rw [e, hb, Bool.false_and] at q
          exact iteT (iteT (q H1 s1))
        | true =>
          refine iteF ?_
          obtain ⟨t, ty, kt⟩ := (v2.same s1).tupK (K := K)
          refine ⟨.ref a, rfl, a, _, 2, u2, rfl, rfl, sqT s1 ha, rfl, u2, .ty "tuple", t, .type "tuple", isTup d2, rfl, .ty _, ty, kt, isTup d2, rfl, ?_⟩
          rw [e, hb, Bool.true_and] at q
          cases v2 with
          | tu g1 g2 g3 =>
            refine iteF ?_
            obtain ⟨ln, lp⟩ := l2.2 _ rfl
            refine ⟨.ref a, rfl, a, _, 2, _, rfl, rfl, sqT s1 ha, rfl, _, rfl, ⟨_, SqT.of (s1 _ _ g1)⟩, names_it (j := 1) (te := tCall spIs [] E0 (tCons (tVar 1) tNil)) (σ := L2.start [("value" : Str), "name"] [V.ref a]) (Q := fun x H2 => rAll K [x] H2 Q) (SqT.of (s1 _ _ g1)) (g3.same s1) lp ln (fun v H3 Q' b ask k => ⟨v, rfl, v, b, rfl, ask, k⟩) (fun _ => rfl) fun H2 Dl s2 hD => ?_⟩
            exact ⟨Dl, _, rfl, hD, by rw [all_id]; exact q H2 (s1.trans s2)⟩
          | no => exact iteT (q H1 s1)
          | bo b => exact iteT (q H1 s1)
          | num i => exact iteT (q H1 s1)
          | txt x => exact iteT (q H1 s1)
          | li g1 g2 g3 => exact iteT (q H1 s1)
    · rw [isCall_len (fun z => h3 (by rw [hlen, z]; rfl))] at q
      exact iteT (q H (Same.refl _))
end
end K10
namespace K10
open PySem PySem.Spec PyProof.Rows L2
theorem at0 {α : Type} (x : α) (xs : List α) : atI (x :: xs) 0 = some x := by
  unfold atI ixN
  rw [if_pos (by omega), if_pos (by rw [List.length_cons]; omega)]
  rfl
structure LenD (K : PySem.W.Frag) (w : World) (mg : Str → Option Value) (aL : Addr) : Prop where
  g : mg "_LENGTHS" = some (.ref aL)
  kd : ∃ es n, KDict K w aL es n
  has : ∀ z : Str, ∃ r, PySem.W.nsIn K aL z = some r ∧ r.isSome = (LEN.lookup z).isSome
  at_ : ∀ (z : Str) (k : Nat), LEN.lookup z = some k → KDct K w aL z (.int (k : Nat))
theorem imp {X : Cx} {st : List Stmt} {t t' : TS} (h : PSs X st t) (k : ∀ D σ H, t' D σ H → t D σ H) : PSs X st t' := ⟨fun pins s σ H D I hw => h.run pins s σ H D I (k D σ H hw)⟩
def restB (w : Str) (r : List D) : Bool := (namesOf w r).all nmD && (if w = "take" then decide ((namesOf w r).length = 1)
        else if w = "fetch" then decide (0 < (namesOf w r).length) && !hasRep (((namesOf w r).drop 1).map toStr)
        else lenB w (r.length + 1))
/-- .. where names are told -/
structure NmS (K : PySem.W.Frag) (pd : Addr) (Dn : Ends) (σ : L2.St) (H : Hp) (w : Str) (r : List D) (q p : Addr) (xs us : List V) : Prop where
  st : σ = [some (.ref q), some (.str w), some (.ref p), none]
  sp : SqT K H p us
  vp : VrA pd H us (namesOf w r)
  sq : SqT K H q xs
  lx : xs.length = r.length + 1
  ls : ∀ d ∈ namesOf w r, LiS d
  ln : (namesOf w r).length ≤ 1000
  k : ∀ H', Same H H' → Dn.rt (.bl (restB w r)) H'
def tNm (K : PySem.W.Frag) (pd : Addr) : TS := fun Dn σ H => ∃ w r q p xs us, NmS K pd Dn σ H w r q p xs us
section
variable {P : Program} {w : World} {K : PySem.W.Frag} {mg : Str → Option Value} {base : Heap} {aR aL pd : Addr}
def spDeed (pd : Addr) : Sp := fun vs H Q _ => ∃ (v : V) (d : D), vs = [v] ∧ Vr pd H v d ∧ (∀ ds, d = .tuple ds → LiL ds) ∧ ∀ H', Same H H' → Q (.bl (isDeed d)) H'
theorem lenB_some {h : Str} {n k : Nat} (e : LEN.lookup h = some k) : lenB h n = decide (n = k) := by
  unfold lenB
  rw [e]
theorem lenB_none {h : Str} {n : Nat} (e : LEN.lookup h = none) : lenB h n = false := by
  unfold lenB
  rw [e]
theorem namesOf_li {w : Str} {r : List D} (h : LiW (.str w :: r)) : (∀ d ∈ namesOf w r, LiS d) ∧ (namesOf w r).length ≤ 1000 := by
  have key : ∀ l : List D, (∃ t, .str w :: r = l ++ t) → (∀ d ∈ l.drop 1, LiS d) ∧ (l.drop 1).length ≤ 1000 := by
    rintro l ⟨t, e⟩
    refine ⟨fun d hd => (h.2 d ?_).1, ?_⟩
    · rw [e]
      exact List.mem_append.mpr (.inl (List.mem_of_mem_drop hd))
    · have := h.1
      rw [e, List.length_append] at this
      rw [List.length_drop]
      omega
  unfold namesOf
  by_cases hk : w = "take"
  · rw [if_pos hk]
    rcases wg_or (.str w :: r) with e | ⟨g, _, e, _⟩
    · rw [e]
      exact key (.str w :: r) ⟨[], (List.append_nil _).symm⟩
    · exact key _ ⟨_, e⟩
  · rw [if_neg hk]
    exact key (.str w :: r) ⟨[], (List.append_nil _).symm⟩
theorem ok_deed {f fI fG fC fR : Addr} {fd fdI fdG fdC fdR : FuncData} (F : FnP K "is_deed" sDeed f fd) (FI : FnP K "is_name" sIs fI fdI) (gI : mg "is_name" = some (.ref fI)) (FG : FnP K "_without_guard" sWg fG fdG) (gG : mg "_without_guard" = some (.ref fG))
    (FC : FnP K "_is_call" sCall fC fdC) (gC : mg "_is_call" = some (.ref fC)) (FR : FnP K "has_repeat" sRep fR fdR) (gR : mg "has_repeat" = some (.ref fR)) (N : Nm K mg aR) (mt : mg "tuple" = none) (me : mg "enumerate" = none) (ma : mg "any" = none) (LD : LenD K w mg aL) :
    FnOk P w K mg base CX0 3 f fd ["value"] (spDeed pd) := by
  have GI : FnOk P w K mg base CX0 1 fI fdI ["value"] spIs := ok_is FI N
  have bI : Binds K fdI ["value"] [] := FI.bindsN fun _ _ _ _ _ _ us hl => match us, hl with | [_], _ => rfl
  have GG : FnOk P w K mg base CX0 2 fG fdG ["value"] (spWg K pd) := ok_wg FG FI gI N
  have bG : Binds K fdG ["value"] [] := FG.bindsN fun _ _ _ _ _ _ us hl => match us, hl with | [_], _ => rfl
  have GC : FnOk P w K mg base CX0 2 fC fdC ["value"] (spCall K pd) := ok_call FC FI gI N mt
  have bC : Binds K fdC ["value"] [] := FC.bindsN fun _ _ _ _ _ _ us hl => match us, hl with | [_], _ => rfl
  have GR : FnOk P w K mg base CX0 1 fR fdR ["values"] (spRep K) := ok_rep FR me ma
  have bR : Binds K fdR ["values"] [] := FR.bindsN fun _ _ _ _ _ _ us hl => match us, hl with | [_], _ => rfl
  obtain ⟨es, nn, KD⟩ := LD.kd
  refine F.ok scDeed (fun vs H Q E h => ?_) (fun cdv A outer s H vs Q E hr h => ?_)
  · obtain ⟨v, d, rfl, _⟩ := h
    rfl
  · obtain ⟨v, d, rfl, hv, hl, q⟩ := h
    have hr1 := hr.mono (show 1 ≤ 2 by decide)
    refine ⟨_, PSs.nox (pss_cons (ps_if (PW.pt (pw_or (pt_not (pt_val (pe_callB call_isi (by rfl) N.isi (by decide +kernel) (pa_cons (pv 0) (pa_cons (pe_bltn (v := .ty "tuple") (by rfl) mt (by decide +kernel) rfl) pa_nil)))))
        (pw_or (pt_cmpR op_eq (pe_callB call_len_seq (by rfl) N.len PySem.boot_len (pa_cons (pv 0) pa_nil)) pe_int (nomark _))
          (pw_or1 (pt_not (pt_val (pe_callB call_isi (by rfl) N.isi (by decide +kernel) (pa_cons (pe_ix ix_tup (pv 0) pe_int (fun _ _ => rfl)) (pa_cons (pe_bltn (v := .ty "str") (by rfl) N.str (by decide +kernel) rfl) pa_nil))))))))) (pss_one (ps_ret pe_bl)) pss_nil)
      (pss_cons (ps_set (i := 1) scDeed.nd rfl (.inl rfl) (pe_ix ix_tup (pv 0) pe_int (fun _ _ => rfl)))
      (pss_cons (ps_if (pt_cmpR op_eq (pv 1) pe_str (nomark _)) (pss_one (ps_ret (pe_call GC hr (by rfl) gC FC.kp bC .nil pass0 (pa_cons (pe_call GG hr (by rfl) gG FG.kp bG .nil pass0 (pa_cons (pv 0) pa_nil)) pa_nil)))) pss_nil)
      (pss_cons (ps_set (i := 2) scDeed.nd rfl (.inl rfl) (pe_ifExp (pt_cmpR op_eq (pv 1) pe_str (nomark _)) (pe_slice (r := EK.rSlU K) EK.sl_tupU (pe_call GG hr (by rfl) gG FG.kp bG .nil pass0 (pa_cons (pv 0) pa_nil)) (po_some pe_int) po_none) (pe_slice (r := EK.rSlU K) EK.sl_tupU (pv 0) (po_some pe_int) po_none)))
      (imp (t' := tNm K pd) (pss_cons (ps_if (pt_not (pt_val (pe_callB (cr_all rfl) (by rfl) N.all (by decide +kernel) (pa_cons
          (pe_lc (own := [("name", 3)]) (g := gName 3) (tt := tYes) rfl scDeed.nd (pi_tup (pv 2)) (blkOk_by (N := ["value", "word", "names", "name"]) (sc := defScope sDeed) (by decide +kernel)) (fun _ _ _ _ _ => pg_name (i := 3) scDeed.nd rfl (.inl rfl)) (fun _ _ _ _ _ => pts_nil)
            (fun _ _ _ _ _ => pe_call GI hr1 (by rfl) gI FI.kp bI .nil pass0 (pa_cons (pv 3) pa_nil))) pa_nil)))) (pss_one (ps_ret pe_bl)) pss_nil)
      (pss_cons (ps_if (pt_cmpR op_eq (pv 1) pe_str (nomark _)) (pss_one (ps_ret (pe_cmpR op_eq (pe_callB call_len_seq (by rfl) N.len PySem.boot_len (pa_cons (pv 2) pa_nil)) pe_int (nomark _)))) pss_nil)
      (pss_cons (ps_if (pt_cmpR op_eq (pv 1) pe_str (nomark _)) (pss_one (ps_ret (pe_and (pe_cmpR op_gt (pe_callB call_len_seq (by rfl) N.len PySem.boot_len (pa_cons (pv 2) pa_nil)) pe_int (nomark _))
          (pe_one (pe_not (pe_call GR hr1 (by rfl) gR FR.kp bR .nil pass0 (pa_cons (pe_slice (r := EK.rSlU K) EK.sl_tupU (pv 2) (po_some pe_int) po_none) pa_nil))))))) pss_nil)
      (pss_one (ps_ret (pe_and (pe_cmpR (op_in_kd KD) (pv 1) (pe_glob (v := .ref aL) (by rfl) LD.g rfl) rfl)
          (pe_one (pe_cmpR op_eq (pe_callB call_len_seq (by rfl) N.len PySem.boot_len (pa_cons (pv 0) pa_nil)) (pe_ix ix_kdict (pe_glob (v := .ref aL) (by rfl) LD.g rfl) (pv 1) (fun _ _ => rfl)) (nomark _)))))))))
        (fun Dn σ H1 hm => ?_)))))), ?_⟩
    · obtain ⟨w0, r, qa, p, xs, us, st, sp, vp, sq, lx, ls, ln, k⟩ := hm
      subst st
      have lu := vp.len
      refine ⟨.ref p, rfl, p, rfl, ⟨_, sp⟩, ?_⟩
      refine names_all (K := K) (j := 3) (te := tCall spIs [] E0 (tCons (tVar 3) tNil)) (σ := [some (.ref qa), some (.str w0), some (.ref p), none]) sp vp ls ln (fun v H3 Q' b ask k => ⟨v, rfl, v, b, rfl, ask, k⟩) (fun _ => rfl) fun H2 s2 => ?_
      refine ⟨_, rfl, ?_⟩
      have k2 : ∀ (b : Bool), b = restB w0 r → ∀ H', Same H2 H' → Dn.rt (.bl b) H' := fun b e H' s => by rw [e]; exact k H' (s2.trans s)
      have sp2 := sqT s2 sp
      have sq2 := sqT s2 sq
      cases ha : (namesOf w0 r).all nmD with
      | false =>
        exact iteT (k2 false (by unfold restB; rw [ha]; rfl) H2 (Same.refl _))
      | true =>
        have eb : restB w0 r = (if w0 = "take" then decide ((namesOf w0 r).length = 1) else if w0 = "fetch" then decide (0 < (namesOf w0 r).length) && !hasRep (((namesOf w0 r).drop 1).map toStr) else lenB w0 (r.length + 1)) := by
          unfold restB
          rw [ha, Bool.true_and]
        rw [eb] at k2
        obtain ⟨en, _⟩ := strs_of ha
        refine iteF ⟨.str w0, rfl, rfl, _, rfl, ite2 (fun h1 => ?_) (fun h1 => ?_)⟩
        · have h1 : w0 = "take" := by injection of_decide_eq_true h1
          refine ⟨.ref p, rfl, p, us, rfl, .inr sp2, rfl, k2 _ ?_ H2 (Same.refl _)⟩
          rw [if_pos h1, dec_int, lu, Bool.eq_iff_iff]
          simp
          omega
        · have h1 : w0 ≠ "take" := fun e => h1 (decide_eq_true (by rw [e]))
          rw [if_neg h1] at k2
          refine ⟨.str w0, rfl, rfl, _, rfl, ite2 (fun h2 => ?_) (fun h2 => ?_)⟩
          · have h2 : w0 = "fetch" := by injection of_decide_eq_true h2
            rw [if_pos h2] at k2
            refine ⟨.ref p, rfl, p, us, rfl, .inr sp2, _, _, rfl, rfl, _, rfl, ite2 (fun h3 => ?_) (fun h3 => ?_)⟩
            · have h4 : 0 < (namesOf w0 r).length := by
                have := of_decide_eq_true h3
                omega
              refine ⟨.ref p, rfl, 1, rfl, p, us, rfl, sp2, fun p3 H3 s3 hp3 => ?_⟩
              have e3 : cutV us (some 1) none = us.drop 1 := cut_from us 1
              have e4 : us.drop 1 = (((namesOf w0 r).drop 1).map toStr).map V.str := by
                have z := vp
                rw [en] at z
                rw [VrA.strs_inv z, ← List.map_drop, ← List.map_drop]
              rw [e3, e4] at hp3
              refine ⟨p3, _, rfl, hp3, by rw [List.length_map, List.length_drop]; omega, fun H4 s4 => ⟨_, rfl, k2 _ ?_ H4 (s3.trans s4)⟩⟩
              rw [decide_eq_true h4, Bool.true_and]
            · refine k2 _ ?_ H2 (Same.refl _)
              have h4 : ¬ 0 < (namesOf w0 r).length := fun z => h3 (decide_eq_true (by omega))
              rw [decide_eq_false h4, Bool.false_and]
          · have h2 : w0 ≠ "fetch" := fun e => h2 (decide_eq_true (by rw [e]))
            rw [if_neg h2] at k2
            obtain ⟨ro, e5, e6⟩ := LD.has w0
            refine ⟨.str w0, rfl, w0, ro, rfl, rfl, e5, _, rfl, ?_⟩
            cases e7 : LEN.lookup w0 with
            | none =>
              rw [e7] at e6
              rw [e6]
              exact iteF (k2 _ (lenB_none e7).symm H2 (Same.refl _))
            | some n7 =>
              rw [e7] at e6
              rw [e6]
              refine iteT ⟨.ref qa, rfl, qa, xs, rfl, .inr sq2, .str w0, rfl, aL, w0, .int (n7 : Nat), rfl, rfl, LD.at_ w0 n7 e7, rfl, k2 _ ?_ H2 (Same.refl _)⟩
              rw [lenB_some e7, dec_int, lx, Bool.eq_iff_iff]
              simp
              omega
    · obtain ⟨t, ty, kt⟩ := hv.tupK (K := K)
      refine ⟨v, rfl, v, .ty "tuple", t, .type "tuple", isTup d, rfl, .ty _, ty, kt, isTup d, rfl, ?_⟩
      cases hv with
      | no => exact iteT (iteT (q H (Same.refl _)))
      | bo b => exact iteT (iteT (q H (Same.refl _)))
      | num i => exact iteT (iteT (q H (Same.refl _)))
      | txt x => exact iteT (iteT (q H (Same.refl _)))
      | li g1 g2 g3 => exact iteT (iteT (q H (Same.refl _)))
      | tu g1 g2 g3 =>
        rename_i a xs ds
        have hl := hl ds rfl
        have hlen := g3.len
        refine iteF ⟨.ref a, rfl, a, xs, rfl, .inr (SqT.of g1), rfl, _, rfl, ?_⟩
        cases g3 with
        | nil => exact iteT (iteT (q H (Same.refl _)))
        | @cons u0 us d0 dr v0 vr =>
          have e0 : decide (V.int (((u0 :: us).length : Nat) : Int) = V.int 0) = false := decide_eq_false (fun z => by
            injection z with z
            rw [List.length_cons] at z
            omega)
          rw [e0]
          obtain ⟨t0, ty0, kt0⟩ := v0.strK (K := K)
          refine iteF ⟨.ref a, rfl, a, _, 0, u0, rfl, rfl, SqT.of g1, at0 _ _, u0, .ty "str", t0, .type "str", isStr d0, rfl, .ty _, ty0, kt0, isStr d0, rfl, ?_⟩
          cases v0 with
          | no => exact iteT (q H (Same.refl _))
          | bo b => exact iteT (q H (Same.refl _))
          | num i => exact iteT (q H (Same.refl _))
          | li k1 k2 k3 => exact iteT (q H (Same.refl _))
          | tu k1 k2 k3 => exact iteT (q H (Same.refl _))
          | txt w0 =>
            have hva : VrA pd H (V.str w0 :: us) (.str w0 :: dr) := .cons (.txt w0) vr
            have hsq : SqT K H a (V.str w0 :: us) := SqT.of g1
            refine iteF ⟨.ref a, rfl, a, _, 0, .str w0, rfl, rfl, hsq, at0 _ _, .str w0, rfl, rfl, _, rfl, ite2 (fun h1 => ?_) (fun h1 => ?_)⟩
            · have h1 : w0 = "call" := by injection of_decide_eq_true h1
              subst h1
              refine ⟨.ref a, rfl, a, _, _, rfl, g1, hva, hl, fun p H2 ys s2 sp vp _ => ?_⟩
              have lw : LiW (wg (.str "call" :: dr)) := by
                rcases wg_or (.str "call" :: dr) with e | ⟨g, _, e, _⟩
                · rw [e]
                  exact hl.1
                · have l1 := hl.1.1
                  have l2 := hl.1.2
                  rw [e] at l1 l2
                  rw [List.length_append] at l1
                  exact ⟨by omega, fun d hd => l2 d (List.mem_append.mpr (.inl hd))⟩
              have e : isDeed (.tuple (.str "call" :: dr)) = isCall (wg (.str "call" :: dr)) := isDeedL_call dr
              rw [e] at q
              exact ⟨p, ys, _, rfl, SqT.of sp, vp, lw, fun H3 s3 => q H3 (s2.trans s3)⟩
            · have h1 : w0 ≠ "call" := fun e => h1 (decide_eq_true (by rw [e]))
              have e : isDeed (.tuple (.str w0 :: dr)) = restB w0 dr := by
                show isDeedL (.str w0 :: dr) = _
                unfold restB
                simp only [isDeedL, eq_false h1, if_false]
              rw [e] at q
              obtain ⟨n1, n2⟩ := namesOf_li hl.1
              refine ⟨.str w0, rfl, rfl, _, rfl, ite2 (fun h2 => ?_) (fun h2 => ?_)⟩
              · have h2 : w0 = "take" := by injection of_decide_eq_true h2
                have e2 : namesOf w0 dr = (wg (.str w0 :: dr)).drop 1 := by unfold namesOf; rw [if_pos h2]
                refine ⟨.ref a, rfl, a, _, _, rfl, g1, hva, hl, fun p H2 ys s2 sp vp _ => ⟨1, rfl, p, ys, rfl, SqT.of sp, fun p3 H3 s3 sp3 => ?_⟩⟩
                have e3 : cutV ys (some 1) none = ys.drop 1 := cut_from ys 1
                rw [e3] at sp3
                exact ⟨w0, dr, a, p3, _, _, rfl, sp3, by rw [e2]; exact (vp.drop 1).same s3, sqT (s2.trans s3) hsq, by rw [List.length_cons, vr.len], n1, n2, fun H4 s4 => q H4 ((s2.trans s3).trans s4)⟩
              · have h2 : w0 ≠ "take" := fun e => h2 (decide_eq_true (by rw [e]))
                have e2 : namesOf w0 dr = dr := by unfold namesOf; rw [if_neg h2]
                refine ⟨.ref a, rfl, 1, rfl, a, _, rfl, hsq, fun p3 H3 s3 sp3 => ?_⟩
                have e3 : cutV (V.str w0 :: us) (some 1) none = us := cut_from (V.str w0 :: us) 1
                rw [e3] at sp3
                exact ⟨w0, dr, a, p3, _, _, rfl, sp3, by rw [e2]; exact vr.same s3, sqT s3 hsq, by rw [List.length_cons, vr.len], n1, n2, fun H4 s4 => q H4 (s3.trans s4)⟩
end
end K10
namespace K10
open PySem PySem.Spec PyProof.Rows L2
/-! ### words of a deed -/
def PtOk (d : D) : Prop := (∃ s, d = .str s) ∨ ∃ ws : List Str, d = .tuple (ws.map .str)
def wordsOf : List D → List Str
  | [] => []
  | .str s :: r => s :: wordsOf r
  | .tuple ps :: r => ps.map toStr ++ wordsOf r
  | _ :: r => wordsOf r
theorem wordsOf_app : ∀ ds es : List D, wordsOf (ds ++ es) = wordsOf ds ++ wordsOf es
  | [], _ => rfl
  | .str s :: r, es => by
    show s :: wordsOf (r ++ es) = _
    rw [wordsOf_app r es]
    rfl
  | .tuple ps :: r, es => by
    show ps.map toStr ++ wordsOf (r ++ es) = _
    rw [wordsOf_app r es, ← List.append_assoc]
    rfl
  | .none :: r, es => wordsOf_app r es
  | .bool _ :: r, es => wordsOf_app r es
  | .int _ :: r, es => wordsOf_app r es
  | .list _ :: r, es => wordsOf_app r es
  | .dict _ :: r, es => wordsOf_app r es
theorem wordsOf_strs : ∀ ws : List Str, wordsOf (ws.map .str) = ws
  | [] => rfl
  | w :: ws => by
    show w :: wordsOf (ws.map .str) = _
    rw [wordsOf_strs ws]
theorem Fm.words {ds : List D} {ws : List Str} (f : Fm ds ws) : wordsOf ds = ws ∧ ∀ d ∈ ds, PtOk d := by
  have ps : ∀ l : List Str, ∀ d ∈ l.map PyData.str, PtOk d := fun l d hd => by
    obtain ⟨w, _, rfl⟩ := List.mem_map.mp hd
    exact .inl ⟨w, rfl⟩
  cases f with
  | call n qs t hn hp ht h32 =>
    refine ⟨?_, fun d hd => ?_⟩
    · show ("call" : Str) :: n :: ((qs.map PyData.str).map toStr ++ wordsOf (t.map .str)) = _
      rw [toStr_map, wordsOf_strs]
    · rcases List.mem_cons.mp hd with rfl | hd
      · exact .inl ⟨_, rfl⟩
      rcases List.mem_cons.mp hd with rfl | hd
      · exact .inl ⟨_, rfl⟩
      rcases List.mem_cons.mp hd with rfl | hd
      · exact .inr ⟨qs, rfl⟩
      · exact ps t d hd
  | any h r t h1 h2 hr ht h32 => exact ⟨wordsOf_strs _, ps _⟩
/-- the size of words -/
def wz (ws : List Str) : Nat := (ws.map (·.length)).sum + ws.length
theorem wz_app (a b : List Str) : wz (a ++ b) = wz a + wz b := by
  unfold wz
  rw [List.map_append, List.sum_append, List.length_append]
  omega
theorem wz_cons (w : Str) (ws : List Str) : wz (w :: ws) = w.length + 1 + wz ws := by
  unfold wz
  rw [List.map_cons, List.sum_cons, List.length_cons]
  omega
theorem wz_mem {w : Str} : ∀ {ws : List Str}, w ∈ ws → w.length + 1 ≤ wz ws
  | v :: ws, h => by
    rw [wz_cons]
    rcases List.mem_cons.mp h with rfl | h
    · omega
    · have := wz_mem h
      omega
theorem wz_len (ws : List Str) : ws.length ≤ wz ws := by unfold wz; omega
abbrev sWords : Stmt := top 17
abbrev sText : Stmt := top 18
abbrev sGuard : Stmt := top 20
abbrev sNamed : Stmt := top 21
theorem scWords : FnScope ["deed", "words", "part"] ["deed"] (defScope sWords) := ⟨rfl, rfl, rfl, by decide +kernel, rfl, by decide +kernel, by decide +kernel⟩
theorem scText : FnScope ["deed"] ["deed"] (defScope sText) := ⟨rfl, rfl, rfl, by decide +kernel, rfl, by decide +kernel, by decide +kernel⟩
theorem scGuard : FnScope ["deed"] ["deed"] (defScope sGuard) := ⟨rfl, rfl, rfl, by decide +kernel, rfl, by decide +kernel, by decide +kernel⟩
theorem scNamed : FnScope ["deed", "guard"] ["deed", "guard"] (defScope sNamed) := ⟨rfl, rfl, rfl, by decide +kernel, rfl, by decide +kernel, by decide +kernel⟩
section
variable {P : Program} {w : World} {K : PySem.W.Frag} {mg : Str → Option Value} {base : Heap} {aR aL pd : Addr}
/-- a deed's tuple of parts that have words -/
def HasW (pd : Addr) (H : Hp) (a : Addr) (xs : List V) (ds : List D) : Prop := H a = some (.tup xs) ∧ VrA pd H xs ds ∧ (∀ d ∈ ds, PtOk d) ∧ wz (wordsOf ds) ≤ 1000
def spWords (pd : Addr) : Sp := fun vs H Q _ => ∃ (a : Addr) (xs : List V) (ds : List D), vs = [.ref a] ∧ HasW pd H a xs ds ∧ ∀ p H', Same H H' → H p = none → H' p = some (.lst ((wordsOf ds).map V.str)) → Q (.ref p) H'
theorem take_words {ds : List D} (i : Nat) : wz (wordsOf (ds.take i)) ≤ wz (wordsOf ds) := by
  have e : wordsOf ds = wordsOf (ds.take i) ++ wordsOf (ds.drop i) := by rw [← wordsOf_app, List.take_append_drop]
  rw [e, wz_app]
  omega
theorem ok_words {f : Addr} {fd : FuncData} (F : FnP K "deed_words" sWords f fd) (mi : mg "isinstance" = none) (mt : mg "tuple" = none) : FnOk P w K mg base CX0 1 f fd ["deed"] (spWords pd) := by
  refine F.ok scWords (fun vs H Q E h => ?_) (fun cdv A outer s H vs Q E hr h => ?_)
  · obtain ⟨a, xs, ds, rfl, _⟩ := h
    rfl
  · obtain ⟨a, xs, ds, rfl, ⟨ha, hv, hp, hz⟩, q⟩ := h
    refine ⟨_, PSs.nox (pss_cons (ps_set (i := 1) scWords.nd rfl (.inl rfl) (pe_lst pa_nil))
      (pss_cons (ps_for PassesOwn.never rfl (pi_tup (pv 0)) (pg_name (i := 2) scWords.nd rfl (.inl rfl))
        (pss_one (ps_if (pt_val (pe_callB call_isi (by rfl) mi (by decide +kernel) (pa_cons (pv 2) (pa_cons (pe_bltn (v := .ty "tuple") (by rfl) mt (by decide +kernel) rfl) pa_nil))))
          (pss_one (ps_expr (pe_bm PySem.F.plainAttrs_list PySem.F.slot_list_extend PySem.F.type_list_extend EK.mt_extT (pv 1) (pa_cons (pv 2) pa_nil))))
          (pss_one (ps_expr (pe_bm PySem.F.plainAttrs_list PySem.F.slot_list_append PySem.F.type_list_append mt_append (pv 1) (pa_cons (pv 2) pa_nil)))))))
      (pss_one (ps_ret (pv 1))))), ?_⟩
    have hlen := hv.len
    refine ⟨Nat.zero_le _, fun p np => ?_⟩
    have s1 : Same H (upd H p (.lst [])) := same_upd np
    refine ⟨.ref a, rfl, a, rfl, ⟨_, SqT.of (s1 _ _ ha)⟩, for_it (walk_tup (xs := xs)) (fun i σ H3 => ∃ y, σ = [some (.ref a), some (.ref p), y] ∧ Same H H3 ∧ H3 p = some (.lst ((wordsOf (ds.take i)).map V.str))) ⟨none, rfl, s1, upd_same⟩ (fun _ _ _ _ ⟨_, _, sm, _⟩ => SqT.of (sm _ _ ha)) ?_ ?_⟩
    · rintro i x σ H3 H4 hi ⟨y, rfl, sm, ep⟩ ⟨rfl, hx⟩
      obtain ⟨d, hd, vd⟩ := hv.get hx
      have e2 : ds.take (i + 1) = ds.take i ++ [d] := by rw [List.take_add_one, hd]; rfl
      have e3 : wordsOf (ds.take (i + 1)) = wordsOf (ds.take i) ++ wordsOf [d] := by rw [e2, wordsOf_app]
      have tw := take_words (ds := ds) (i + 1)
      rw [e3, wz_app] at tw
      have l1 := wz_len (wordsOf (ds.take i))
      have l2 := wz_len (wordsOf [d])
      have vd3 := vd.same sm
      obtain ⟨t, ty, kt⟩ := vd3.tupK (K := K)
      refine ⟨x, rfl, x, .ty "tuple", t, .type "tuple", isTup d, rfl, .ty _, ty, kt, isTup d, rfl, ?_⟩
      rcases hp d (List.mem_of_getElem? hd) with ⟨z, rfl⟩ | ⟨ws, rfl⟩
      · cases vd3
        refine iteF ⟨.ref p, rfl, .inl ⟨rfl, _, SqL.of ep⟩, .str z, rfl, p, _, _, rfl, rfl, ep, small1000 (by rw [List.length_map]; simp [wordsOf] at l2; omega), ?_⟩
        refine ⟨_, rfl, Same.put sm np, ?_⟩
        rw [upd_same, e3, List.map_append]
        rfl
      · cases vd3 with
        | tu g1 g2 g3 =>
          have e4 := g3.strs_inv
          subst e4
          have e5 : wordsOf [PyData.tuple (ws.map .str)] = ws := by
            show (ws.map PyData.str).map toStr ++ [] = _
            rw [toStr_map, List.append_nil]
          rw [e5] at l2 e3 tw
          refine iteT ⟨.ref p, rfl, .inl ⟨rfl, _, SqL.of ep⟩, _, rfl, p, _, _, _, rfl, rfl, ep, g1, by rw [List.length_map, List.length_map, sizeLine_eq]; omega, ?_⟩
          refine ⟨_, rfl, Same.put sm np, ?_⟩
          rw [upd_same, e3, List.map_append]
    · rintro σ H3 ⟨y, rfl, sm, ep⟩
      rw [hlen, List.take_length] at ep
      exact ⟨.ref p, rfl, q p H3 sm np ep⟩
def spText (pd : Addr) : Sp := fun vs H Q _ => ∃ (a : Addr) (xs : List V) (ds : List D), vs = [.ref a] ∧ HasW pd H a xs ds ∧ ∀ H', Same H H' → Q (.str (joinW (wordsOf ds))) H'
theorem ok_text {f fW : Addr} {fd fdW : FuncData} (F : FnP K "deed_text" sText f fd) (FW : FnP K "deed_words" sWords fW fdW) (gW : mg "deed_words" = some (.ref fW)) (mi : mg "isinstance" = none) (mt : mg "tuple" = none) : FnOk P w K mg base CX0 2 f fd ["deed"] (spText pd) := by
  have GW : FnOk P w K mg base CX0 1 fW fdW ["deed"] (spWords pd) := ok_words FW mi mt
  have bW : Binds K fdW ["deed"] [] := FW.bindsN fun _ _ _ _ _ _ us hl => match us, hl with | [_], _ => rfl
  refine F.ok scText (fun vs H Q E h => ?_) (fun cdv A outer s H vs Q E hr h => ?_)
  · obtain ⟨a, xs, ds, rfl, _⟩ := h
    rfl
  · obtain ⟨a, xs, ds, rfl, hw, q⟩ := h
    refine ⟨_, PSs.nox (pss_one (ps_ret (pe_join pe_str (pe_call GW hr (by rfl) gW FW.kp bW .nil pass0 (pa_cons (pv 0) pa_nil))))), ?_⟩
    refine ⟨⟨_, rfl⟩, .ref a, rfl, a, xs, ds, rfl, hw, fun p H' sm np ep => ⟨" ", p, wordsOf ds, rfl, rfl, .inl (SqL.of ep), ?_, q H' sm⟩⟩
    have := hw.2.2.2
    unfold wz at this
    show _ + (wordsOf ds).length * 1 ≤ _
    omega
end
end K10
namespace K10
open PySem PySem.Spec PyProof.Rows L2
def guardOf (ds : List D) : Str := match end2 ds with
  | some (r, x, y) => if (decide (1 < r.length) && isAs x) = true then toStr y else ""
  | none => ""
theorem guardOf_app (r : List D) (x y : D) : guardOf (r ++ [x, y]) = if (decide (1 < r.length) && isAs x) = true then toStr y else "" := by
  unfold guardOf
  rw [end2_app]
theorem guardOf_short {ds : List D} (h : ds.length ≤ 3) : guardOf ds = "" := by
  by_cases h2 : 2 ≤ ds.length
  · obtain ⟨r, a, b, rfl⟩ := two_last h2
    rw [guardOf_app, if_neg]
    have : ¬ 1 < r.length := by simp at h; omega
    simp [this]
  · unfold guardOf
    rw [end2_short (by omega)]
section
variable {P : Program} {w : World} {K : PySem.W.Frag} {mg : Str → Option Value} {base : Heap} {aR aL pd : Addr}
def spGuard (pd : Addr) : Sp := fun vs H Q _ => ∃ (a : Addr) (xs : List V) (ds : List D), vs = [.ref a] ∧ H a = some (.tup xs) ∧ VrA pd H xs ds ∧ LiL ds ∧ (∀ r x y, ds = r ++ [x, y] → isAs x = true → ∃ g, y = .str g) ∧ Q (.str (guardOf ds)) H
theorem ok_guard {f : Addr} {fd : FuncData} (F : FnP K "guard_name" sGuard f fd) (ml : mg "len" = none) : FnOk P w K mg base CX0 1 f fd ["deed"] (spGuard pd) := by
  refine F.ok scGuard (fun vs H Q E h => ?_) (fun cdv A outer s H vs Q E hr h => ?_)
  · obtain ⟨a, xs, ds, rfl, _⟩ := h
    rfl
  · obtain ⟨a, xs, ds, rfl, hA, hv, hl, hy, q⟩ := h
    have ha : SqT K H a xs := SqT.of hA
    refine ⟨_, PSs.nox (pss_one (ps_ret (pe_ifExp (PW.pt (pw_and (pt_cmpR op_gt (pe_callB call_len_seq (by rfl) ml PySem.boot_len (pa_cons (pv 0) pa_nil)) pe_int (nomark _))
        (pw_and1 (pt_cmpR (EK.op_eqU hr.units) (pe_ix ix_tup (pv 0) (pe_un un_neg pe_int) (fun _ _ => rfl)) pe_str (nomark _)))))
        (pe_ix ix_tup (pv 0) (pe_un un_neg pe_int) (fun _ _ => rfl)) pe_str))), ?_⟩
    have hlen := hv.len
    refine ⟨.ref a, rfl, a, xs, rfl, .inr ha, _, _, rfl, rfl, _, rfl, ite2 (fun h3 => ?_) (fun h3 => ?_)⟩
    · have h3 : 3 < ds.length := by
        have := of_decide_eq_true h3
        omega
      obtain ⟨r, x, y, rfl⟩ := two_last (ds := ds) (by omega)
      obtain ⟨us, vs2, rfl, v1, v2⟩ := hv.split
      cases v2 with
      | @cons ux _ _ _ vx v2 =>
      cases v2 with
      | @cons uy _ _ _ vy v2 =>
      cases v2
      have lx := hl.2 r x y rfl (by have e9 : (r ++ [x, y]).length = r.length + 2 := by simp
                                    omega)
      have i2 : atI (us ++ [ux, uy]) (-2) = some ux := at_back us [ux, uy] 2 (by decide) (by show 2 ≤ 2; decide)
      have i1 : atI (us ++ [ux, uy]) (-1) = some uy := at_back us [ux, uy] 1 (by decide) (by show 1 ≤ 2; decide)
      have e9 : (r ++ [x, y]).length = r.length + 2 := by simp
      have hd : decide (1 < r.length) = true := decide_eq_true (by omega)
      rw [guardOf_app, hd, Bool.true_and] at q
      refine ⟨.ref a, rfl, 2, rfl, a, _, _, ux, rfl, rfl, ha, i2, x, .str "as", vx.dp K, .str _, ?_, _, rfl, ?_⟩
      · rcases lx with ⟨z, rfl⟩ | sh
        · exact .inl ⟨_, _, rfl, rfl⟩
        · exact .inr ⟨sh, by decide +kernel⟩
      · change (if isAs x = true then _ else _)
        cases hx : isAs x with
        | true =>
          obtain ⟨g, rfl⟩ := hy r x y rfl hx
          rw [hx, if_pos rfl] at q
          cases vy
          exact iteT ⟨.ref a, rfl, 1, rfl, a, _, _, _, rfl, rfl, ha, i1, q⟩
        | false =>
          rw [hx, if_neg (by simp)] at q
          exact iteF q
    · have h3 : ds.length ≤ 3 := by
        by_cases z : ds.length ≤ 3
        · exact z
        · exact absurd (decide_eq_true (by omega)) h3
      rw [guardOf_short h3] at q
      exact iteF q
def spNamed (pd : Addr) : Sp := fun vs H Q _ => ∃ (a : Addr) (g : Str) (xs : List V) (ds : List D), vs = [.ref a, .str g] ∧ a ≠ pd ∧ (∃ o, H pd = some o) ∧ H a = some (.tup xs) ∧ VrA pd H xs ds ∧ LiL ds ∧ ∀ p H', Same H H' → Vr pd H' (.ref p) (.tuple (wg ds ++ [.str "as", .str g])) → Q (.ref p) H'
theorem not_pd {H : Hp} {pd p : Addr} (h : ∃ o, H pd = some o) (n : H p = none) : p ≠ pd := fun e => by
  obtain ⟨o, ho⟩ := h
  rw [e, ho] at n
  cases n
theorem wg_le (ds : List D) : (wg ds).length ≤ ds.length := by
  rcases wg_or ds with e | ⟨g, _, e, _⟩
  · rw [e]; exact Nat.le_refl _
  · have := congrArg List.length e
    rw [List.length_append] at this
    omega
theorem ok_named {f fI fG : Addr} {fd fdI fdG : FuncData} (F : FnP K "named" sNamed f fd) (FI : FnP K "is_name" sIs fI fdI) (gI : mg "is_name" = some (.ref fI)) (FG : FnP K "_without_guard" sWg fG fdG) (gG : mg "_without_guard" = some (.ref fG)) (N : Nm K mg aR) :
    FnOk P w K mg base CX0 3 f fd ["deed", "guard"] (spNamed pd) := by
  have GG : FnOk P w K mg base CX0 2 fG fdG ["value"] (spWg K pd) := ok_wg FG FI gI N
  have bG : Binds K fdG ["value"] [] := FG.bindsN fun _ _ _ _ _ _ us hl => match us, hl with | [_], _ => rfl
  refine F.ok scNamed (fun vs H Q E h => ?_) (fun cdv A outer s H vs Q E hr h => ?_)
  · obtain ⟨a, g, xs, ds, rfl, _⟩ := h
    rfl
  · obtain ⟨a, g, xs, ds, rfl, na, hpd, hA, hv, hl, q⟩ := h
    refine ⟨_, PSs.nox (pss_one (ps_ret (pe_op op_catH (pe_call GG hr (by rfl) gG FG.kp bG .nil pass0 (pa_cons (pv 0) pa_nil)) (pe_tup (pa_cons pe_str (pa_cons (pv 1) pa_nil)))))), ?_⟩
    refine ⟨.ref a, rfl, a, xs, ds, rfl, hA, hv, hl, fun p H1 ys s1 hp vp ho => ⟨.str g, rfl, by show 2 ≤ sizeLine; decide, fun t nt => ?_⟩⟩
    have s2 : Same H1 (upd H1 t (.tup [.str "as", .str g])) := same_upd nt
    have l1 := vp.len
    have l2 := wg_le ds
    have l3 := hl.1.1
    have hpd1 : ∃ o, H1 pd = some o := let ⟨o, h⟩ := hpd; ⟨o, s1 _ _ h⟩
    have np : p ≠ pd := by
      rcases ho with rfl | n
      · exact na
      · exact not_pd hpd n
    refine ⟨p, t, ys, _, rfl, rfl, s2 _ _ hp, upd_same, by rw [sizeLine_eq]; show ys.length + 2 ≤ _; omega, fun p2 H2 s3 hp2 ho2 => q p2 H2 ((s1.trans s2).trans s3) (.tu hp2 ?_ ?_)⟩
    · rcases ho2 with rfl | rfl | n
      · exact np
      · exact not_pd hpd1 nt
      · exact not_pd (H := upd H1 t _) (let ⟨o, h⟩ := hpd1; ⟨o, s2 _ _ h⟩) n
    · exact VrA.app ((vp.same s2).same s3) (.cons (.txt _) (.cons (.txt _) .nil))
end
end K10
namespace L2
open PySem PySem.Spec PyProof.Rows
/-! try .. except X as n .. and more clauses behind it that are never come to -/
def wAs1 (K : PySem.W.Frag) (c : Value) (i : Nat) (ts : Addr → Value → Option Addr → TS) (D : Ends) : WX := fun cls d σ H =>
  PySem.W.exmOne K cls c = some true ∧ ∀ a, H a = none → ts a cls d { nx := fun σ2 H2 => D.nx (σ2.set i none) H2, rt := D.rt, bk := fun σ2 H2 => D.bk (σ2.set i none) H2, ct := fun σ2 H2 => D.ct (σ2.set i none) H2 } (σ.set i (some (.ref a))) H
section
variable {X : Cx} {x n : Str} {c : Value} {i : Nat} {body suite : List Stmt} {hds : List ExceptHandler} {b₀ : Stmt} {np pos pos' : Pos} {tb : WX → TS} {ts : Addr → Value → Option Addr → TS}
theorem ps_try_as1 (hs : X.stack = X.env :: X.outer) (hf : X.env.frame = some X.env.locals) (hN : X.N.Nodup) (hi : X.N[i]? = some n) (hln : X.env.kindOf n = some .local) (hc : Names X x c)
    (hb : ∀ (W : WX) (pn : List (Addr × Obj)) (xe : Value → Shared → Prop), Takes (X.tr pn xe) W → PassesOwn (model X.prog X.w) X.A X.env xe → PSs (X.tr pn xe) body (tb W))
    (hsu : ∀ (a : Addr) (oe : Obj) (cls : Value) (d : Option Addr) (pn : List (Addr × Obj)), Zc cls d oe → (∃ vs, oe.data = .fields vs) → PSs (X.suite a ((a, oe) :: pn)) (b₀ :: suite) (ts a cls d)) :
    PS X (.Try body (.ExceptHandler (some (.Name x np)) (some n) (b₀ :: suite) pos' :: hds) [] [] pos) (fun D σ H => tb (wAs1 X.K c i ts D) D σ H) := by
  refine ⟨fun pins s σ H D I h => ?_⟩
  have ok := I.ok
  have hfr : X.A.frames = some (X.env :: X.outer) := by rw [ok.frames, hs]
  have hloc : Loc X.env.scope n := .inl hln
  refine wpAny_Try_except ?_
  refine wpAny_mono ((hb (wAs1 X.K c i ts D) (X.pn ++ pins) (fun e s₁ => wpAny (model X.prog X.w) X.A (noteFrame e X.env) (fun _ s₂ => wpAny (model X.prog X.w) X.A (setFlight e none) (fun _ s₃ =>
    wpAny (model X.prog X.w) X.A (handleBy e X.env (.ExceptHandler (some (.Name x np)) (some n) (b₀ :: suite) pos' :: hds)) (SP X pins D) X.xe s₃) X.xe s₂) X.xe s₁) (fun u s' xx => ?_) PassesOwn.looking).run [] s σ H D (I.toTry _) h) (fun f s1 hsp => ?_) (fun e s1 he => he)
  · -- the catch
    obtain ⟨a, B, sI, pins2, σ2, H2, cls, d, rfl, J', nb, up, air, na, os, ag, hb1, hyes⟩ := xx
    have J : Inv X pins σ2 H2 sI := J'.ofTry ok
    have sky' : Sky B (X.env :: X.outer) a (Zc cls d) X.env.locals s'.heap := by rw [← hs]; exact air
    show wpAny (model X.prog X.w) X.A (noteFrame (.ref a) X.env) _ _ _
    refine Sky.land Zc.steady hfr hf sky' fun h3 fy3 ux3 => ?_
    have K3 : Inv X pins σ2 H2 { s' with heap := h3 } := J.landed nb fy3.1 (up.trans ux3) os ag
    obtain ⟨ob3, ws3, ge3, gz3, gd3⟩ := fy3.there
    have outFr : ∀ {h : Heap} {o : Obj} {vs : Array Value}, h.FunFrames B (X.env :: X.outer) → h.get? a = some o → o.data = .fields vs → a ∉ frs (X.env :: X.outer) := fun {h o vs} ff e dd hm => by
      obtain ⟨_, o', e', hnf⟩ := ff.mem hm
      rw [e] at e'; cases e'
      exact hnf _ dd
    have nof := outFr fy3.2.2.1 ge3 gd3
    have nl0 : a ≠ X.env.locals := fun z => nof (List.mem_filterMap.mpr ⟨X.env, List.mem_cons_self, by rw [hf, z]⟩)
    have nf0 : a ∉ X.fs := fun hm => by
      obtain ⟨e, he, q⟩ := List.mem_filterMap.mp hm
      exact nof (List.mem_filterMap.mpr ⟨e, List.mem_cons_of_mem _ he, q⟩)
    have T3 := K3.suite ge3 gd3 na nl0 nf0
    refine wpAny_handleBy_cons (codeAny_handlers_test ?_) (by intro q; cases q)
    have ty0 : PySem.W.Looks (model X.prog X.w) h3 (typeOf (.ref a)) cls := fun A Q E s k q => wpAny_typeOf_ref (k _ _ ge3) (by rw [gz3.1]; exact q)
    have mt0 := PySem.W.exm_one (M := model X.prog X.w) (K3.kIn) ty0 hb1
    have test : ∀ {Q : Value → Shared → Prop} {E : Value → Shared → Prop}, Q c { s' with heap := h3 } → wpAny (model X.prog X.w) (X.A.mark (some (.ref a))) (eval (.Name x np) X.env) Q E { s' with heap := h3 } := fun {Q E} q => by
      obtain ⟨hg, hdbg, hm | ⟨hm, hv, hnn⟩⟩ := hc
      · exact ld_glob (X := X.suite a ((a, ob3) :: (X.pn ++ pins))) T3 hg hm q hdbg
      · exact ld_blt (X := X.suite a ((a, ob3) :: (X.pn ++ pins))) T3 hg hm hv q hnn hdbg
    refine test (mt0.here ?_)
    refine codeAny_handlers_suite_as ?_
    refine HandSPX.lands_againZ fy3 fun h4 fy4 ux4 => ?_
    have K4 : Inv X pins σ2 H2 { s' with heap := h4 } := J.landed nb fy4.1 ((up.trans ux3).trans ux4) os ag
    obtain ⟨ob4, ws4, ge4, gz4, gd4⟩ := fy4.there
    have T4 := K4.suite ge4 gd4 na nl0 nf0
    refine store_ok (X := X.suite a ((a, ob4) :: (X.pn ++ pins))) (v := .ref a) T4 hN hi hloc rfl (fun s5 S5 => ?_) (.inr hln)
    refine wpAny_mono ((hsu a ob4 cls d (X.pn ++ pins) gz4 ⟨_, gd4⟩).run [] s5 _ H2 _ S5 (hyes a na)) (fun f s6 hsp => ?_) (fun _ _ z => False.elim z)
    have fin6 : ∀ {σ6 : St} {H6 : Hp} {Q : Shared → Prop}, Inv (X.suite a ((a, ob4) :: (X.pn ++ pins))) [] σ6 H6 s6 → (∀ s7, Inv X pins (σ6.set i none) H6 s7 → Q s7) →
        wpAny (model X.prog X.w) X.A (do bindName X.env n .none; unbindBehindTheSuite X.env n pos') (fun _ s7 => Q s7) X.xe s6 := fun {σ6 H6 Q} S6 hq => gone_ok (S6.unsuite ok) hN hi hln hq
    cases f with
    | next =>
      obtain ⟨σ6, H6, S6, q6⟩ := hsp
      exact fin6 S6 fun s7 J7 => ⟨_, _, J7, q6⟩
    | brk =>
      obtain ⟨σ6, H6, S6, q6⟩ := hsp
      exact fin6 S6 fun s7 J7 => ⟨_, _, J7, q6⟩
    | cont =>
      obtain ⟨σ6, H6, S6, q6⟩ := hsp
      exact fin6 S6 fun s7 J7 => ⟨_, _, J7, q6⟩
    | ret u =>
      obtain ⟨v6, σ6, H6, S6, r6, q6⟩ := hsp
      exact fin6 S6 fun s7 J7 => ⟨_, _, _, J7, r6, q6⟩
  · cases f with
    | next =>
      obtain ⟨σ2, H2, J', q⟩ := hsp
      exact wpAny_execs_nil ⟨σ2, H2, J'.ofTry ok, q⟩
    | brk =>
      obtain ⟨σ2, H2, J', q⟩ := hsp
      exact ⟨σ2, H2, J'.ofTry ok, q⟩
    | cont =>
      obtain ⟨σ2, H2, J', q⟩ := hsp
      exact ⟨σ2, H2, J'.ofTry ok, q⟩
    | ret u =>
      obtain ⟨v, σ2, H2, J', r, q⟩ := hsp
      exact ⟨v, σ2, H2, J'.ofTry ok, r, q⟩
end
/-- isinstance(e, c), e the exception that the suite holds, with its fields -/
def rIsE2 (K : PySem.W.Frag) (cls : Value) (dd : Option Addr) (a : Addr) : List V → Hp → VK → Prop := fun xs H Q => ∃ (D d : Addr) (fs : List (Str × V)), cls = .ref D ∧ dd = some d ∧ H d = some (.xd fs) ∧ ExcC K D ∧ rIsE K D a xs H Q
theorem call_isE2 {X : Cx} {a : Addr} {cls : Value} {dd : Option Addr} {oe : Obj} {pn : List (Addr × Obj)} (hz : Zc cls dd oe) (hf : ∃ vs, oe.data = .fields vs) : CallR (X.suite a ((a, oe) :: pn)) (.builtin "isinstance") (rIsE2 X.K cls dd a) := by
  intro pins s σ H xs us Q I r h
  obtain ⟨D, d, fs, rfl, rfl, hd, C, c, cv, b, rfl, hcv, e, q⟩ := h
  cases r with
  | cons rx rr =>
    cases rr with
    | cons rt rr =>
      cases rr
      cases rx
      have ec := hcv _ rt
      subst ec
      obtain ⟨hget, _⟩ := I.pin (a, oe) (List.mem_append.mpr (.inl List.mem_cons_self))
      obtain ⟨vs, hv⟩ := hf
      obtain ⟨mA, hns, _⟩ := (show ObjOk X.prog X.w H s.heap d (.xd fs) from I.hok d _ hd)
      obtain ⟨od, hod, _⟩ := lookIn_ns hns
      have J : PySem.W.InstAt s.heap a oe D (some od) := by
        obtain ⟨oc, od', oda, osl⟩ := oe
        obtain ⟨h1, h2⟩ := hz
        dsimp only at h1 h2 hv
        subst h1 h2 hv
        exact ⟨hget, rfl, rfl, hod⟩
      exact PySem.W.kia_one (PySem.W.kitx_excA C.hg C.hk C.hs C.hd C.ha C.hn C.ht C.hm) I.kIn J e (fun z => nomatch z) fun tk => ⟨.bl b, H, I.kept (t' := tk) fun _ _ z => z, rfl, q⟩
end L2
namespace L2
open PySem PySem.Spec PyProof.Rows NdefX
/-! ### messages -/
/-- a value that may stand in a message -/
def ShoA (H : Hp) (x : V) : Prop := Sho x ∨ ∃ p xs, x = .ref p ∧ H p = some (.tup xs) ∧ xs.length ≤ 10 ∧ ∀ v ∈ xs, Sho v
theorem ShoA.keep {H H' : Hp} {x : V} (h : ShoA H x) (k : ∀ p xs, H p = some (.tup xs) → H' p = some (.tup xs)) : ShoA H' x := by
  rcases h with h | ⟨p, xs, e, hp, r⟩
  · exact .inl h
  · exact .inr ⟨p, xs, e, k p xs hp, r⟩
/-- a part of a message: a short text, whatever it is -/
def GoodT (t : TE) (σ : L2.St) (H : Hp) : Prop := ∀ R : V → Hp → Prop, (∀ y : Str, y.length ≤ 100000 → R (.str y) H) → t σ H R
theorem good_str {x : Str} {σ : L2.St} {H : Hp} (h : x.length ≤ 100000) : GoodT (tC (.str x)) σ H := fun _ q => q x h
theorem good_fmt {i : Nat} {v : V} {σ : L2.St} {H : Hp} (e : σ[i]? = some (some v)) (h : ShoA H v) : GoodT (tFmtRA (tVar i)) σ H := fun _ q => ⟨v, e, h, q⟩
theorem good_fmtP {i : Nat} {v : V} {σ : L2.St} {H : Hp} (e : σ[i]? = some (some v)) (h : ShoA H v) : GoodT (tFmtA (tVar i)) σ H := fun _ q => ⟨v, e, h, q⟩
theorem msg_ok {σ : L2.St} {H : Hp} {R : Str → Hp → Prop} (q : ∀ x, R x H) : ∀ (ts : List TE) (acc : Str), (∀ t ∈ ts, GoodT t σ H) → acc.length + 100000 * ts.length ≤ sizeLine → tJs ts acc σ H R
  | [], acc, _, _ => q acc
  | t :: ts, acc, h, hl => by
    refine h t List.mem_cons_self _ fun y hy => ⟨y, rfl, ?_, ?_⟩
    · rw [List.length_cons] at hl
      rw [strLen_append]
      omega
    · refine msg_ok q ts _ (fun u hu => h u (List.mem_cons_of_mem _ hu)) ?_
      rw [List.length_cons] at hl
      rw [strLen_append]
      omega
/-! ### the promise of such an __init__ -/
/-- an exception of the class C with these fields (the last stored first) -/
def ExcAt (H0 H : Hp) (e C : Addr) (fs : List (Str × V)) : Prop := (fs = [] ∧ H e = some (exo e C none)) ∨ ∃ d, H0 d = none ∧ H e = some (exo e C (some d)) ∧ H d = some (exd d fs)
def spInit (C : Addr) (fn : List Str) : Sp := fun vs H Q _ => ∃ (a : Addr) (ws : List V), vs = .ref a :: ws ∧ ws.length = fn.length ∧ H a = some (exo a C none) ∧ (∀ v ∈ ws, ShoA H v) ∧
  ∀ H', (∀ b o, H b = some o → b ≠ a → H' b = some o) → ExcAt H H' a C (fn.zip ws).reverse → Q .non H'
theorem exo_ne_tup {H : Hp} {a C : Addr} {p : Addr} {xs : List V} (h : H a = some (exo a C none)) (hp : H p = some (.tup xs)) : p ≠ a := at_ne h hp exo_tup
section
variable {P : Program} {w : World} {K : PySem.W.Frag} {mg : Str → Option Value} {base : Heap} {C fI cc cda : Addr} {qual : Str} {params : Arguments} {scope : Scope} {e : Expr} {p0 p1 p2 p3 p4 q1 q2 q3 q4 r1 r2 r3 r4 : Pos} {ar : Arg} {f1 f2 : Str}
abbrev supC (e : Expr) (p0 p1 p2 p3 p4 : Pos) : Stmt := .Expr (.Call (.Attribute (.Call (.Name "super" p0) [] [] p1) "__init__" p2) [e] [] p3) p4
abbrev stoC (f : Str) (q1 q2 q3 q4 : Pos) : Stmt := .Assign [.Attribute (.Name "self" q1) f q2] (.Name f q3) q4
/-- what is asked of the message, in the frame of the __init__ -/
def MsgOk (P : Program) (w : World) (K : PySem.W.Frag) (mg : Str → Option Value) (base : Heap) (N : List Str) (F : NF) (fI : Addr) (e : Expr) (n : Nat) : Prop :=
  ∀ (A : Around) (outer : List Env) (s : Shared) (H : Hp) (E : XK), A.units + 200 < cLine → ∃ te, PE (ncx CX0 P w K mg base N F fI A outer s H E) e te ∧ ∀ (σ : L2.St) (H' : Hp) (R : V → Hp → Prop), (∀ i, 1 ≤ i → i ≤ n → ∃ v, σ[i]? = some (some v) ∧ ShoA H' v) → (∀ x, R (.str x) H') → te σ H' R
theorem init1 (T : SupC P K mg C fI cc cda qual params [supC e p0 p1 p2 p3 p4, stoC f1 q1 q2 q3 q4] scope) (S : NScope ["self", f1, "__class__"] ["self", f1] ["__class__"] scope)
    (har : ar.arg = "self") (hpar : (params.posonlyargs ++ params.args).head? = some ar) (hks : scope.names.lookup ("super" : Str) = some NameKind.globalImplicit)
    (hbind : ∀ (nm : Str) (kV doc pm ct : Value) (an : Option Addr) (us : List Value), us.length = 2 → bindArgs (PySem.W.fnX nm qual params [supC e p0 p1 p2 p3 p4, stoC f1 q1 q2 q3 q4] scope [("__class__", cc)] .none kV doc pm an (.ref cda) ct) ⟨us, []⟩ = pure ([("self" : Str), f1].zip us))
    {pl : Env → Sem Bool} (hev : ∀ env : Env, eval (.Call (.Attribute (.Call (.Name "super" p0) [] [] p1) "__init__" p2) [e] [] p3) env = (do
      let ov ← attributeBase (.Call (.Name "super" p0) [] [] p1) "__init__" env (eval (.Call (.Name "super" p0) [] [] p1) env)
      standAt p2.atName
      let (f, first) ← holding [ov] (getMethod ov "__init__" (pl env))
      callWith p3 f first (backTo p3 (starEach [e] env)) []))
    (hse : ∀ env : Env, starEach [e] env = (false, eval e env) :: starEach [] env)
    (hm : MsgOk P w K mg base ["self", f1, "__class__"] ⟨"__init__", qual, params, [stoC f1 q1 q2 q3 q4], scope, [("__class__", cc)], cda⟩ fI e 1)
    (hf : (f1 == ("__debug__" : Str)) = false) (hf2 : (f1 == ("__classdict__" : Str)) = false) (hno : PySem.W.findIn K (.ref C) f1 = some none) :
    ∃ fd, FnOk P w K mg base CX0 1 fI fd ["self", f1] (spInit C [f1]) ∧ Binds K fd ["self", f1] [] := by
  refine sup_ok (k := 0) (N := ["self", f1, "__class__"]) T S (by rw [har]; rfl) hpar hks (fun nm kV doc pm ct an us hl => hbind nm kV doc pm ct an us hl) hev hse (fun vs H Q E h => ?_) (fun A outer s H vs Q E hr h => ?_)
  · obtain ⟨a, ws, rfl, hl, _⟩ := h
    show ws.length + 1 = 2
    rw [hl]
    rfl
  · obtain ⟨a, ws, rfl, hl, ha, hs, q⟩ := h
    obtain ⟨v, rfl⟩ : ∃ v, ws = [v] := by
      cases ws with
      | nil => cases hl
      | cons v r =>
        cases r with
        | nil => exact ⟨v, rfl⟩
        | cons _ _ => cases hl
    obtain ⟨te, hte, hq⟩ := hm A outer s H E (by have := hr.un; show A.units + 200 < cLine; have z : (A.deeper (envF ⟨"__init__", qual, params, [stoC f1 q1 q2 q3 q4], scope, [("__class__", cc)], cda⟩ fI s.heap.objs.size)).units = A.units + 3 := rfl; omega)
    refine ⟨a, [v], te, _, rfl, ha, hte, pss_one (ps_ost (pv 0 (hv := .inl (S.par _ List.mem_cons_self))) (pe_var (i := 1) rfl (.inl (S.par _ (List.mem_cons_of_mem _ List.mem_cons_self))) hf hf2) rfl), ?_⟩
    refine hq _ _ _ (fun i h1 h2 => ?_) fun x => ⟨ha, ?_⟩
    · have e1 : i = 1 := by omega
      subst e1
      exact ⟨v, rfl, hs v List.mem_cons_self⟩
    · refine ⟨v, rfl, .ref a, rfl, a, C, rfl, T.ox, hno, .inl ⟨ha, fun dx nd ne => ?_⟩⟩
      refine q _ (fun b o hb hne => ?_) (.inr ⟨dx, nd, upd_same, ?_⟩)
      · rw [upd_ne hne, upd_ne (ne_of_none hb nd)]
        exact hb
      · rw [upd_ne ne, upd_same]
        rfl
theorem init2 (T : SupC P K mg C fI cc cda qual params [supC e p0 p1 p2 p3 p4, stoC f1 q1 q2 q3 q4, stoC f2 r1 r2 r3 r4] scope) (S : NScope ["self", f1, f2, "__class__"] ["self", f1, f2] ["__class__"] scope)
    (har : ar.arg = "self") (hpar : (params.posonlyargs ++ params.args).head? = some ar) (hks : scope.names.lookup ("super" : Str) = some NameKind.globalImplicit)
    (hbind : ∀ (nm : Str) (kV doc pm ct : Value) (an : Option Addr) (us : List Value), us.length = 3 → bindArgs (PySem.W.fnX nm qual params [supC e p0 p1 p2 p3 p4, stoC f1 q1 q2 q3 q4, stoC f2 r1 r2 r3 r4] scope [("__class__", cc)] .none kV doc pm an (.ref cda) ct) ⟨us, []⟩ = pure ([("self" : Str), f1, f2].zip us))
    {pl : Env → Sem Bool} (hev : ∀ env : Env, eval (.Call (.Attribute (.Call (.Name "super" p0) [] [] p1) "__init__" p2) [e] [] p3) env = (do
      let ov ← attributeBase (.Call (.Name "super" p0) [] [] p1) "__init__" env (eval (.Call (.Name "super" p0) [] [] p1) env)
      standAt p2.atName
      let (f, first) ← holding [ov] (getMethod ov "__init__" (pl env))
      callWith p3 f first (backTo p3 (starEach [e] env)) []))
    (hse : ∀ env : Env, starEach [e] env = (false, eval e env) :: starEach [] env)
    (hm : MsgOk P w K mg base ["self", f1, f2, "__class__"] ⟨"__init__", qual, params, [stoC f1 q1 q2 q3 q4, stoC f2 r1 r2 r3 r4], scope, [("__class__", cc)], cda⟩ fI e 2)
    (hf : (f1 == ("__debug__" : Str)) = false) (hf2 : (f1 == ("__classdict__" : Str)) = false) (hno : PySem.W.findIn K (.ref C) f1 = some none) (hg : (f2 == ("__debug__" : Str)) = false) (hg2 : (f2 == ("__classdict__" : Str)) = false) (hno2 : PySem.W.findIn K (.ref C) f2 = some none) :
    ∃ fd, FnOk P w K mg base CX0 1 fI fd ["self", f1, f2] (spInit C [f1, f2]) ∧ Binds K fd ["self", f1, f2] [] := by
  refine sup_ok (k := 0) (N := ["self", f1, f2, "__class__"]) T S (by rw [har]; rfl) hpar hks (fun nm kV doc pm ct an us hl => hbind nm kV doc pm ct an us hl) hev hse (fun vs H Q E h => ?_) (fun A outer s H vs Q E hr h => ?_)
  · obtain ⟨a, ws, rfl, hl, _⟩ := h
    show ws.length + 1 = 3
    rw [hl]
    rfl
  · obtain ⟨a, ws, rfl, hl, ha, hs, q⟩ := h
    obtain ⟨v, v2, rfl⟩ : ∃ v v2, ws = [v, v2] := by
      cases ws with
      | nil => cases hl
      | cons v r =>
        cases r with
        | nil => cases hl
        | cons v2 r =>
          cases r with
          | nil => exact ⟨v, v2, rfl⟩
          | cons _ _ => cases hl
    obtain ⟨te, hte, hq⟩ := hm A outer s H E (by have := hr.un; show A.units + 200 < cLine; have z : (A.deeper (envF ⟨"__init__", qual, params, [stoC f1 q1 q2 q3 q4, stoC f2 r1 r2 r3 r4], scope, [("__class__", cc)], cda⟩ fI s.heap.objs.size)).units = A.units + 3 := rfl; omega)
    refine ⟨a, [v, v2], te, _, rfl, ha, hte, pss_cons (ps_ost (pv 0 (hv := .inl (S.par _ List.mem_cons_self))) (pe_var (i := 1) rfl (.inl (S.par _ (List.mem_cons_of_mem _ List.mem_cons_self))) hf hf2) rfl)
      (pss_one (ps_ost (pv 0 (hv := .inl (S.par _ List.mem_cons_self))) (pe_var (i := 2) rfl (.inl (S.par _ (List.mem_cons_of_mem _ (List.mem_cons_of_mem _ List.mem_cons_self)))) hg hg2) rfl)), ?_⟩
    refine hq _ _ _ (fun i h1 h2 => ?_) fun x => ⟨ha, ?_⟩
    · have e1 : i = 1 ∨ i = 2 := by omega
      rcases e1 with rfl | rfl
      · exact ⟨v, rfl, hs v List.mem_cons_self⟩
      · exact ⟨v2, rfl, hs v2 (List.mem_cons_of_mem _ List.mem_cons_self)⟩
    · refine ⟨v, rfl, .ref a, rfl, a, C, rfl, T.ox, hno, .inl ⟨ha, fun dx nd ne => ?_⟩⟩
      refine ⟨v2, rfl, .ref a, rfl, a, C, rfl, T.ox, hno2, .inr ⟨dx, [(f1, v)], upd_same, by rw [upd_ne ne, upd_same], (by show 1 ≤ 900; decide), ?_⟩⟩
      refine q _ (fun b o hb hne => ?_) (.inr ⟨dx, nd, ?_, upd_same⟩)
      · rw [upd_ne (ne_of_none hb nd), upd_ne hne, upd_ne (ne_of_none hb nd)]
        exact hb
      · rw [upd_ne ne.symm, upd_same]
theorem init0 (T : SupC P K mg C fI cc cda qual params [supC e p0 p1 p2 p3 p4] scope) (S : NScope ["self", "__class__"] ["self"] ["__class__"] scope)
    (har : ar.arg = "self") (hpar : (params.posonlyargs ++ params.args).head? = some ar) (hks : scope.names.lookup ("super" : Str) = some NameKind.globalImplicit)
    (hbind : ∀ (nm : Str) (kV doc pm ct : Value) (an : Option Addr) (us : List Value), us.length = 1 → bindArgs (PySem.W.fnX nm qual params [supC e p0 p1 p2 p3 p4] scope [("__class__", cc)] .none kV doc pm an (.ref cda) ct) ⟨us, []⟩ = pure ([("self" : Str)].zip us))
    {pl : Env → Sem Bool} (hev : ∀ env : Env, eval (.Call (.Attribute (.Call (.Name "super" p0) [] [] p1) "__init__" p2) [e] [] p3) env = (do
      let ov ← attributeBase (.Call (.Name "super" p0) [] [] p1) "__init__" env (eval (.Call (.Name "super" p0) [] [] p1) env)
      standAt p2.atName
      let (f, first) ← holding [ov] (getMethod ov "__init__" (pl env))
      callWith p3 f first (backTo p3 (starEach [e] env)) []))
    (hse : ∀ env : Env, starEach [e] env = (false, eval e env) :: starEach [] env)
    (hm : MsgOk P w K mg base ["self", "__class__"] ⟨"__init__", qual, params, [], scope, [("__class__", cc)], cda⟩ fI e 0) :
    ∃ fd, FnOk P w K mg base CX0 1 fI fd ["self"] (spInit C []) ∧ Binds K fd ["self"] [] := by
  refine sup_ok (k := 0) (N := ["self", "__class__"]) T S (by rw [har]; rfl) hpar hks (fun nm kV doc pm ct an us hl => hbind nm kV doc pm ct an us hl) hev hse (fun vs H Q E h => ?_) (fun A outer s H vs Q E hr h => ?_)
  · obtain ⟨a, ws, rfl, hl, _⟩ := h
    show ws.length + 1 = 1
    rw [hl]
    rfl
  · obtain ⟨a, ws, rfl, hl, ha, hs, q⟩ := h
    obtain rfl : ws = [] := by
      cases ws with
      | nil => rfl
      | cons v r => cases hl
    obtain ⟨te, hte, hq⟩ := hm A outer s H E (by have := hr.un; show A.units + 200 < cLine; have z : (A.deeper (envF ⟨"__init__", qual, params, [], scope, [("__class__", cc)], cda⟩ fI s.heap.objs.size)).units = A.units + 3 := rfl; omega)
    refine ⟨a, [], te, _, rfl, ha, hte, pss_nil, ?_⟩
    exact hq _ _ _ (fun i h1 h2 => absurd h1 (by omega)) fun x => ⟨ha, q _ (fun b o hb _ => hb) (.inl ⟨rfl, ha⟩)⟩
end
end L2
namespace K10
open PySem PySem.Spec PyProof.Rows L2
abbrev sRead : Stmt := top 19
theorem scRead : FnScope ["text", "words", "guard", "deed"] ["text"] (defScope sRead) := ⟨rfl, rfl, rfl, by decide +kernel, rfl, by decide +kernel, by decide +kernel⟩
/-- an own error's class, raised and caught -/
structure ErC (P : Program) (w : World) (K : PySem.W.Frag) (mg : Str → Option Value) (base : Heap) (x : Str) (C : Addr) (fn : List Str) : Prop where
  g : mg x = some (.ref C)
  ox : OexC K C
  ok : ∃ (fI : Addr) (fd : FuncData) (ps : List Str), PySem.W.findIn K (.ref C) "__init__" = some (some (.ref fI)) ∧ PySem.W.typeIn K (.ref fI) = some (.type "function") ∧ FnOk P w K mg base CX0 1 fI fd ps (spInit C fn) ∧ Binds K fd ps []
  xf : XfC K C
  no : ∀ f ∈ fn, PySem.W.findIn K (.ref C) f = some none
  ec : ExcC K C
section
variable {P : Program} {w : World} {K : PySem.W.Frag} {mg : Str → Option Value} {base : Heap} {aR aL pd C : Addr}
theorem joinL_len : ∀ ps : List (List Nat), ps ≠ [] → (TL.joinL [32] ps).length + 1 = (ps.map List.length).sum + ps.length
  | [], h => absurd rfl h
  | [p], _ => by
    show p.length + 1 = (p.length + 0) + 1
    rfl
  | p :: q :: r, _ => by
    have ih := joinL_len (q :: r) (by simp)
    show (p ++ ([32] ++ TL.joinL [32] (q :: r))).length + 1 = (p.length + ((q :: r).map List.length).sum) + ((q :: r).length + 1)
    rw [List.length_append, List.length_append]
    show p.length + (1 + (TL.joinL [32] (q :: r)).length) + 1 = _
    omega
theorem joinW_wz {ws : List Str} (h : ws ≠ []) : (joinW ws).length + 1 = wz ws := by
  have e : TL.tl (joinW ws) = TL.joinL [32] (ws.map TL.tl) := by
    show TL.tl (Txt.join " " ws) = _
    rw [TL.join_eq, TL.tl_join]
    rfl
  rw [TL.len_tl, e, joinL_len _ (fun z => h (List.map_eq_nil_iff.mp z)), List.map_map, List.length_map]
  unfold wz
  congr 2
theorem splitW_wz (x : Str) : wz (splitW x) = x.length + 1 := by
  have e : joinW (splitW x) = x := by
    show Txt.join " " (Txt.split x " ") = x
    rw [TL.join_eq]
    exact PySem.StrLaws.join_split x " "
  rw [← joinW_wz (splitW_ne x), e]
/-- what comes of a text -/
def spRead (pd C : Addr) : Sp := fun vs H Q E => ∃ x : Str, vs = [.str x] ∧ x.length ≤ 900 ∧ (∃ o, H pd = some o) ∧
  (isDeedL (build (splitW x)) = true → ∀ p H', Same H H' → Vr pd H' (.ref p) (.tuple (build (splitW x))) → Q (.ref p) H') ∧
  (isDeedL (build (splitW x)) = false → ∀ d H', Same H H' → H d = none → H' d = some (.xd [("rule", .str "form")]) → E (.ref C) (some d) H')
end
end K10
namespace K10
open PySem PySem.Spec PyProof.Rows L2
section
variable {P : Program} {w : World} {K : PySem.W.Frag} {mg : Str → Option Value} {base : Heap} {aR aL pd C : Addr}
/-- words cut, the deed to be made -/
structure RdS (pd : Addr) (Eo : Addr → Hp → Prop) (Dn : Ends) (σ : L2.St) (H : Hp) (x : Str) (pw pg : Addr) : Prop where
  st : σ = [some (.str x), some (.ref pw), some (.ref pg), none]
  hw : H pw = some (.lst ((cut (splitW x)).1.map V.str))
  hg : H pg = some (.tup ((cut (splitW x)).2.map V.str))
  hp : ∃ o, H pd = some o
  ng : pg ≠ pd
  hx : x.length ≤ 900
  yes : isDeedL (build (splitW x)) = true → ∀ p H', Same H H' → Vr pd H' (.ref p) (.tuple (build (splitW x))) → Dn.rt (.ref p) H'
  nope : isDeedL (build (splitW x)) = false → ∀ d H', Same H H' → H d = none → H' d = some (.xd [("rule", .str "form")]) → Eo d H'
def tRd (pd : Addr) (Eo : Addr → Hp → Prop) : TS := fun Dn σ H => ∃ x pw pg, RdS pd Eo Dn σ H x pw pg
/-- the deed made -/
structure RdT (pd : Addr) (Eo : Addr → Hp → Prop) (Dn : Ends) (σ : L2.St) (H : Hp) (x : Str) (x1 x2 : V) (p : Addr) : Prop where
  st : σ = [some (.str x), some x1, some x2, some (.ref p)]
  hv : Vr pd H (.ref p) (.tuple (build (splitW x)))
  hl : LiL (build (splitW x))
  yes : isDeedL (build (splitW x)) = true → ∀ p H', Same H H' → Vr pd H' (.ref p) (.tuple (build (splitW x))) → Dn.rt (.ref p) H'
  nope : isDeedL (build (splitW x)) = false → ∀ d H', Same H H' → H d = none → H' d = some (.xd [("rule", .str "form")]) → Eo d H'
def tRt (pd : Addr) (Eo : Addr → Hp → Prop) : TS := fun Dn σ H => ∃ x x1 x2 p, RdT pd Eo Dn σ H x x1 x2 p
theorem cut_wz (ws : List Str) : wz (cut ws).1 + wz (cut ws).2 = wz ws := by
  rcases cut_cases ws with ⟨e1, e2⟩ | ⟨r, g, _, e, e1, e2⟩
  · rw [e1, e2]
    show wz ws + 0 = _
    omega
  · rw [e1, e2, e, wz_app]
theorem cut_ne {ws : List Str} (h : ws ≠ []) : ∃ c r, (cut ws).1 = c :: r := by
  rcases cut_cases ws with ⟨_, e2⟩ | ⟨r, g, hr, _, e1, _⟩
  · rw [e2]
    cases ws with
    | nil => exact absurd rfl h
    | cons c r => exact ⟨c, r, rfl⟩
  · rw [e1]
    cases r with
    | nil => exact absurd rfl hr
    | cons c r => exact ⟨c, r, rfl⟩
theorem liS_str {s : Str} (h : s.length ≤ 1000) : LiS (.str s) := fun z e => by
  injection e with e
  rw [← e]
  exact h
theorem li_str {s : Str} (h : s.length ≤ 1000) : Li (.str s) := ⟨liS_str h, fun ps e => by cases e⟩
theorem liW_strs {ws : List Str} (h : wz ws ≤ 1000) : LiW (ws.map .str) := by
  refine ⟨by rw [List.length_map]; exact Nat.le_trans (wz_len ws) h, fun d hd => ?_⟩
  obtain ⟨s, hs, rfl⟩ := List.mem_map.mp hd
  have := wz_mem hs
  exact li_str (by omega)
theorem liL_build {ws : List Str} (h : wz ws ≤ 990) (hne : ws ≠ []) : LiL (build ws) := by
  have hz := cut_wz ws
  obtain ⟨c, r, ec⟩ := cut_ne hne
  have tl : (cut ws).2 = [] ∨ ∃ g, (cut ws).2 = [("as" : Str), g] := by
    rcases cut_cases ws with ⟨e1, _⟩ | ⟨_, g, _, _, _, e2⟩
    · exact .inl e1
    · exact .inr ⟨g, e2⟩
  unfold build
  generalize (cut ws).2 = t at hz tl
  rw [ec] at hz ⊢
  show LiL (if c = "call" then _ else _)
  rw [wz_cons] at hz
  by_cases hc : c = "call"
  · rw [if_pos hc]
    have l1 := wz_len r
    have l2 := wz_len t
    have hr : ∀ w ∈ r, w.length ≤ 1000 := fun w hw => by
      have := wz_mem hw
      omega
    refine ⟨⟨?_, fun d hd => ?_⟩, fun r' x y e hl => ?_⟩
    · simp only [List.length_cons, List.length_append, List.length_map, List.length_take]
      omega
    · rcases List.mem_cons.mp hd with rfl | hd
      · exact li_str (by omega)
      rcases List.mem_append.mp hd with hd | hd
      · obtain ⟨s, hs, rfl⟩ := List.mem_map.mp hd
        exact li_str (hr s (List.mem_of_mem_take hs))
      rcases List.mem_cons.mp hd with rfl | hd
      · refine ⟨fun s e => (by cases e), fun ps e => ?_⟩
        injection e with e
        rw [← e]
        refine ⟨by rw [List.length_map, List.length_drop]; omega, fun p hp => ?_⟩
        obtain ⟨s, hs, rfl⟩ := List.mem_map.mp hp
        exact liS_str (hr s (List.mem_of_mem_drop hs))
      · obtain ⟨s, hs, rfl⟩ := List.mem_map.mp hd
        have := wz_mem hs
        exact li_str (by omega)
    · rcases tl with rfl | ⟨g, rfl⟩
      · have := congrArg List.length e
        simp only [List.length_cons, List.length_append, List.length_map, List.length_take, List.length_nil] at this
        omega
      · have e2 : (PyData.str c :: ((r.take 1).map PyData.str ++ (PyData.tuple ((r.drop 1).map PyData.str) :: ([("as" : Str), g]).map PyData.str))) = (PyData.str c :: ((r.take 1).map PyData.str ++ [PyData.tuple ((r.drop 1).map PyData.str)])) ++ [.str "as", .str g] := by simp
        rw [e2] at e
        have e3 := List.append_inj_right' e (by rfl)
        injection e3 with e3 _
        exact .inl ⟨_, e3.symm⟩
  · rw [if_neg hc]
    refine ⟨liW_strs (by rw [wz_cons, wz_app]; omega), fun r' x y e _ => ?_⟩
    have hx : x ∈ (c :: (r ++ t)).map PyData.str := by rw [e]; simp
    obtain ⟨s, _, rfl⟩ := List.mem_map.mp hx
    exact .inl ⟨s, rfl⟩
end
end K10
namespace K10
open PySem PySem.Spec PyProof.Rows L2
section
variable {P : Program} {w : World} {K : PySem.W.Frag} {mg : Str → Option Value} {base : Heap} {aR aL pd C : Addr}
theorem ok_read {f fD : Addr} {fd fdD : FuncData} (F : FnP K "read_deed" sRead f fd) (FD : FnP K "is_deed" sDeed fD fdD) (gD : mg "is_deed" = some (.ref fD)) (GD : FnOk P w K mg base CX0 3 fD fdD ["value"] (spDeed pd))
    (B : ErC P w K mg base "BadPart" C ["rule"]) (ml : mg "len" = none) (mt : mg "tuple" = none) : FnOk P w K mg base (L2.CX P w) 4 f fd ["text"] (spRead pd C) := by
  have bD : Binds K fdD ["value"] [] := FD.bindsN fun _ _ _ _ _ _ us hl => match us, hl with | [_], _ => rfl
  obtain ⟨fB, fdB, psB, iC, tI, FB, bB⟩ := B.ok
  refine F.ok scRead (fun vs H Q E h => ?_) (fun cdv A outer s H vs Q E hr h => ?_)
  · obtain ⟨x, rfl, _⟩ := h
    rfl
  · obtain ⟨x, rfl, hx, hpd, yes, nope⟩ := h
    have hr2 := hr.mono (show 2 ≤ 3 by decide)
    refine ⟨_, pss_cons (ps_set (i := 1) scRead.nd rfl (.inl rfl) (pe_split (pv 0) pe_str))
      (pss_cons (ps_set (i := 2) scRead.nd rfl (.inl rfl) (pe_tup pa_nil))
      (pss_cons (ps_if (PW.pt (pw_and (pt_cmpR op_gt (pe_callB call_len_seq (by rfl) ml PySem.boot_len (pa_cons (pv 1) pa_nil)) pe_int (nomark _))
          (pw_and1 (pt_cmpR op_eq (pe_ix ix_list (pv 1) (pe_un un_neg pe_int) (fun _ _ => rfl)) pe_str (nomark _)))))
        (pss_cons (ps_set (i := 2) scRead.nd rfl (.inl rfl) (pe_tupleOf (by rfl) mt (pe_slice sl_list (pv 1) (po_some (pe_un un_neg pe_int)) po_none)))
          (pss_one (ps_set (i := 1) scRead.nd rfl (.inl rfl) (pe_slice sl_list (pv 1) po_none (po_some (pe_un un_neg pe_int)))))) pss_nil)
      (imp (t' := tRd pd fun d H' => E (.ref C) (some d) H') (pss_cons (ps_set (i := 3) scRead.nd rfl (.inl rfl) (pe_op op_catH (pe_tupleOf (by rfl) mt (pv 1)) (pv 2)))
      (pss_cons (ps_if (pt_cmpR op_eq (pe_ix ix_list (pv 1) pe_int (fun _ _ => rfl)) pe_str (nomark _))
        (pss_one (ps_set (i := 3) scRead.nd rfl (.inl rfl) (pe_op op_catH (pe_op op_catH (pe_tupleOf (by rfl) mt (pe_slice sl_list (pv 1) po_none (po_some pe_int)))
          (pe_tup (pa_cons (pe_tupleOf (by rfl) mt (pe_slice sl_list (pv 1) (po_some pe_int) po_none)) pa_nil))) (pv 2)))) pss_nil)
      (imp (t' := tRt pd fun d H' => E (.ref C) (some d) H') (pss_cons (ps_if (pt_not (pt_val (pe_call GD hr (by rfl) gD FD.kp bD .nil pass0 (pa_cons (pv 3) pa_nil))))
        (pss_one (ps_raise rfl (takes_of rfl rfl rfl rfl) (pmk_oex B.ox iC tI FB hr2 bB .nil pass0 (by rfl) B.g (pa_cons pe_str pa_nil)))) pss_nil)
      (pss_one (ps_ret (pv 3)))) (fun Dn σ H1 hm => ?_)))) (fun Dn σ H1 hm => ?_)))), ?_⟩
    · -- the answer
      obtain ⟨x0, x1, x2, p, st, hv, hl, yes, nope⟩ := hm
      subst st
      refine ⟨.ref p, rfl, .ref p, .tuple (build (splitW x0)), rfl, hv, fun ds e => by injection e with e; rw [← e]; exact hl, fun H2 s2 => ⟨_, rfl, ?_⟩⟩
      show if (!isDeedL (build (splitW x0))) = true then _ else _
      cases hb : isDeedL (build (splitW x0)) with
      | true => exact iteF ⟨_, rfl, yes hb p H2 s2 (hv.same s2)⟩
      | false =>
        refine iteT ⟨by show 1 ≤ 1000; decide, fun a na => ⟨a, [.str "form"], rfl, rfl, upd_same, fun v hv => ?_, fun H3 k3 ex => ⟨rfl, ?_⟩⟩⟩
        · rw [List.mem_singleton.mp hv]
          exact .inl (.inl ⟨_, rfl, by decide +kernel, by decide +kernel⟩)
        · rcases ex with ⟨e, _⟩ | ⟨d, nd, e1, e2⟩
          · cases e
          · have nda : d ≠ a := fun z => by
              rw [z, upd_same] at nd
              cases nd
            have nd2 : H2 d = none := by
              rw [upd_ne nda] at nd
              exact nd
            refine ⟨d, [("rule", .str "form")], e1, e2, nd2, nope hb d _ (fun b o hb2 => ?_) (s2.free nd2) upd_same⟩
            have b1 : b ≠ a := ne_of_none (s2 _ _ hb2) na
            have b2 : b ≠ d := ne_of_none (s2 _ _ hb2) nd2
            rw [upd_ne b2, del_ne b1]
            exact k3 b o (by rw [upd_ne b1]; exact s2 _ _ hb2) b1
    · -- the deed
      obtain ⟨x0, pw, pg, st, hw, hg, hp, ng, hx, yes, nope⟩ := hm
      subst st
      have hne := splitW_ne x0
      have hz := splitW_wz x0
      have cz := cut_wz (splitW x0)
      obtain ⟨c, r, ec⟩ := cut_ne hne
      have hl := liL_build (ws := splitW x0) (by omega) hne
      have eb : build (splitW x0) = if c = "call" then .str c :: ((r.take 1).map PyData.str ++ (.tuple ((r.drop 1).map .str) :: (cut (splitW x0)).2.map .str)) else (c :: (r ++ (cut (splitW x0)).2)).map .str := by
        unfold build
        rw [ec]
      have l1 := wz_len (cut (splitW x0)).1
      have l2 := wz_len (cut (splitW x0)).2
      have cv := VrA.strs (pd := pd) (H := H1) (cut (splitW x0)).2
      refine ⟨.ref pw, rfl, .inl ⟨pw, _, rfl, SqL.of hw, fun t nt => ⟨.ref pg, rfl, t, pg, _, _, rfl, rfl, upd_same, by rw [upd_ne (ne_of_none hg nt)]; exact hg, by rw [List.length_map, List.length_map, sizeLine_eq]; omega, fun p H2 s2 hp2 ho2 => ?_⟩⟩⟩
      have st1 : Same H1 (upd H1 t (.tup ((cut (splitW x0)).1.map V.str))) := same_upd nt
      have s12 := st1.trans s2
      have hpt : ∃ o, upd H1 t (.tup ((cut (splitW x0)).1.map V.str)) pd = some o := let ⟨o, h⟩ := hp; ⟨o, st1 _ _ h⟩
      have np : p ≠ pd := by
        rcases ho2 with rfl | rfl | n
        · exact not_pd hp nt
        · exact ng
        · exact not_pd hpt n
      refine ⟨.ref pw, rfl, pw, _, 0, .str c, rfl, rfl, SqL.of (s12 _ _ hw), by rw [ec]; exact at0 _ _, rfl, _, rfl, ?_⟩
      refine ite2 (fun h1 => ?_) (fun h1 => ?_)
      · have h1 : c = "call" := by injection of_decide_eq_true h1
        rw [if_pos h1] at eb
        have t2 : cutV ((cut (splitW x0)).1.map V.str) none (some 2) = V.str c :: (r.take 1).map V.str := by
          refine (cut_to ((cut (splitW x0)).1.map V.str) 2).trans ?_
          rw [ec, List.map_cons, List.take_succ_cons, List.map_take]
        have d2 : cutV ((cut (splitW x0)).1.map V.str) (some 2) none = (r.drop 1).map V.str := by
          refine (cut_from ((cut (splitW x0)).1.map V.str) 2).trans ?_
          rw [ec, List.map_cons, List.drop_succ_cons, List.map_drop]
        have hw2 := s12 _ _ hw
        have hg2 := s12 _ _ hg
        have hp2' : ∃ o, H2 pd = some o := let ⟨o, h⟩ := hp; ⟨o, s12 _ _ h⟩
        have lr : r.length ≤ 1000 := by
          have e9 := congrArg List.length ec
          rw [List.length_cons] at e9
          omega
        refine ⟨.ref pw, rfl, 2, rfl, pw, _, rfl, SqL.of hw2, fun q1 n1 => .inl ⟨q1, _, rfl, SqL.of upd_same, fun q2 n2 => ?_⟩⟩
        rw [t2] at n2 ⊢
        have k1 : Same H2 (upd H2 q1 (.lst (V.str c :: (r.take 1).map V.str))) := same_upd n1
        generalize upd H2 q1 (.lst (V.str c :: (r.take 1).map V.str)) = G1 at n2 k1
        have k2 : Same G1 (upd G1 q2 (.tup (V.str c :: (r.take 1).map V.str))) := same_upd n2
        have e2 : upd G1 q2 (.tup (V.str c :: (r.take 1).map V.str)) q2 = some (.tup (V.str c :: (r.take 1).map V.str)) := upd_same
        generalize upd G1 q2 (.tup (V.str c :: (r.take 1).map V.str)) = G2 at k2 e2
        have k02 := k1.trans k2
        refine ⟨.ref pw, rfl, 2, rfl, pw, _, rfl, SqL.of (k02 _ _ hw2), fun q3 n3 => .inl ⟨q3, _, rfl, SqL.of upd_same, fun q4 n4 => ⟨by show 1 ≤ sizeLine; decide, fun q5 n5 => ?_⟩⟩⟩
        rw [d2] at n4 n5 ⊢
        have k3 : Same G2 (upd G2 q3 (.lst ((r.drop 1).map V.str))) := same_upd n3
        generalize upd G2 q3 (.lst ((r.drop 1).map V.str)) = G3 at n4 n5 k3
        have k4 : Same G3 (upd G3 q4 (.tup ((r.drop 1).map V.str))) := same_upd n4
        have e4 : upd G3 q4 (.tup ((r.drop 1).map V.str)) q4 = some (.tup ((r.drop 1).map V.str)) := upd_same
        generalize upd G3 q4 (.tup ((r.drop 1).map V.str)) = G4 at n5 k4 e4
        have k5 : Same G4 (upd G4 q5 (.tup [V.ref q4])) := same_upd n5
        have e5 : upd G4 q5 (.tup [V.ref q4]) q5 = some (.tup [V.ref q4]) := upd_same
        generalize upd G4 q5 (.tup [V.ref q4]) = G5 at k5 e5
        have k25 := (k3.trans k4).trans k5
        have k05 := k02.trans k25
        have on : ∀ {G : Hp}, Same H2 G → ∃ o, G pd = some o := fun k => let ⟨o, h⟩ := hp2'; ⟨o, k _ _ h⟩
        have m2 : q2 ≠ pd := not_pd (on k1) n2
        have m4 : q4 ≠ pd := not_pd (on (k02.trans k3)) n4
        have m5 : q5 ≠ pd := not_pd (on ((k02.trans k3).trans k4)) n5
        refine ⟨q2, q5, _, _, rfl, rfl, k25 _ _ e2, e5, by rw [List.length_cons, List.length_map, List.length_take, sizeLine_eq]; show _ + 1 ≤ _; omega, fun p6 H6 s6 hp6 ho6 => ?_⟩
        have m6 : p6 ≠ pd := by
          rcases ho6 with rfl | rfl | n
          · exact m2
          · exact m5
          · exact not_pd (on k05) n
        have k06 := k05.trans s6
        refine ⟨.ref pg, rfl, p6, pg, _, _, rfl, rfl, hp6, k06 _ _ hg2, by rw [List.length_append, List.length_cons, List.length_map, List.length_take, List.length_map, sizeLine_eq]; show _ + 1 + _ ≤ _; omega, fun p7 H7 s7 hp7 ho7 => ?_⟩
        have m7 : p7 ≠ pd := by
          rcases ho7 with rfl | rfl | n
          · exact m6
          · exact ng
          · exact not_pd (on k06) n
        have k07 := (s12.trans k06).trans s7
        refine ⟨x0, _, _, p7, rfl, ?_, hl, fun hb p3 H3 s3 => yes hb p3 H3 (k07.trans s3), fun hb d H3 s3 nd => nope hb d H3 (k07.trans s3) (k07.free nd)⟩
        rw [eb]
        refine .tu hp7 m7 ?_
        have a1 : VrA pd H7 (V.str c :: (r.take 1).map V.str) (.str c :: (r.take 1).map PyData.str) := .cons (.txt _) (VrA.strs _)
        have a2 : VrA pd H7 [V.ref q4] [PyData.tuple ((r.drop 1).map .str)] := .cons (.tu ((k5.trans (s6.trans s7)) _ _ e4) m4 (VrA.strs _)) .nil
        have z := VrA.app (VrA.app a1 a2) (VrA.strs (pd := pd) (H := H7) (cut (splitW x0)).2)
        have e9 : (PyData.str c :: (r.take 1).map PyData.str ++ [PyData.tuple ((r.drop 1).map .str)]) ++ (cut (splitW x0)).2.map .str = .str c :: ((r.take 1).map PyData.str ++ (.tuple ((r.drop 1).map .str) :: (cut (splitW x0)).2.map .str)) := by simp
        rw [e9] at z
        exact z
      · have h1 : c ≠ "call" := fun e => h1 (decide_eq_true (by rw [e]))
        rw [if_neg h1] at eb
        refine ⟨x0, _, _, p, rfl, ?_, hl, fun hb p3 H3 s3 => yes hb p3 H3 (s12.trans s3), fun hb d H3 s3 nd => nope hb d H3 (s12.trans s3) (s12.free nd)⟩
        rw [eb]
        have := VrA.strs (pd := pd) (H := H2) (c :: (r ++ (cut (splitW x0)).2))
        refine .tu (xs := (c :: (r ++ (cut (splitW x0)).2)).map V.str) ?_ np this
        rw [hp2, ec, ← List.map_append]
        rfl
    · -- the words
      have hne := splitW_ne x
      have hz := splitW_wz x
      have l1 := wz_len (splitW x)
      refine ⟨.str x, rfl, ⟨x, rfl⟩, x, " ", rfl, rfl, rfl, by rw [sizeLine_eq]; omega, fun pw nw => ⟨by show 0 ≤ sizeLine; omega, fun pg ng => ?_⟩⟩
      change upd H pw (.lst ((splitW x).map V.str)) pg = none at ng
      show tSeq _ _ _ _ (upd (upd H pw (.lst ((splitW x).map V.str))) pg (.tup []))
      have k1 : Same H (upd H pw (.lst ((splitW x).map V.str))) := same_upd nw
      have e1 : upd H pw (.lst ((splitW x).map V.str)) pw = some (.lst ((splitW x).map V.str)) := upd_same
      generalize upd H pw (.lst ((splitW x).map V.str)) = G1 at ng k1 e1
      have k2 : Same G1 (upd G1 pg (.tup [])) := same_upd ng
      have e2 : upd G1 pg (.tup []) pg = some (.tup []) := upd_same
      have on : ∀ {G : Hp}, Same H G → ∃ o, G pd = some o := fun k => let ⟨o, h⟩ := hpd; ⟨o, k _ _ h⟩
      have mg2 : pg ≠ pd := not_pd (on k1) ng
      generalize upd G1 pg (.tup []) = G2 at k2 e2
      have k02 := k1.trans k2
      have e1' := k2 _ _ e1
      have done : cut (splitW x) = (splitW x, []) → RdS pd (fun d H' => E (.ref C) (some d) H') { nx := fun _ H' => Q .non H', rt := Q } [some (.str x), some (.ref pw), some (.ref pg), none] G2 x pw pg := fun e =>
        ⟨rfl, by rw [e]; exact e1', by rw [e]; exact e2, on k02, mg2, hx, fun hb p H' s => yes hb p H' (k02.trans s), fun hb d H' s nd => nope hb d H' (k02.trans s) (k02.free nd)⟩
      refine ⟨.ref pw, rfl, pw, _, rfl, .inl (SqL.of e1'), _, _, rfl, rfl, _, rfl, ite2 (fun h3 => ?_) (fun h3 => ?_)⟩
      · have h3 : 2 < (splitW x).length := by
          have := of_decide_eq_true h3
          rw [List.length_map] at this
          omega
        obtain ⟨r, a, b, er⟩ := two_last (ds := splitW x) (by omega)
        have hr : r ≠ [] := fun z => by
          rw [er, z] at h3
          simp at h3
        have em : (splitW x).map V.str = r.map V.str ++ [V.str a, V.str b] := by rw [er, List.map_append]; rfl
        have i2 : atI ((splitW x).map V.str) (-2) = some (V.str a) := by
          rw [em]
          exact at_back (r.map V.str) [V.str a, V.str b] 2 (by decide) (by show 2 ≤ 2; decide)
        refine ⟨.ref pw, rfl, 2, rfl, pw, _, _, _, rfl, rfl, SqL.of e1', i2, rfl, _, rfl, ite2 (fun h4 => ?_) (fun h4 => ?_)⟩
        · have h4 : a = "as" := by injection of_decide_eq_true h4
          have ec : cut (splitW x) = (r, [a, b]) := by
            rw [er, h4]
            exact cut_as hr b
          have c1 : cutV ((splitW x).map V.str) (some (-2)) none = [V.str a, V.str b] := by
            rw [em]
            exact cut_lastn (r.map V.str) [V.str a, V.str b] 2 rfl (by decide)
          have c2 : cutV ((splitW x).map V.str) none (some (-2)) = r.map V.str := by
            rw [em]
            exact cut_butn (r.map V.str) [V.str a, V.str b] 2 rfl (by decide)
          refine ⟨.ref pw, rfl, 2, rfl, -2, rfl, pw, _, rfl, SqL.of e1', fun q1 n1 => .inl ⟨q1, _, rfl, SqL.of upd_same, fun q2 n2 => ?_⟩⟩
          rw [c1] at n2 ⊢
          have k3 : Same G2 (upd G2 q1 (.lst [V.str a, V.str b])) := same_upd n1
          generalize upd G2 q1 (.lst [V.str a, V.str b]) = G3 at n2 k3
          have k4 : Same G3 (upd G3 q2 (.tup [V.str a, V.str b])) := same_upd n2
          have e4 : upd G3 q2 (.tup [V.str a, V.str b]) q2 = some (.tup [V.str a, V.str b]) := upd_same
          have m2 : q2 ≠ pd := not_pd (on (k02.trans k3)) n2
          generalize upd G3 q2 (.tup [V.str a, V.str b]) = G4 at k4 e4
          have k24 := k3.trans k4
          refine ⟨.ref pw, rfl, 2, rfl, -2, rfl, pw, _, rfl, SqL.of (k24 _ _ e1'), fun q3 n3 => ?_⟩
          rw [c2]
          have k5 : Same G4 (upd G4 q3 (.lst (r.map V.str))) := same_upd n3
          have k05 := (k02.trans k24).trans k5
          exact ⟨x, q3, q2, rfl, by rw [ec]; exact upd_same, by rw [ec]; exact k5 _ _ e4, on k05, m2, hx, fun hb p H' s => yes hb p H' (k05.trans s), fun hb d H' s nd => nope hb d H' (k05.trans s) (k05.free nd)⟩
        · have h4 : a ≠ "as" := fun e => h4 (decide_eq_true (by rw [e]))
          refine ⟨x, pw, pg, done ?_⟩
          unfold cut
          rw [er, end2_app]
          exact if_neg fun z => h4 z.2
      · have h3 : (splitW x).length ≤ 2 := by
          by_cases z : (splitW x).length ≤ 2
          · exact z
          · exact absurd (decide_eq_true (by rw [List.length_map]; omega)) h3
        refine iteF ⟨x, pw, pg, done ?_⟩
        rcases cut_cases (splitW x) with ⟨e1, e2⟩ | ⟨r, g, hr, e, _, _⟩
        · exact Prod.ext e2 e1
        · have := congrArg List.length e
          have h0 := List.length_pos_iff.mpr hr
          rw [List.length_append] at this
          simp at this
          omega
end
end K10
namespace K10
open PySem PySem.Spec PyProof.Rows L2
abbrev sLIs : Stmt := top 26
abbrev sLTx : Stmt := top 28
theorem scLIs : FnScope ["_law_word", "_law_words", "_law_sign"] ["_law_word"] (defScope sLIs) := ⟨rfl, rfl, rfl, by decide +kernel, rfl, by decide +kernel, by decide +kernel⟩
theorem scLTx : FnScope ["_law_deed", "_law_words", "_law_part"] ["_law_deed"] (defScope sLTx) := ⟨rfl, rfl, rfl, by decide +kernel, rfl, by decide +kernel, by decide +kernel⟩
def cV : Expr → Option V
  | .Constant (.str x) _ _ => some (.str x)
  | .Constant (.int i) _ _ => some (.int i)
  | .Constant (.bool b) _ _ => some (.bl b)
  | .Constant .none _ _ => some .non
  | _ => none
def tCs (vs : List V) : TA := fun _ H Q => Q vs H
theorem pa_cs {X : Cx} : ∀ {es : List Expr} {vs : List V}, es.map cV = vs.map some → PA X es (tCs vs)
  | [], [], _ => pa_nil
  | [], _ :: _, h => by cases h
  | _ :: _, [], h => by cases h
  | e :: es, v :: vs, h => by
    have h1 : cV e = some v := (List.cons.inj h).1
    have r := pa_cs (X := X) (es := es) (vs := vs) (List.cons.inj h).2
    have key : PE X e (tC v) ∧ starEach (e :: es) X.env = (false, eval e X.env) :: starEach es X.env := by
      unfold cV at h1
      split at h1
      · cases h1
        exact ⟨pe_str, rfl⟩
      · cases h1
        exact ⟨pe_int, rfl⟩
      · cases h1
        exact ⟨pe_bl, rfl⟩
      · cases h1
        exact ⟨pe_non, rfl⟩
      · cases h1
    exact pa_cons key.1 r key.2
def both : Str := "abcdefghijklmnopqrstuvwxyz0123456789"
theorem both_okc (c : Nat) : decide (c ∈ both.cps.toList) = okc c := by
  have e : both.cps.toList = lets.cps.toList ++ digs.cps.toList := by decide +kernel
  rw [e]
  unfold okc
  rw [Bool.eq_iff_iff]
  simp only [Bool.or_eq_true, decide_eq_true_eq, List.mem_append]
theorem isName_bad {s : Str} {i c : Nat} (h : s.cps[i]? = some c) (hc : okc c = false) : isName s = false := by
  have e : s.cps.toList.all okc = false := by
    rw [List.all_eq_false]
    refine ⟨c, ?_, by rw [hc]; exact Bool.false_ne_true⟩
    have h2 : s.cps.toList[i]? = some c := by rw [Array.getElem?_toList]; exact h
    exact List.mem_of_getElem? h2
  unfold isName
  rw [e, Bool.and_false, Bool.and_false]
section
variable {P : Program} {w : World} {K : PySem.W.Frag} {mg : Str → Option Value} {base : Heap} {aR pd : Addr}
def spLIs : Sp := fun vs H Q _ => ∃ s : Str, vs = [.str s] ∧ s.length ≤ 1000 ∧ ∀ H', Same H H' → Q (.bl (isName s)) H'
theorem res24 (s : Str) : inV (.str s) (RES.map V.str) = (inV (.str s) ((RES.take 24).map V.str) || decide (V.str s = V.str "as")) := by
  have e : RES.map V.str = (RES.take 24).map V.str ++ [V.str "as"] := rfl
  rw [e]
  unfold inV
  rw [List.any_append]
  congr 1
  show ((("as" : Str) == s) || false) = _
  rw [Bool.or_false]
  by_cases h : s = "as"
  · rw [h, decide_eq_true rfl]
    exact beq_self_eq_true _
  · rw [decide_eq_false (fun e => h (by injection e)), beq_eq_false_iff_ne.mpr (Ne.symm h)]
theorem ok_lis {f : Addr} {fd : FuncData} (F : FnP K "_law_is_name" sLIs f fd) (N : Nm K mg aR) : FnOk P w K mg base CX0 1 f fd ["_law_word"] spLIs := by
  refine F.ok scLIs (fun vs H Q E h => ?_) (fun cdv A outer s H vs Q E hr h => ?_)
  · obtain ⟨s, rfl, _⟩ := h
    rfl
  · obtain ⟨s, rfl, hs, q⟩ := h
    refine ⟨_, PSs.nox (pss_cons (ps_set (i := 1) scLIs.nd rfl (.inl rfl) (pe_lst (pa_cs (vs := (RES.take 12).map V.str) (by rfl))))
      (pss_cons (ps_set (i := 1) scLIs.nd rfl (.inl rfl) (pe_op op_cat (pv 1) (pe_lst (pa_cs (vs := ((RES.drop 12).take 12).map V.str) (by rfl)))))
      (pss_cons (ps_if (PW.pt (pw_or (pt_not (pt_val (pe_callB call_isi (by rfl) N.isi (by decide +kernel) (pa_cons (pv 0) (pa_cons (pe_bltn (v := .ty "str") (by rfl) N.str (by decide +kernel) rfl) pa_nil)))))
        (pw_or (pt_cmpR op_lt (pe_callB call_len_str (by rfl) N.len PySem.boot_len (pa_cons (pv 0) pa_nil)) pe_int (nomark _))
        (pw_or (pt_cmpR op_gt (pe_callB call_len_str (by rfl) N.len PySem.boot_len (pa_cons (pv 0) pa_nil)) pe_int (nomark _))
        (pw_or (pt_cmpR op_in_seq (pv 0) (pv 1) rfl) (pw_or1 (pt_cmpR op_eq (pv 0) pe_str (nomark _)))))))) (pss_one (ps_ret pe_bl)) pss_nil)
      (pss_cons (ps_for PassesOwn.never rfl (pi_str (pv 0)) (pg_name (i := 2) scLIs.nd rfl (.inl rfl)) (pss_one (ps_if (pt_cmpR op_notIn_sign (pv 2) pe_str rfl) (pss_one (ps_ret pe_bl)) pss_nil)))
      (pss_one (ps_ret (pe_cmpR op_in_sign (pe_item_str (pv 0) pe_int (fun _ _ => rfl)) pe_str rfl))))))), ?_⟩
    refine ⟨by decide, fun p1 n1 => ?_⟩
    refine ⟨.ref p1, rfl, by decide, fun p2 n2 => ⟨p1, p2, _, _, rfl, rfl, by rw [upd_ne (ne_of_none upd_same n2)]; exact upd_same, upd_same, by decide, fun p3 n3 => ?_⟩⟩
    have s3 := ((same_upd (o := .lst ((RES.take 12).map V.str)) n1).trans (same_upd (o := .lst (((RES.drop 12).take 12).map V.str)) n2)).trans (same_upd (o := .lst ((RES.take 12).map V.str ++ ((RES.drop 12).take 12).map V.str)) n3)
    have e3 : upd (upd (upd H p1 (.lst ((RES.take 12).map V.str))) p2 (.lst (((RES.drop 12).take 12).map V.str))) p3 (.lst ((RES.take 12).map V.str ++ ((RES.drop 12).take 12).map V.str)) p3 = some (.lst ((RES.take 24).map V.str)) := upd_same
    generalize upd (upd (upd H p1 (.lst ((RES.take 12).map V.str))) p2 (.lst (((RES.drop 12).take 12).map V.str))) p3 (.lst ((RES.take 12).map V.str ++ ((RES.drop 12).take 12).map V.str)) = G at s3 e3
    have q := fun b (e : isName s = b) => (by have z := q G s3; rw [e] at z; exact z : Q (.bl b) G)
    have hz : s.length ≤ sizeLine := by rw [sizeLine_eq]; omega
    obtain ⟨t, ty, kt⟩ := ask_isi (K := K) (Ask.str (H := G) s hs)
    refine ⟨.str s, rfl, .str s, .ty "str", t, .type "str", true, rfl, .ty _, ty, kt, true, rfl, iteF ?_⟩
    refine ⟨.str s, rfl, s, rfl, hz, _, _, rfl, rfl, _, rfl, ite2 (fun h1 => ?_) (fun h1 => ?_)⟩
    · exact iteT (q false (isName_short (fun h => by have := of_decide_eq_true h1; omega)))
    · have h1 : 1 ≤ s.length := by
        by_cases h : 1 ≤ s.length
        · exact h
        · exact absurd (decide_eq_true (by omega)) h1
      refine ⟨.str s, rfl, s, rfl, hz, _, _, rfl, rfl, _, rfl, ite2 (fun h2 => ?_) (fun h2 => ?_)⟩
      · exact iteT (q false (isName_long (fun h => by have := of_decide_eq_true h2; omega)))
      · have h2 : s.length ≤ 8 := by
          by_cases h : s.length ≤ 8
          · exact h
          · exact absurd (decide_eq_true (by omega)) h2
        have r24 := res24 s
        refine ⟨.str s, rfl, .ref p3, rfl, p3, _, rfl, .inl (SqL.of e3), rfl, by decide +kernel, _, rfl, ?_⟩
        show if inV (.str s) ((RES.take 24).map V.str) = true then _ else _
        cases h3 : inV (.str s) ((RES.take 24).map V.str) with
        | true => exact iteT (iteT (q false (isName_res (by rw [r24, h3]; rfl))))
        | false =>
          refine iteF ⟨.str s, rfl, rfl, _, rfl, ?_⟩
          show if decide (V.str s = V.str "as") = true then _ else _
          cases h4 : decide (V.str s = V.str "as") with
          | true => exact iteT (q false (isName_res (by rw [r24, h3, h4]; rfl)))
          | false =>
            have hr : inV (.str s) (RES.map V.str) = false := by rw [r24, h3, h4]; rfl
            obtain ⟨c, hc⟩ := first_cp h1
            refine iteF ⟨.str s, rfl, s, rfl, for_it walk_str (fun i σ H3 => ∃ y, σ = [some (.str s), some (.ref p3), y] ∧ H3 = G ∧ ∀ j k, j < i → s.cps[j]? = some k → okc k = true) ⟨none, rfl, rfl, fun j k hj => absurd hj (Nat.not_lt_zero _)⟩ (fun _ _ _ _ _ => True.intro) ?_ ?_⟩
            · rintro i x σ H3 H4 hi ⟨y, rfl, rfl, al⟩ ⟨rfl, k, hk, rfl⟩
              refine ⟨.str ⟨#[k]⟩, rfl, k, both, rfl, rfl, _, rfl, ifN (fun h5 => ?_) (fun h5 => ?_)⟩
              · refine ⟨_, rfl, rfl, fun j k2 hj hk2 => ?_⟩
                by_cases e : j = i
                · rw [e, hk] at hk2
                  rw [← Option.some.inj hk2, ← both_okc]
                  exact decide_eq_true h5
                · exact al j k2 (by omega) hk2
              · exact q false (isName_bad hk (by rw [← both_okc]; exact decide_eq_false h5))
            · rintro σ H3 ⟨y, rfl, rfl, al⟩
              have eall : s.cps.toList.all okc = true := by
                rw [List.all_eq_true]
                intro k hk
                obtain ⟨j, hj⟩ := List.mem_iff_getElem?.mp hk
                rw [Array.getElem?_toList] at hj
                exact al j k (Array.getElem?_eq_some_iff.mp hj).1 hj
              refine ⟨.str s, rfl, s, 0, c, rfl, rfl, by decide, by decide, by omega, hc, c, lets, rfl, rfl, q _ ?_⟩
              by_cases h6 : c ∈ lets.cps.toList
              · rw [isName_all h1 h2 hc h6 hr, eall, decide_eq_true h6]
              · rw [isName_head hc h6, decide_eq_false h6]
end
end K10
namespace K10
open PySem PySem.Spec PyProof.Rows L2
abbrev sLRd : Stmt := top 27
theorem scLRd : FnScope ["_law_text_here", "_law_words", "_law_head", "_law_tail", "_law_rest", "_law_word", "_law_at"] ["_law_text_here"] (defScope sLRd) := ⟨rfl, rfl, rfl, by decide +kernel, rfl, by decide +kernel, by decide +kernel⟩
theorem okc_lt {c : Nat} (h : okc c = true) : c < 128 := by
  have key : ∀ d ∈ both.cps.toList, d < 128 := by decide +kernel
  refine key c ?_
  have := both_okc c
  rw [h] at this
  exact of_decide_eq_true this
theorem nm_ok {s : Str} (h : isName s = true) : PyData.strOk s = true := by
  have h2 : s.cps.toList.all okc = true := by
    unfold isName at h
    simp only [Bool.and_eq_true] at h
    exact h.2.2
  show s.cps.all (· < 0x110000) = true
  rw [← Array.all_toList]
  exact List.all_eq_true.mpr fun c hc => decide_eq_true (by have := okc_lt (List.all_eq_true.mp h2 c hc); omega)
theorem lay_strs {ws : List Str} (h : ∀ w ∈ ws, PyData.strOk w = true) : PyData.canLayAll0 (ws.map .str) = true := by
  induction ws with
  | nil => rfl
  | cons w ws ih =>
    rw [List.map_cons, PyData.canLayAll0, ih fun v hv => h v (List.mem_cons_of_mem _ hv)]
    show (PyData.strOk w && true) = true
    rw [h w List.mem_cons_self]
    rfl
theorem depth_strs : ∀ ws : List Str, PyData.depthAll (ws.map .str) ≤ 1
  | [] => by decide
  | w :: ws => by
    have := depth_strs ws
    simp only [List.map_cons, PyData.depthAll, PyData.depth]
    omega
theorem shaped_strs {ws : List Str} (h : ∀ w ∈ ws, PyData.strOk w = true) : SeqAt.shaped (.tuple (ws.map .str)) = true := by
  have d := depth_strs ws
  unfold SeqAt.shaped
  rw [Bool.and_eq_true]
  refine ⟨?_, decide_eq_true ?_⟩
  · rw [PyData.canLay0]
    exact lay_strs h
  · rw [PyData.depth]
    omega
structure LrS (pd : Addr) (Dn : Ends) (σ : L2.St) (H : Hp) (x h : Str) (r t : List Str) (pw pt pr : Addr) (y5 y6 : Option V) : Prop where
  st : σ = [some (.str x), some (.ref pw), some (.str h), some (.ref pt), some (.ref pr), y5, y6]
  ht : H pt = some (.tup (t.map V.str))
  hr : H pr = some (.tup (r.map V.str))
  hp : ∃ o, H pd = some o
  nt : pt ≠ pd
  nr : pr ≠ pd
  nm : (r ++ t.drop 1).all isName = true
  tl : Tl t
  lr : r.length ≤ 1000
  no : lawC h r t = none → ∀ H', Same H H' → Dn.rt .non H'
  yes : ∀ ds, lawC h r t = some ds → ∀ p H', Same H H' → Vr pd H' (.ref p) (.tuple ds) → Dn.rt (.ref p) H'
theorem LrS.up {pd : Addr} {Dn : Ends} {σ : L2.St} {H H2 : Hp} {x h : Str} {r t : List Str} {pw pt pr : Addr} {y5 y6 : Option V} (l : LrS pd Dn σ H x h r t pw pt pr y5 y6) (s : Same H H2) : LrS pd Dn σ H2 x h r t pw pt pr y5 y6 :=
  ⟨l.st, s _ _ l.ht, s _ _ l.hr, let ⟨o, h⟩ := l.hp; ⟨o, s _ _ h⟩, l.nt, l.nr, l.nm, l.tl, l.lr, fun e H' s2 => l.no e H' (s.trans s2), fun ds e p H' s2 => l.yes ds e p H' (s.trans s2)⟩
def tLr (pd : Addr) (neg : Str → List Str → List Str → Prop) : TS := fun Dn σ H => ∃ x h r t pw pt pr y5 y6, LrS pd Dn σ H x h r t pw pt pr y5 y6 ∧ neg h r t
/-! what is excluded, clause by clause -/
def ng0 : Str → List Str → List Str → Prop := fun _ _ _ => True
def ng1 : Str → List Str → List Str → Prop := fun h r t => ¬ (t ≠ [] ∧ ¬ (h = "take" ∨ h = "call"))
def ng2 : Str → List Str → List Str → Prop := fun h r t => ng1 h r t ∧ ¬ (h = "take" ∧ r.length = 1)
def ng3 : Str → List Str → List Str → Prop := fun h r t => ng2 h r t ∧ ¬ (h = "call" ∧ 0 < r.length)
def ng4 : Str → List Str → List Str → Prop := fun h r t => ng3 h r t ∧ ¬ (h = "fetch" ∧ 0 < r.length)
def ng5 : Str → List Str → List Str → Prop := fun h r t => ng4 h r t ∧ ¬ (h = "skip" ∧ r.length = 0)
def ng6 : Str → List Str → List Str → Prop := fun h r t => ng5 h r t ∧ ¬ ((h = "make" ∨ h = "put") ∧ r.length = 1)
def ng7 : Str → List Str → List Str → Prop := fun h r t => ng6 h r t ∧ ¬ ((h = "copy" ∨ h = "read" ∨ h = "keep" ∨ h = "write") ∧ r.length = 2)
theorem lawC_nm {h : Str} {r t : List Str} (nm : (r ++ t.drop 1).all isName = true) : lawC h r t = if t ≠ [] ∧ ¬ (h = "take" ∨ h = "call") then none else lawForm h r t := by
  unfold lawC
  rw [if_pos nm]
theorem lawC_1 {h : Str} {r t : List Str} (nm : (r ++ t.drop 1).all isName = true) (n : ng1 h r t) : lawC h r t = lawForm h r t := by
  rw [lawC_nm nm]
  exact if_neg n
theorem lawC_7 {h : Str} {r t : List Str} (nm : (r ++ t.drop 1).all isName = true) (n : ng7 h r t) : lawC h r t = none := by
  obtain ⟨⟨⟨⟨⟨⟨n1, n2⟩, n3⟩, n4⟩, n5⟩, n6⟩, n7⟩ := n
  rw [lawC_1 nm n1]
  unfold lawForm
  rw [if_neg n2, if_neg n3, if_neg n4, if_neg n5, if_neg n6, if_neg n7]
end K10
namespace K10
open PySem PySem.Spec PyProof.Rows L2
theorem inV_mem (h : Str) : ∀ ws : List Str, inV (.str h) (ws.map V.str) = decide (h ∈ ws)
  | [] => rfl
  | w :: ws => by
    have ih := inV_mem h ws
    show ((w == h) || inV (.str h) (ws.map V.str)) = _
    rw [ih, Bool.eq_iff_iff]
    simp only [Bool.or_eq_true, beq_iff_eq, decide_eq_true_eq, List.mem_cons]
    exact ⟨fun z => z.imp Eq.symm id, fun z => z.imp Eq.symm id⟩
theorem cut_mid (xs : List V) (i : Nat) (h1 : 1 ≤ xs.length) (h2 : i ≤ xs.length) : cutV xs (some 1) (some (i : Nat)) = (xs.drop 1).take (i - 1) := by
  unfold cutV
  have e1 : HT.sIx xs.length 0 (some (1 : Int)) = 1 := by
    have := HT.sIx_nat xs.length 0 1
    rw [show ((1 : Nat) : Int) = 1 from rfl] at this
    rw [this, Nat.min_eq_left h1]
  have e2 : HT.sIx xs.length xs.length (some ((i : Nat) : Int)) = i := by
    rw [HT.sIx_nat, Nat.min_eq_left h2]
  rw [e1, e2]
theorem hasRep_of {ws : List Str} {j : Nat} (h : flagAt ws j = true) (hj : j < ws.length) : hasRep ws = true := by
  unfold hasRep
  rw [List.any_map, List.any_eq_true]
  exact ⟨j, List.mem_range.mpr hj, h⟩
theorem hasRep_no {ws : List Str} (h : ∀ j, j < ws.length → flagAt ws j = false) : hasRep ws = false := by
  unfold hasRep
  rw [List.any_map, List.any_eq_false]
  intro j hj
  show ¬ (flagAt ws j = true)
  rw [h j (List.mem_range.mp hj)]
  exact Bool.false_ne_true
section
variable {P : Program} {w : World} {K : PySem.W.Frag} {mg : Str → Option Value} {base : Heap} {aR pd : Addr}
def spLRd (pd : Addr) : Sp := fun vs H Q _ => ∃ x : Str, vs = [.str x] ∧ x.length ≤ 900 ∧ (∃ o, H pd = some o) ∧ (lawRead (splitW x) = none → ∀ H', Same H H' → Q .non H') ∧
  (∀ ds, lawRead (splitW x) = some ds → ∀ p H', Same H H' → Vr pd H' (.ref p) (.tuple ds) → Q (.ref p) H')
/-- a returned tuple: new, or of new and old parts -/
theorem LrS.give {pd : Addr} {Dn : Ends} {σ : L2.St} {H : Hp} {x h : Str} {r t : List Str} {pw pt pr : Addr} {y5 y6 : Option V} (l : LrS pd Dn σ H x h r t pw pt pr y5 y6) {ds : List D} (e : lawC h r t = some ds) {p : Addr} {H' : Hp} {xs : List V} (s : Same H H')
    (hp : H' p = some (.tup xs)) (hv : VrA pd H' xs ds) (np : p ≠ pd) : Dn.rt (.ref p) H' := l.yes ds e p H' s (.tu hp np hv)
theorem LrS.new {pd : Addr} {Dn : Ends} {σ : L2.St} {H H' : Hp} {x h : Str} {r t : List Str} {pw pt pr q : Addr} {y5 y6 : Option V} (l : LrS pd Dn σ H x h r t pw pt pr y5 y6) (s : Same H H') (n : H' q = none) : q ≠ pd := not_pd (let ⟨o, h⟩ := l.hp; ⟨o, s _ _ h⟩) n
end
end K10
namespace K10
open PySem PySem.Spec PyProof.Rows L2
section
variable {P : Program} {w : World} {K : PySem.W.Frag} {mg : Str → Option Value} {base : Heap} {aR pd : Addr}
theorem ok_lread {f fI : Addr} {fd fdI : FuncData} (F : FnP K "_law_read" sLRd f fd) (FI : FnP K "_law_is_name" sLIs fI fdI) (gI : mg "_law_is_name" = some (.ref fI)) (N : Nm K mg aR) (mt : mg "tuple" = none) (me : mg "enumerate" = none) :
    FnOk P w K mg base CX0 2 f fd ["_law_text_here"] (spLRd pd) := by
  have GI : FnOk P w K mg base CX0 1 fI fdI ["_law_word"] spLIs := ok_lis FI N
  have bI : Binds K fdI ["_law_word"] [] := FI.bindsN fun _ _ _ _ _ _ us hl => match us, hl with | [_], _ => rfl
  refine F.ok scLRd (fun vs H Q E h => ?_) (fun cdv A outer s H vs Q E hr h => ?_)
  · obtain ⟨x, rfl, _⟩ := h
    rfl
  · obtain ⟨x, rfl, hx, hpd, no, yes⟩ := h
    have ml := N.len
    refine ⟨_, PSs.nox (pss_cons (ps_set (i := 1) scLRd.nd rfl (.inl rfl) (pe_split (pv 0) pe_str))
      (pss_cons (ps_set (i := 2) scLRd.nd rfl (.inl rfl) (pe_ix ix_list (pv 1) pe_int (fun _ _ => rfl)))
      (pss_cons (ps_set (i := 3) scLRd.nd rfl (.inl rfl) (pe_tup pa_nil))
      (pss_cons (ps_if (PW.pt (pw_and (pt_cmpR op_gt (pe_callB call_len_seq (by rfl) ml PySem.boot_len (pa_cons (pv 1) pa_nil)) pe_int (nomark _))
          (pw_and1 (pt_cmpR op_eq (pe_ix ix_list (pv 1) (pe_un un_neg pe_int) (fun _ _ => rfl)) pe_str (nomark _)))))
        (pss_cons (ps_set (i := 3) scLRd.nd rfl (.inl rfl) (pe_tup (pa_cons pe_str (pa_cons (pe_ix ix_list (pv 1) (pe_un un_neg pe_int) (fun _ _ => rfl)) pa_nil))))
          (pss_one (ps_set (i := 1) scLRd.nd rfl (.inl rfl) (pe_slice sl_list (pv 1) po_none (po_some (pe_un un_neg pe_int)))))) pss_nil)
      (imp (t' := fun Dn σ H2 => ∃ h r t pw pt y, σ = [some (.str x), some (.ref pw), some (.str h), some (.ref pt), none, none, y] ∧ cut (splitW x) = (h :: r, t) ∧ H2 pw = some (.lst ((h :: r).map V.str)) ∧ H2 pt = some (.tup (t.map V.str)) ∧ pt ≠ pd ∧ Tl t ∧ Same H H2 ∧ Dn.rt = Q)
      (pss_cons (ps_set (i := 4) scLRd.nd rfl (.inl rfl) (pe_tupleOf (by rfl) mt (pe_slice sl_list (pv 1) (po_some pe_int) po_none)))
      (pss_cons (ps_for PassesOwn.never rfl (pi_tup (pe_op op_catH (pv 4) (pe_slice (r := rSlH) sl_tupH (pv 3) (po_some pe_int) po_none))) (pg_name (i := 5) scLRd.nd rfl (.inl rfl))
        (pss_one (ps_if (pt_not (pt_val (pe_call GI hr (by rfl) gI FI.kp bI .nil pass0 (pa_cons (pv 5) pa_nil)))) (pss_one (ps_ret pe_non)) pss_nil)))
      (imp (t' := tLr pd ng0) (pss_cons (ps_if (PW.pt (pw_and (pt_cmpR (op_neD hr.units) (pv 3) (pe_tup pa_nil) (nomark _)) (pw_and1 (pt_cmpR op_notIn_seq (pv 2) (pe_lst (pa_cs (vs := [V.str "take", V.str "call"]) (by rfl))) rfl)))) (pss_one (ps_ret pe_non)) pss_nil)
      (imp (t' := tLr pd ng1) (pss_cons (ps_if (PW.pt (pw_and (pt_cmpR op_eq (pv 2) pe_str (nomark _)) (pw_and1 (pt_cmpR op_eq (pe_callB call_len_seq (by rfl) ml PySem.boot_len (pa_cons (pv 4) pa_nil)) pe_int (nomark _)))))
        (pss_one (ps_ret (pe_op op_catH (pe_tup (pa_cons pe_str (pa_cons (pe_ix ix_tup (pv 4) pe_int (fun _ _ => rfl)) pa_nil))) (pv 3)))) pss_nil)
      (imp (t' := tLr pd ng2) (pss_cons (ps_if (PW.pt (pw_and (pt_cmpR op_eq (pv 2) pe_str (nomark _)) (pw_and1 (pt_cmpR op_gt (pe_callB call_len_seq (by rfl) ml PySem.boot_len (pa_cons (pv 4) pa_nil)) pe_int (nomark _)))))
        (pss_one (ps_ret (pe_op op_catH (pe_tup (pa_cons pe_str (pa_cons (pe_ix ix_tup (pv 4) pe_int (fun _ _ => rfl)) (pa_cons (pe_slice (r := rSlH) sl_tupH (pv 4) (po_some pe_int) po_none) pa_nil)))) (pv 3)))) pss_nil)
      (imp (t' := tLr pd ng3) (pss_cons (ps_if (PW.pt (pw_and (pt_cmpR op_eq (pv 2) pe_str (nomark _)) (pw_and1 (pt_cmpR op_gt (pe_callB call_len_seq (by rfl) ml PySem.boot_len (pa_cons (pv 4) pa_nil)) pe_int (nomark _)))))
        (pss_cons (ps_for PassesOwn.never rfl (EK.pi_enT (by rfl) me (pa_cons (pv 4) pa_nil)) (pg_tup rfl (pgs_cons (pg_name (i := 6) scLRd.nd rfl (.inl rfl)) (pgs_cons (pg_name (i := 5) scLRd.nd rfl (.inl rfl)) pgs_nil)))
          (pss_one (ps_if (PW.pt (pw_and (pt_cmpR op_gt (pv 6) pe_int (nomark _)) (pw_and1 (pt_cmpR op_in_seq (pv 5) (pe_slice (r := rSlH) sl_tupH (pv 4) (po_some pe_int) (po_some (pv 6))) rfl)))) (pss_one (ps_ret pe_non)) pss_nil)))
          (pss_one (ps_ret (pe_op op_catH (pe_tup (pa_cons pe_str pa_nil)) (pv 4))))) pss_nil)
      (imp (t' := tLr pd ng4) (pss_cons (ps_if (PW.pt (pw_and (pt_cmpR op_eq (pv 2) pe_str (nomark _)) (pw_and1 (pt_cmpR op_eq (pe_callB call_len_seq (by rfl) ml PySem.boot_len (pa_cons (pv 4) pa_nil)) pe_int (nomark _)))))
        (pss_one (ps_ret (pe_tup (pa_cons pe_str pa_nil)))) pss_nil)
      (imp (t' := tLr pd ng5) (pss_cons (ps_if (PW.pt (pw_and (pt_cmpR op_in_seq (pv 2) (pe_lst (pa_cs (vs := [V.str "make", V.str "put"]) (by rfl))) rfl) (pw_and1 (pt_cmpR op_eq (pe_callB call_len_seq (by rfl) ml PySem.boot_len (pa_cons (pv 4) pa_nil)) pe_int (nomark _)))))
        (pss_one (ps_ret (pe_op op_catH (pe_tup (pa_cons (pv 2) pa_nil)) (pv 4)))) pss_nil)
      (imp (t' := tLr pd ng6) (pss_cons (ps_if (PW.pt (pw_and (pt_cmpR op_in_seq (pv 2) (pe_lst (pa_cs (vs := [V.str "copy", V.str "read", V.str "keep", V.str "write"]) (by rfl))) rfl) (pw_and1 (pt_cmpR op_eq (pe_callB call_len_seq (by rfl) ml PySem.boot_len (pa_cons (pv 4) pa_nil)) pe_int (nomark _)))))
        (pss_one (ps_ret (pe_op op_catH (pe_tup (pa_cons (pv 2) pa_nil)) (pv 4)))) pss_nil)
      (imp (t' := tLr pd ng7) (pss_one (ps_ret pe_non))
      (fun Dn σ H1 hm => ?s7))) (fun Dn σ H1 hm => ?s6))) (fun Dn σ H1 hm => ?s5))) (fun Dn σ H1 hm => ?s4))) (fun Dn σ H1 hm => ?s3))) (fun Dn σ H1 hm => ?s2))) (fun Dn σ H1 hm => ?s1))) (fun Dn σ H1 hm => ?s0)))) (fun Dn σ H1 hm => ?sa)))))), ?_⟩
    case s7 =>
      obtain ⟨x, h, r, t, pw, pt, pr, y5, y6, l, n⟩ := hm
      exact l.no (lawC_7 l.nm n) H1 (Same.refl _)
    case s0 =>
      obtain ⟨x, h, r, t, pw, pt, pr, y5, y6, l, n⟩ := hm
      obtain ⟨rfl, ht, _, _, _, _, nm, _, _, no, _⟩ := id l
      have ok : ∀ b : Bool, b = decide (t = []) → (!b) = !PyData.eqv (.tuple (t.map .str)) (.tuple []) := by
        rintro b rfl
        cases t with
        | nil => rfl
        | cons a t => rfl
      have st : ∀ w ∈ t, PyData.strOk w = true := by
        rcases l.tl with rfl | ⟨g, rfl⟩
        · intro w hw
          cases hw
        · intro w hw
          rcases List.mem_cons.mp hw with rfl | hw
          · decide +kernel
          · rw [List.mem_singleton.mp hw]
            have := List.all_eq_true.mp nm g (List.mem_append.mpr (.inr List.mem_cons_self))
            exact nm_ok this
      refine ⟨.ref pt, rfl, by show 0 ≤ sizeLine; omega, fun q nq => ?_⟩
      have k1 : Same H1 (upd H1 q (.tup [])) := same_upd nq
      refine ⟨.tuple (t.map .str), .tuple [], (Vr.tu (pd := pd) (k1 _ _ ht) l.nt (VrA.strs t)).dp K _, .tup (SqT.of upd_same) .nil, shaped_strs st, by decide +kernel, _, rfl, ?_⟩
      rw [← ok _ rfl]
      have l1 := l.up k1
      generalize upd H1 q (.tup []) = G at k1 l1
      by_cases e : t = []
      · rw [decide_eq_true e]
        exact ⟨x, h, r, t, pw, pt, pr, y5, y6, l1, fun z => z.1 e⟩
      · rw [decide_eq_false e]
        refine ⟨.str h, rfl, by show 2 ≤ sizeLine; decide, fun q2 nq2 => ?_⟩
        have k2 : Same G (upd G q2 (.lst [V.str "take", V.str "call"])) := same_upd nq2
        have l2 := l1.up k2
        refine ⟨q2, _, rfl, .inl (SqL.of upd_same), rfl, rfl, _, rfl, ?_⟩
        generalize upd G q2 (.lst [V.str "take", V.str "call"]) = G2 at l2
        show if (!inV (V.str h) ([("take" : Str), "call"].map V.str)) = true then _ else _
        rw [inV_mem]
        by_cases e2 : h ∈ [("take" : Str), "call"]
        · rw [decide_eq_true e2]
          refine iteF ⟨x, h, r, t, pw, pt, pr, y5, y6, l2, fun z => z.2 ?_⟩
          rcases List.mem_cons.mp e2 with e2 | e2
          · exact .inl e2
          · exact .inr (List.mem_singleton.mp e2)
        · rw [decide_eq_false e2]
          refine iteT (l2.no ?_ G2 (Same.refl _))
          rw [lawC_nm nm, if_pos ⟨e, fun z => e2 (z.elim (fun z => by rw [z]; exact List.mem_cons_self) fun z => by rw [z]; exact List.mem_cons_of_mem _ List.mem_cons_self)⟩]
    case s1 =>
      obtain ⟨x, h, r, t, pw, pt, pr, y5, y6, l, n⟩ := hm
      obtain ⟨rfl, ht, hr, _, _, _, nm, tl, lr, no, _⟩ := id l
      have go : ¬ (h = "take" ∧ r.length = 1) → tLr pd ng2 Dn _ H1 := fun z => ⟨x, h, r, t, pw, pt, pr, y5, y6, l, n, z⟩
      refine ⟨.str h, rfl, rfl, _, rfl, ite2 (fun h1 => ?_) (fun h1 => go fun z => h1 (decide_eq_true (by rw [z.1])))⟩
      have h1 : h = "take" := by injection of_decide_eq_true h1
      refine ⟨.ref pr, rfl, pr, _, rfl, .inr (SqT.of hr), rfl, _, rfl, ite2 (fun h2 => ?_) (fun h2 => go fun z => h2 (decide_eq_true (by rw [List.length_map, z.2]; rfl)))⟩
      have h2 : r.length = 1 := by
        injection of_decide_eq_true h2 with h2
        rw [List.length_map] at h2
        omega
      match r, h2 with
      | [r0], h2 =>
        have e : lawC h [r0] t = some ((h :: ([r0] ++ t)).map .str) := by
          rw [lawC_1 nm n]
          unfold lawForm
          rw [if_pos ⟨h1, h2⟩]
        have lt : t.length ≤ 2 := by
          rcases tl with rfl | ⟨g, rfl⟩
          · exact Nat.zero_le _
          · exact Nat.le_refl _
        refine ⟨.ref pr, rfl, pr, _, 0, .str r0, rfl, rfl, SqT.of hr, at0 _ _, by show 2 ≤ sizeLine; decide, fun q nq => ?_⟩
        have k1 : Same H1 (upd H1 q (.tup [V.str "take", V.str r0])) := same_upd nq
        have mq := l.new (Same.refl _) nq
        refine ⟨.ref pt, rfl, q, pt, _, _, rfl, rfl, upd_same, k1 _ _ ht, by rw [List.length_map, sizeLine_eq]; show 2 + _ ≤ _; omega, fun p H' s hp ho => l.give e (k1.trans s) hp ?_ ?_⟩
        · rw [h1]
          exact VrA.strs ("take" :: r0 :: t)
        · rcases ho with rfl | rfl | nn
          · exact mq
          · exact l.nt
          · exact l.new k1 nn
    case s2 =>
      obtain ⟨x, h, r, t, pw, pt, pr, y5, y6, l, n⟩ := hm
      obtain ⟨rfl, ht, hr, _, _, _, nm, tl, lr, no, _⟩ := id l
      have go : ¬ (h = "call" ∧ 0 < r.length) → tLr pd ng3 Dn _ H1 := fun z => ⟨x, h, r, t, pw, pt, pr, y5, y6, l, n, z⟩
      refine ⟨.str h, rfl, rfl, _, rfl, ite2 (fun h1 => ?_) (fun h1 => go fun z => h1 (decide_eq_true (by rw [z.1])))⟩
      have h1 : h = "call" := by injection of_decide_eq_true h1
      refine ⟨.ref pr, rfl, pr, _, rfl, .inr (SqT.of hr), _, _, rfl, rfl, _, rfl, ite2 (fun h2 => ?_) (fun h2 => go fun z => h2 (decide_eq_true (by rw [List.length_map]; omega)))⟩
      have h2 : 0 < r.length := by
        have := of_decide_eq_true h2
        rw [List.length_map] at this
        omega
      obtain ⟨n1, n2⟩ := n
      cases r with
      | nil => simp at h2
      | cons r0 rs =>
        have e : lawC h (r0 :: rs) t = some (.str h :: (((r0 :: rs).take 1).map PyData.str ++ (.tuple (((r0 :: rs).drop 1).map .str) :: t.map .str))) := by
          rw [lawC_1 nm n1]
          unfold lawForm
          rw [if_neg n2, if_pos ⟨h1, h2⟩]
        have lt : t.length ≤ 2 := by
          rcases tl with rfl | ⟨g, rfl⟩
          · exact Nat.zero_le _
          · exact Nat.le_refl _
        refine ⟨.ref pr, rfl, pr, _, 0, .str r0, rfl, rfl, SqT.of hr, at0 _ _, .ref pr, rfl, 1, rfl, pr, _, rfl, hr, fun q0 H2 s0 hq0 ho0 => ⟨by show 3 ≤ sizeLine; decide, fun q nq => ?_⟩⟩
        have e0 : cutV ((r0 :: rs).map V.str) (some 1) none = rs.map V.str := cut_from ((r0 :: rs).map V.str) 1
        rw [e0] at hq0
        have m0 : q0 ≠ pd := by
          rcases ho0 with rfl | nn
          · exact l.nr
          · exact l.new (Same.refl _) nn
        have k1 : Same H2 (upd H2 q (.tup [V.str "call", V.str r0, V.ref q0])) := same_upd nq
        have mq := l.new s0 nq
        refine ⟨.ref pt, rfl, q, pt, _, _, rfl, rfl, upd_same, (s0.trans k1) _ _ ht, by rw [List.length_map, sizeLine_eq]; show 3 + _ ≤ _; omega, fun p H' s hp ho => l.give e ((s0.trans k1).trans s) hp ?_ ?_⟩
        · rw [h1]
          exact .cons (.txt _) (.cons (.txt _) (.cons (.tu ((k1.trans s) _ _ hq0) m0 (VrA.strs rs)) (VrA.strs t)))
        · rcases ho with rfl | rfl | nn
          · exact mq
          · exact l.nt
          · exact l.new (s0.trans k1) nn
    case s4 =>
      obtain ⟨x, h, r, t, pw, pt, pr, y5, y6, l, n⟩ := hm
      obtain ⟨rfl, ht, hr, _, _, _, nm, tl, lr, no, _⟩ := id l
      have go : ¬ (h = "skip" ∧ r.length = 0) → tLr pd ng5 Dn _ H1 := fun z => ⟨x, h, r, t, pw, pt, pr, y5, y6, l, n, z⟩
      refine ⟨.str h, rfl, rfl, _, rfl, ite2 (fun h1 => ?_) (fun h1 => go fun z => h1 (decide_eq_true (by rw [z.1])))⟩
      have h1 : h = "skip" := by injection of_decide_eq_true h1
      refine ⟨.ref pr, rfl, pr, _, rfl, .inr (SqT.of hr), rfl, _, rfl, ite2 (fun h2 => ?_) (fun h2 => go fun z => h2 (decide_eq_true (by rw [List.length_map, z.2]; rfl)))⟩
      have h2 : r.length = 0 := by
        injection of_decide_eq_true h2 with h2
        rw [List.length_map] at h2
        omega
      obtain ⟨⟨⟨n1, n2⟩, n3⟩, n4⟩ := n
      have e : lawC h r t = some [.str h] := by
        rw [lawC_1 nm n1]
        unfold lawForm
        rw [if_neg n2, if_neg n3, if_neg n4, if_pos ⟨h1, h2⟩]
      refine ⟨by show 1 ≤ sizeLine; decide, fun q nq => l.give e (same_upd nq) upd_same ?_ (l.new (Same.refl _) nq)⟩
      rw [h1]
      exact VrA.strs ["skip"]
    case s5 =>
      obtain ⟨x, h, r, t, pw, pt, pr, y5, y6, l, n⟩ := hm
      obtain ⟨rfl, ht, hr, _, _, _, nm, tl, lr, no, _⟩ := id l
      refine ⟨.str h, rfl, by show 2 ≤ sizeLine; decide, fun q2 nq2 => ?_⟩
      have k2 : Same H1 (upd H1 q2 (.lst [V.str "make", V.str "put"])) := same_upd nq2
      have l2 := l.up k2
      refine ⟨q2, _, rfl, .inl (SqL.of upd_same), rfl, rfl, _, rfl, ?_⟩
      generalize upd H1 q2 (.lst [V.str "make", V.str "put"]) = G at l2
      have go : ¬ ((h = "make" ∨ h = "put") ∧ r.length = 1) → tLr pd ng6 Dn _ G := fun z => ⟨x, h, r, t, pw, pt, pr, y5, y6, l2, n, z⟩
      show if inV (V.str h) ([("make" : Str), "put"].map V.str) = true then _ else _
      rw [inV_mem]
      have em : h ∈ [("make" : Str), "put"] ↔ (h = "make" ∨ h = "put") := by simp
      refine ite2 (fun h1 => ?_) (fun h1 => go fun z => h1 (decide_eq_true (em.mpr z.1)))
      have h1 := em.mp (of_decide_eq_true h1)
      refine ⟨.ref pr, rfl, pr, _, rfl, .inr (SqT.of l2.hr), rfl, _, rfl, ite2 (fun h2 => ?_) (fun h2 => go fun z => h2 (decide_eq_true (by rw [List.length_map, z.2]; rfl)))⟩
      have h2 : r.length = 1 := by
        injection of_decide_eq_true h2 with h2
        rw [List.length_map] at h2
        omega
      obtain ⟨⟨⟨⟨n1, n2⟩, n3⟩, n4⟩, n5⟩ := n
      have e : lawC h r t = some ((h :: r).map .str) := by
        rw [lawC_1 nm n1]
        unfold lawForm
        rw [if_neg n2, if_neg n3, if_neg n4, if_neg n5, if_pos ⟨h1, h2⟩]
      refine ⟨.str h, rfl, by show 1 ≤ sizeLine; decide, fun q nq => ?_⟩
      have k1 : Same G (upd G q (.tup [V.str h])) := same_upd nq
      have mq := l2.new (Same.refl _) nq
      refine ⟨.ref pr, rfl, q, pr, _, _, rfl, rfl, upd_same, k1 _ _ l2.hr, by rw [List.length_map, sizeLine_eq]; show 1 + _ ≤ _; omega, fun p H' s hp ho => l2.give e (k1.trans s) hp (VrA.strs (h :: r)) ?_⟩
      rcases ho with rfl | rfl | nn
      · exact mq
      · exact l2.nr
      · exact l2.new k1 nn
    case s6 =>
      obtain ⟨x, h, r, t, pw, pt, pr, y5, y6, l, n⟩ := hm
      obtain ⟨rfl, ht, hr, _, _, _, nm, tl, lr, no, _⟩ := id l
      refine ⟨.str h, rfl, by show 4 ≤ sizeLine; decide, fun q2 nq2 => ?_⟩
      have k2 : Same H1 (upd H1 q2 (.lst [V.str "copy", V.str "read", V.str "keep", V.str "write"])) := same_upd nq2
      have l2 := l.up k2
      refine ⟨q2, _, rfl, .inl (SqL.of upd_same), rfl, rfl, _, rfl, ?_⟩
      generalize upd H1 q2 (.lst [V.str "copy", V.str "read", V.str "keep", V.str "write"]) = G at l2
      have go : ¬ ((h = "copy" ∨ h = "read" ∨ h = "keep" ∨ h = "write") ∧ r.length = 2) → tLr pd ng7 Dn _ G := fun z => ⟨x, h, r, t, pw, pt, pr, y5, y6, l2, n, z⟩
      show if inV (V.str h) ([("copy" : Str), "read", "keep", "write"].map V.str) = true then _ else _
      rw [inV_mem]
      have em : h ∈ [("copy" : Str), "read", "keep", "write"] ↔ (h = "copy" ∨ h = "read" ∨ h = "keep" ∨ h = "write") := by simp
      refine ite2 (fun h1 => ?_) (fun h1 => go fun z => h1 (decide_eq_true (em.mpr z.1)))
      have h1 := em.mp (of_decide_eq_true h1)
      refine ⟨.ref pr, rfl, pr, _, rfl, .inr (SqT.of l2.hr), rfl, _, rfl, ite2 (fun h2 => ?_) (fun h2 => go fun z => h2 (decide_eq_true (by rw [List.length_map, z.2]; rfl)))⟩
      have h2 : r.length = 2 := by
        injection of_decide_eq_true h2 with h2
        rw [List.length_map] at h2
        omega
      obtain ⟨⟨⟨⟨⟨n1, n2⟩, n3⟩, n4⟩, n5⟩, n6⟩ := n
      have e : lawC h r t = some ((h :: r).map .str) := by
        rw [lawC_1 nm n1]
        unfold lawForm
        rw [if_neg n2, if_neg n3, if_neg n4, if_neg n5, if_neg n6, if_pos ⟨h1, h2⟩]
      refine ⟨.str h, rfl, by show 1 ≤ sizeLine; decide, fun q nq => ?_⟩
      have k1 : Same G (upd G q (.tup [V.str h])) := same_upd nq
      have mq := l2.new (Same.refl _) nq
      refine ⟨.ref pr, rfl, q, pr, _, _, rfl, rfl, upd_same, k1 _ _ l2.hr, by rw [List.length_map, sizeLine_eq]; show 1 + _ ≤ _; omega, fun p H' s hp ho => l2.give e (k1.trans s) hp (VrA.strs (h :: r)) ?_⟩
      rcases ho with rfl | rfl | nn
      · exact mq
      · exact l2.nr
      · exact l2.new k1 nn
    case s3 =>
      obtain ⟨x, h, r, t, pw, pt, pr, y5, y6, l, n⟩ := hm
      obtain ⟨rfl, ht, hr, _, _, _, nm, tl, lr, no, _⟩ := id l
      have go : ¬ (h = "fetch" ∧ 0 < r.length) → tLr pd ng4 Dn _ H1 := fun z => ⟨x, h, r, t, pw, pt, pr, y5, y6, l, n, z⟩
      refine ⟨.str h, rfl, rfl, _, rfl, ite2 (fun h1 => ?_) (fun h1 => go fun z => h1 (decide_eq_true (by rw [z.1])))⟩
      have h1 : h = "fetch" := by injection of_decide_eq_true h1
      refine ⟨.ref pr, rfl, pr, _, rfl, .inr (SqT.of hr), _, _, rfl, rfl, _, rfl, ite2 (fun h2 => ?_) (fun h2 => go fun z => h2 (decide_eq_true (by rw [List.length_map]; omega)))⟩
      have h2 : 0 < r.length := by
        have := of_decide_eq_true h2
        rw [List.length_map] at this
        omega
      obtain ⟨⟨n1, n2⟩, n3⟩ := n
      have e : lawC h r t = if hasRep (r.drop 1) = true then none else some ((h :: r).map .str) := by
        rw [lawC_1 nm n1]
        unfold lawForm
        rw [if_neg n2, if_neg n3, if_pos ⟨h1, h2⟩]
      refine ⟨.ref pr, rfl, pr, r.map V.str, rfl, SqT.of hr, for_it EK.walk_enT (fun i σ H3 => ∃ z5 z6, σ = [some (.str x), some (.ref pw), some (.str h), some (.ref pt), some (.ref pr), z5, z6] ∧ Same H1 H3 ∧ ∀ j, j + 1 < i → flagAt (r.drop 1) j = false) ⟨y5, y6, rfl, Same.refl _, fun j hj => absurd hj (by omega)⟩ (fun i σ H3 _ ⟨_, _, _, sm, _⟩ => SqT.of (sm _ _ hr)) ?_ ?_⟩
      · rintro i xv σ H3 H4 hi ⟨z5, z6, rfl, sm, al⟩ ⟨T, v1, v2, rfl, nT, rfl, e1, e2⟩
        rw [List.length_map] at hi
        cases e1
        have e3 : r[i]? = some r[i] := List.getElem?_eq_getElem hi
        have e2 : (r.map V.str)[i]? = some v2 := e2
        rw [List.getElem?_map, e3] at e2
        cases e2
        have sm4 : Same H1 (upd H3 T (.tup [.int (i : Nat), V.str r[i]])) := sm.trans (same_upd nT)
        generalize hG : upd H3 T (.tup [.int (i : Nat), V.str r[i]]) = G at sm4
        have eT : G T = some (.tup [.int (i : Nat), V.str r[i]]) := by rw [← hG]; exact upd_same
        refine ⟨T, _, rfl, SqT.of eT, rfl, .int (i : Nat), [.str r[i]], rfl, .str r[i], [], rfl, rfl, .int (i : Nat), rfl, _, _, rfl, rfl, _, rfl, ite2 (fun h5 => ?_) (fun h5 => ?_)⟩
        · have h5 : 0 < i := by
            have := of_decide_eq_true h5
            omega
          refine ⟨.str r[i], rfl, .ref pr, rfl, 1, rfl, .int (i : Nat), rfl, (i : Nat), rfl, pr, _, rfl, sm4 _ _ hr, fun p H5 s5 hp _ => ?_⟩
          rw [cut_mid _ _ (by rw [List.length_map]; omega) (by rw [List.length_map]; omega), ← List.map_drop, ← List.map_take] at hp
          have ef : flagAt (r.drop 1) (i - 1) = inV (.str r[i]) (((r.drop 1).take (i - 1)).map V.str) := by
            unfold flagAt
            rw [List.getElem?_drop, show 1 + (i - 1) = i by omega, e3]
          refine ⟨p, _, rfl, .inr (SqT.of hp), rfl, by rw [List.all_map]; exact List.all_eq_true.mpr fun _ _ => rfl, _, rfl, ?_⟩
          show if inV (.str r[i]) (((r.drop 1).take (i - 1)).map V.str) = true then _ else _
          rw [← ef]
          cases hf : flagAt (r.drop 1) (i - 1) with
          | true =>
            refine iteT (no ?_ H5 (sm4.trans s5))
            rw [e, if_pos (hasRep_of hf (by rw [List.length_drop]; omega))]
          | false =>
            refine iteF ⟨_, _, rfl, sm4.trans s5, fun j hj => ?_⟩
            by_cases ej : j = i - 1
            · rw [ej]
              exact hf
            · exact al j (by omega)
        · have h5 : ¬ 0 < i := fun z => h5 (decide_eq_true (by omega))
          exact ⟨_, _, rfl, sm4, fun j hj => absurd hj (by omega)⟩
      · rintro σ H3 ⟨z5, z6, rfl, sm, al⟩
        rw [List.length_map] at al
        have e9 : lawC h r t = some ((h :: r).map .str) := by
          rw [e, if_neg]
          rw [hasRep_no fun j hj => al j (by rw [List.length_drop] at hj; omega)]
          exact Bool.false_ne_true
        refine ⟨by show 1 ≤ sizeLine; decide, fun q nq => ?_⟩
        have k1 : Same H3 (upd H3 q (.tup [V.str "fetch"])) := same_upd nq
        have mq := l.new sm nq
        refine ⟨.ref pr, rfl, q, pr, _, _, rfl, rfl, upd_same, (sm.trans k1) _ _ hr, by rw [List.length_map, sizeLine_eq]; show 1 + _ ≤ _; omega, fun p H' s hp ho => l.give e9 ((sm.trans k1).trans s) hp ?_ ?_⟩
        · rw [h1]
          exact VrA.strs ("fetch" :: r)
        · rcases ho with rfl | rfl | nn
          · exact mq
          · exact l.nr
          · exact l.new (sm.trans k1) nn
    case sa =>
      obtain ⟨h, r, t, pw, pt, y, rfl, ec, hw, ht, nt, tl, sm, eQ⟩ := hm
      have hz := splitW_wz x
      have cz := cut_wz (splitW x)
      rw [ec] at cz
      have cz : wz (h :: r) + wz t = wz (splitW x) := cz
      rw [wz_cons] at cz
      have lr := wz_len r
      have lt := wz_len t
      have eL : lawRead (splitW x) = lawC h r t := by
        unfold lawRead
        rw [ec]
        rfl
      rw [eL] at no yes
      rw [← eQ] at no yes
      have hp1 : ∃ o, H1 pd = some o := let ⟨o, h⟩ := hpd; ⟨o, sm _ _ h⟩
      refine ⟨.ref pw, rfl, 1, rfl, pw, _, rfl, SqL.of hw, fun q1 m1 => .inl ⟨q1, _, rfl, SqL.of upd_same, fun pr n2 => ?_⟩⟩
      have e1 : cutV ((h :: r).map V.str) (some 1) none = r.map V.str := cut_from ((h :: r).map V.str) 1
      rw [e1] at n2 ⊢
      have k1 : Same H1 (upd H1 q1 (.lst (r.map V.str))) := same_upd m1
      generalize upd H1 q1 (.lst (r.map V.str)) = G1 at n2 k1
      have k2 : Same G1 (upd G1 pr (.tup (r.map V.str))) := same_upd n2
      have er : upd G1 pr (.tup (r.map V.str)) pr = some (.tup (r.map V.str)) := upd_same
      have mr : pr ≠ pd := not_pd (let ⟨o, h⟩ := hp1; ⟨o, k1 _ _ h⟩) n2
      generalize upd G1 pr (.tup (r.map V.str)) = G2 at k2 er
      have k02 := k1.trans k2
      refine ⟨.ref pr, rfl, .ref pt, rfl, 1, rfl, pt, _, rfl, k02 _ _ ht, fun q3 H3 s3 hq3 _ => ⟨pr, q3, _, _, rfl, rfl, s3 _ _ er, hq3, ?_, fun q4 H4 s4 hq4 _ => ⟨q4, rfl, ⟨_, SqT.of hq4⟩, ?_⟩⟩⟩
      · have : (cutV (t.map V.str) (some 1) none).length ≤ (t.map V.str).length := cutV_length _ _ _
        rw [List.length_map] at this
        rw [List.length_map, sizeLine_eq]
        omega
      have e3 : cutV (t.map V.str) (some 1) none = (t.drop 1).map V.str := by
        rw [List.map_drop]
        exact cut_from (t.map V.str) 1
      rw [e3, ← List.map_append] at hq4
      have k04 := (k02.trans s3).trans s4
      refine for_it (walk_tup (xs := (r ++ t.drop 1).map V.str)) (fun i σ H5 => ∃ z5, σ = [some (.str x), some (.ref pw), some (.str h), some (.ref pt), some (.ref pr), z5, y] ∧ Same H4 H5 ∧ ((r ++ t.drop 1).take i).all isName = true) ⟨none, rfl, Same.refl _, rfl⟩ (fun _ _ _ _ ⟨_, _, s5, _⟩ => SqT.of (s5 _ _ hq4)) ?_ ?_
      · rintro i xv σ H5 H6 hi ⟨z5, rfl, s5, al⟩ ⟨rfl, hx5⟩
        rw [List.length_map] at hi
        have e4 : (r ++ t.drop 1)[i]? = some (r ++ t.drop 1)[i] := List.getElem?_eq_getElem hi
        have hx5 : ((r ++ t.drop 1).map V.str)[i]? = some xv := hx5
        rw [List.getElem?_map, e4] at hx5
        cases hx5
        have hm : (r ++ t.drop 1)[i] ∈ r ++ t.drop 1 := List.getElem_mem hi
        have lw : ((r ++ t.drop 1)[i]).length ≤ 1000 := by
          have := wz_mem hm
          rw [wz_app] at this
          have w2 : wz (t.drop 1) ≤ wz t := by
            cases t with
            | nil => exact Nat.le_refl _
            | cons a t =>
              rw [wz_cons]
              show wz t ≤ _
              omega
          omega
        refine ⟨_, rfl, _, rfl, lw, fun H7 s7 => ⟨_, rfl, ?_⟩⟩
        show if (!isName (r ++ t.drop 1)[i]) = true then _ else _
        cases hn : isName (r ++ t.drop 1)[i] with
        | true =>
          refine iteF ⟨_, rfl, s5.trans s7, ?_⟩
          rw [List.take_add_one, e4, List.all_append, al]
          show (true && (isName _ && true)) = true
          rw [hn]
          rfl
        | false =>
          refine iteT (no ?_ H7 (((sm.trans k04).trans s5).trans s7))
          unfold lawC
          rw [if_neg]
          intro z
          have := List.all_eq_true.mp z _ hm
          rw [hn] at this
          cases this
      · rintro σ H5 ⟨z5, rfl, s5, al⟩
        rw [List.length_map, List.take_length] at al
        have k05 := k04.trans s5
        exact ⟨x, h, r, t, pw, pt, pr, z5, y, ⟨rfl, k05 _ _ ht, ((s3.trans s4).trans s5) _ _ er, let ⟨o, h⟩ := hp1; ⟨o, k05 _ _ h⟩, nt, mr, al, tl, by omega, fun e H' s => no e H' ((sm.trans k05).trans s), fun ds e p H' s => yes ds e p H' ((sm.trans k05).trans s)⟩, True.intro⟩
    · -- the words
      have hne := splitW_ne x
      have hz := splitW_wz x
      have l1 := wz_len (splitW x)
      obtain ⟨h0, r0, e0⟩ : ∃ h0 r0, splitW x = h0 :: r0 := by
        cases e : splitW x with
        | nil => exact absurd e hne
        | cons a b => exact ⟨a, b, rfl⟩
      have a0 : atI ((splitW x).map V.str) 0 = some (.str h0) := by
        rw [e0]
        exact at0 _ _
      refine ⟨.str x, rfl, ⟨x, rfl⟩, x, " ", rfl, rfl, rfl, by rw [sizeLine_eq]; omega, fun pw nw => ⟨.ref pw, rfl, pw, _, 0, .str h0, rfl, rfl, SqL.of upd_same, a0, by show 0 ≤ sizeLine; omega, fun pg ng => ?_⟩⟩
      change upd H pw (.lst ((splitW x).map V.str)) pg = none at ng
      show tSeq _ _ _ _ (upd (upd H pw (.lst ((splitW x).map V.str))) pg (.tup []))
      have k1 : Same H (upd H pw (.lst ((splitW x).map V.str))) := same_upd nw
      have e1 : upd H pw (.lst ((splitW x).map V.str)) pw = some (.lst ((splitW x).map V.str)) := upd_same
      generalize upd H pw (.lst ((splitW x).map V.str)) = G1 at ng k1 e1
      have k2 : Same G1 (upd G1 pg (.tup [])) := same_upd ng
      have e2 : upd G1 pg (.tup []) pg = some (.tup []) := upd_same
      have on : ∀ {G : Hp}, Same H G → ∃ o, G pd = some o := fun k => let ⟨o, h⟩ := hpd; ⟨o, k _ _ h⟩
      have mg2 : pg ≠ pd := not_pd (on k1) ng
      generalize upd G1 pg (.tup []) = G2 at k2 e2
      have k02 := k1.trans k2
      have e1' := k2 _ _ e1
      refine ⟨.ref pw, rfl, pw, _, rfl, .inl (SqL.of e1'), _, _, rfl, rfl, _, rfl, ite2 (fun h3 => ?_) (fun h3 => ?_)⟩
      · have h3 : 2 < (splitW x).length := by
          have := of_decide_eq_true h3
          rw [List.length_map] at this
          omega
        obtain ⟨r, a, b, er⟩ := two_last (ds := splitW x) (by omega)
        obtain ⟨r1, er1⟩ : ∃ r1, r = h0 :: r1 := by
          cases r with
          | nil =>
            rw [er] at h3
            simp at h3
          | cons c r1 =>
            rw [e0, List.cons_append] at er
            injection er with er _
            exact ⟨r1, by rw [er]⟩
        have hr : r ≠ [] := by
          rw [er1]
          simp
        have em : (splitW x).map V.str = r.map V.str ++ [V.str a, V.str b] := by rw [er, List.map_append]; rfl
        have i2 : atI ((splitW x).map V.str) (-2) = some (V.str a) := by
          rw [em]
          exact at_back (r.map V.str) [V.str a, V.str b] 2 (by decide) (by show 2 ≤ 2; decide)
        have i1 : atI ((splitW x).map V.str) (-1) = some (V.str b) := by
          rw [em]
          exact at_back (r.map V.str) [V.str a, V.str b] 1 (by decide) (by show 1 ≤ 2; decide)
        refine ⟨.ref pw, rfl, 2, rfl, pw, _, _, _, rfl, rfl, SqL.of e1', i2, rfl, _, rfl, ite2 (fun h4 => ?_) (fun h4 => ?_)⟩
        · have h4 : a = "as" := by injection of_decide_eq_true h4
          have ec : cut (splitW x) = (r, [("as" : Str), b]) := by
            rw [er, h4]
            exact cut_as hr b
          have c2 : cutV ((splitW x).map V.str) none (some (-2)) = r.map V.str := by
            rw [em]
            exact cut_butn (r.map V.str) [V.str a, V.str b] 2 rfl (by decide)
          refine ⟨.ref pw, rfl, 1, rfl, pw, _, _, _, rfl, rfl, SqL.of e1', i1, by show 2 ≤ sizeLine; decide, fun q2 n2 => ?_⟩
          have k4 : Same G2 (upd G2 q2 (.tup [V.str "as", V.str b])) := same_upd n2
          have e4 : upd G2 q2 (.tup [V.str "as", V.str b]) q2 = some (.tup [V.str "as", V.str b]) := upd_same
          have m2 : q2 ≠ pd := not_pd (on k02) n2
          refine ⟨.ref pw, rfl, 2, rfl, -2, rfl, pw, _, rfl, SqL.of (k4 _ _ e1'), fun q3 n3 => ?_⟩
          rw [c2]
          generalize upd G2 q2 (.tup [V.str "as", V.str b]) = G4 at k4 e4 n3
          have k5 : Same G4 (upd G4 q3 (.lst (r.map V.str))) := same_upd n3
          have k05 := (k02.trans k4).trans k5
          exact ⟨h0, r1, [("as" : Str), b], q3, q2, none, rfl, by rw [ec, er1], by rw [er1]; exact upd_same, k5 _ _ e4, m2, .inr ⟨b, rfl⟩, k05, rfl⟩
        · have h4 : a ≠ "as" := fun e => h4 (decide_eq_true (by rw [e]))
          have ec : cut (splitW x) = (splitW x, []) := by
            unfold cut
            rw [er, end2_app]
            exact if_neg fun z => h4 z.2
          exact ⟨h0, r0, [], pw, pg, none, rfl, by rw [ec, e0], by rw [← e0]; exact e1', e2, mg2, .inl rfl, k02, rfl⟩
      · have h3 : (splitW x).length ≤ 2 := by
          by_cases z : (splitW x).length ≤ 2
          · exact z
          · exact absurd (decide_eq_true (by rw [List.length_map]; omega)) h3
        have ec : cut (splitW x) = (splitW x, []) := by
          rcases cut_cases (splitW x) with ⟨e1, e2⟩ | ⟨r, g, hr, e, _, _⟩
          · exact Prod.ext e2 e1
          · have := congrArg List.length e
            have h0 := List.length_pos_iff.mpr hr
            rw [List.length_append] at this
            simp at this
            omega
        exact iteF ⟨h0, r0, [], pw, pg, none, rfl, by rw [ec, e0], by rw [← e0]; exact e1', e2, mg2, .inl rfl, k02, rfl⟩
end
end K10
namespace K10
open PySem PySem.Spec PyProof.Rows L2
theorem lawC_shaped {h : Str} {r t : List Str} {e : List D} (tl : Tl t) (hc : lawC h r t = some e) : SeqAt.shaped (.tuple e) = true := by
  unfold lawC at hc
  by_cases nm : (r ++ t.drop 1).all isName = true
  · rw [if_pos nm] at hc
    by_cases n1 : t ≠ [] ∧ ¬ (h = "take" ∨ h = "call")
    · rw [if_pos n1] at hc
      cases hc
    · rw [if_neg n1] at hc
      have okr : ∀ w ∈ r, PyData.strOk w = true := fun w hw => nm_ok (List.all_eq_true.mp nm w (List.mem_append.mpr (.inl hw)))
      have okt : ∀ w ∈ t, PyData.strOk w = true := by
        rcases tl with rfl | ⟨g, rfl⟩
        · intro w hw
          cases hw
        · intro w hw
          rcases List.mem_cons.mp hw with rfl | hw
          · decide +kernel
          · rw [List.mem_singleton.mp hw]
            exact nm_ok (List.all_eq_true.mp nm g (List.mem_append.mpr (.inr List.mem_cons_self)))
      have hw : ∀ {k : Str}, PyData.strOk k = true → h = k → ∀ w ∈ h :: r, PyData.strOk w = true := fun hk e w hw => by
        rcases List.mem_cons.mp hw with rfl | hw
        · rw [e]
          exact hk
        · exact okr w hw
      unfold lawForm at hc
      by_cases c1 : h = "take" ∧ r.length = 1
      · rw [if_pos c1] at hc
        cases hc
        refine shaped_strs fun w hw2 => ?_
        rcases List.mem_cons.mp hw2 with rfl | hw2
        · rw [c1.1]
          decide +kernel
        · rcases List.mem_append.mp hw2 with hw2 | hw2
          · exact okr w hw2
          · exact okt w hw2
      rw [if_neg c1] at hc
      by_cases c2 : h = "call" ∧ 0 < r.length
      · rw [if_pos c2] at hc
        cases hc
        have a1 : SeqAt.shaped (.tuple ((r.drop 1).map .str)) = true := shaped_strs fun w hw => okr w (List.mem_of_mem_drop hw)
        unfold SeqAt.shaped at a1 ⊢
        rw [Bool.and_eq_true] at a1 ⊢
        have l1 : PyData.canLayAll0 ((r.take 1).map .str) = true := lay_strs fun w hw => okr w (List.mem_of_mem_take hw)
        have l2 : PyData.canLayAll0 (t.map .str) = true := lay_strs okt
        have app : ∀ a b : List D, PyData.canLayAll0 (a ++ b) = (PyData.canLayAll0 a && PyData.canLayAll0 b) := by
          intro a b
          induction a with
          | nil => rfl
          | cons d a ih => rw [List.cons_append, PyData.canLayAll0, PyData.canLayAll0, ih, Bool.and_assoc]
        have dapp : ∀ a b : List D, PyData.depthAll (a ++ b) ≤ PyData.depthAll a + PyData.depthAll b := by
          intro a b
          induction a with
          | nil => simp [PyData.depthAll]
          | cons d a ih =>
            rw [List.cons_append]
            simp only [PyData.depthAll]
            omega
        have d1 := depth_strs (r.take 1)
        have d2 := depth_strs t
        have d3 := of_decide_eq_true a1.2
        have d4 := depth_strs (r.drop 1)
        refine ⟨?_, decide_eq_true ?_⟩
        · rw [PyData.canLay0, PyData.canLayAll0, app, PyData.canLayAll0, l1, l2, a1.1, c2.1]
          decide +kernel
        · have z := dapp ((r.take 1).map .str) (.tuple ((r.drop 1).map .str) :: t.map .str)
          simp only [PyData.depth, PyData.depthAll] at z d3 ⊢
          omega
      rw [if_neg c2] at hc
      by_cases c3 : h = "fetch" ∧ 0 < r.length
      · rw [if_pos c3] at hc
        split at hc
        · cases hc
        · cases hc
          exact shaped_strs (hw (by decide +kernel) c3.1)
      rw [if_neg c3] at hc
      by_cases c4 : h = "skip" ∧ r.length = 0
      · rw [if_pos c4] at hc
        cases hc
        exact shaped_strs (ws := [h]) fun w hw2 => hw (by decide +kernel) c4.1 w (by rw [List.mem_singleton.mp hw2]; exact List.mem_cons_self)
      rw [if_neg c4] at hc
      by_cases c5 : (h = "make" ∨ h = "put") ∧ r.length = 1
      · rw [if_pos c5] at hc
        cases hc
        rcases c5.1 with e | e
        · exact shaped_strs (hw (by decide +kernel) e)
        · exact shaped_strs (hw (by decide +kernel) e)
      rw [if_neg c5] at hc
      by_cases c6 : (h = "copy" ∨ h = "read" ∨ h = "keep" ∨ h = "write") ∧ r.length = 2
      · rw [if_pos c6] at hc
        cases hc
        rcases c6.1 with e | e | e | e
        · exact shaped_strs (hw (by decide +kernel) e)
        · exact shaped_strs (hw (by decide +kernel) e)
        · exact shaped_strs (hw (by decide +kernel) e)
        · exact shaped_strs (hw (by decide +kernel) e)
      rw [if_neg c6] at hc
      cases hc
  · rw [if_neg nm] at hc
    cases hc
theorem lawRead_shaped {ws : List Str} {e : List D} (h : lawRead ws = some e) : SeqAt.shaped (.tuple e) = true := by
  unfold lawRead at h
  rcases cut_cases ws with ⟨e1, e2⟩ | ⟨r, g, hr, e0, e1, e2⟩
  · rw [e1, e2] at h
    cases ws with
    | nil => cases h
    | cons c r => exact lawC_shaped (h := c) (r := r) (t := []) (.inl rfl) h
  · rw [e1, e2] at h
    cases r with
    | nil => exact absurd rfl hr
    | cons c r => exact lawC_shaped (h := c) (r := r) (.inr ⟨g, rfl⟩) h
end K10
namespace K10
open PySem PySem.Spec PyProof.Rows L2
abbrev sLDd : Stmt := top 29
theorem scLDd : FnScope ["_law_value_here", "_law_words", "_law_at", "_law_part", "_law_one"] ["_law_value_here"] (defScope sLDd) := ⟨rfl, rfl, rfl, by decide +kernel, rfl, by decide +kernel, by decide +kernel⟩
section
variable {P : Program} {w : World} {K : PySem.W.Frag} {mg : Str → Option Value} {base : Heap} {aR pd : Addr}
theorem ok_ltext {f : Addr} {fd : FuncData} (F : FnP K "_law_text" sLTx f fd) (mi : mg "isinstance" = none) (mt : mg "tuple" = none) (mk : mg "list" = none) : FnOk P w K mg base CX0 1 f fd ["_law_deed"] (spText pd) := by
  refine F.ok scLTx (fun vs H Q E h => ?_) (fun cdv A outer s H vs Q E hr h => ?_)
  · obtain ⟨a, xs, ds, rfl, _⟩ := h
    rfl
  · obtain ⟨a, xs, ds, rfl, ⟨ha, hv, hp, hz⟩, q⟩ := h
    refine ⟨_, PSs.nox (pss_cons (ps_set (i := 1) scLTx.nd rfl (.inl rfl) (pe_lst pa_nil))
      (pss_cons (ps_for PassesOwn.never rfl (pi_tup (pv 0)) (pg_name (i := 2) scLTx.nd rfl (.inl rfl))
        (pss_one (ps_if (pt_val (pe_callB call_isi (by rfl) mi (by decide +kernel) (pa_cons (pv 2) (pa_cons (pe_bltn (v := .ty "tuple") (by rfl) mt (by decide +kernel) rfl) pa_nil))))
          (pss_one (ps_set (i := 1) scLTx.nd rfl (.inl rfl) (pe_op op_cat (pv 1) (pe_callTy call_list_of (by rfl) mk (by decide +kernel) (pa_cons (pv 2) pa_nil)))))
          (pss_one (ps_expr (pe_bm PySem.F.plainAttrs_list PySem.F.slot_list_append PySem.F.type_list_append mt_append (pv 1) (pa_cons (pv 2) pa_nil)))))))
      (pss_one (ps_ret (pe_join pe_str (pv 1)))))), ?_⟩
    have hlen := hv.len
    refine ⟨Nat.zero_le _, fun p np => ?_⟩
    have s1 : Same H (upd H p (.lst [])) := same_upd np
    refine ⟨.ref a, rfl, a, rfl, ⟨_, SqT.of (s1 _ _ ha)⟩, for_it (walk_tup (xs := xs)) (fun i σ H3 => ∃ p y, σ = [some (.ref a), some (.ref p), y] ∧ H p = none ∧ Same H H3 ∧ H3 p = some (.lst ((wordsOf (ds.take i)).map V.str))) ⟨p, none, rfl, np, s1, upd_same⟩ (fun _ _ _ _ ⟨_, _, _, _, sm, _⟩ => SqT.of (sm _ _ ha)) ?_ ?_⟩
    · rintro i x σ H3 H4 hi ⟨p, y, rfl, np, sm, ep⟩ ⟨rfl, hx⟩
      obtain ⟨d, hd, vd⟩ := hv.get hx
      have e2 : ds.take (i + 1) = ds.take i ++ [d] := by rw [List.take_add_one, hd]; rfl
      have e3 : wordsOf (ds.take (i + 1)) = wordsOf (ds.take i) ++ wordsOf [d] := by rw [e2, wordsOf_app]
      have tw := take_words (ds := ds) (i + 1)
      rw [e3, wz_app] at tw
      have l1 := wz_len (wordsOf (ds.take i))
      have l2 := wz_len (wordsOf [d])
      have vd3 := vd.same sm
      obtain ⟨t, ty, kt⟩ := vd3.tupK (K := K)
      refine ⟨x, rfl, x, .ty "tuple", t, .type "tuple", isTup d, rfl, .ty _, ty, kt, isTup d, rfl, ?_⟩
      rcases hp d (List.mem_of_getElem? hd) with ⟨z, rfl⟩ | ⟨ws, rfl⟩
      · cases vd3
        refine iteF ⟨.ref p, rfl, .inl ⟨rfl, _, SqL.of ep⟩, .str z, rfl, p, _, _, rfl, rfl, ep, small1000 (by rw [List.length_map]; simp [wordsOf] at l2; omega), ?_⟩
        refine ⟨p, _, rfl, np, Same.put sm np, ?_⟩
        rw [upd_same, e3, List.map_append]
        rfl
      · cases vd3 with
        | tu g1 g2 g3 =>
          have e4 := g3.strs_inv
          subst e4
          have e5 : wordsOf [PyData.tuple (ws.map .str)] = ws := by
            show (ws.map PyData.str).map toStr ++ [] = _
            rw [toStr_map, List.append_nil]
          rw [e5] at l2 e3 tw
          refine iteT ⟨.ref p, rfl, _, rfl, _, _, rfl, .inr (SqT.of g1), fun q1 n1 => ?_⟩
          have k1 : Same H4 (upd H4 q1 (.lst (ws.map V.str))) := same_upd n1
          refine ⟨p, q1, _, _, rfl, rfl, k1 _ _ ep, upd_same, by rw [List.length_map, List.length_map, sizeLine_eq]; omega, fun q2 n2 => ?_⟩
          refine ⟨q2, _, rfl, (sm.trans k1).free n2, (sm.trans k1).trans (same_upd n2), ?_⟩
          rw [upd_same, e3, List.map_append]
    · rintro σ H3 ⟨p, y, rfl, np, sm, ep⟩
      rw [hlen, List.take_length] at ep
      refine ⟨⟨_, rfl⟩, .ref p, rfl, " ", p, wordsOf ds, rfl, rfl, .inl (SqL.of ep), ?_, q H3 sm⟩
      unfold wz at hz
      show _ + (wordsOf ds).length * 1 ≤ _
      omega
theorem flatL_words (c : Bool) : ∀ (ds : List D) (i : Nat) (ws : List Str), flatL c i ds = some ws → ws = wordsOf ds
  | [], _, _, h => by cases h; rfl
  | .str s :: r, i, ws, h => by
    have h : (flatL c (i + 1) r).map (s :: ·) = some ws := h
    obtain ⟨v, e1, e2⟩ := Option.map_eq_some_iff.mp h
    rw [← e2, flatL_words c r (i + 1) v e1]
    rfl
  | .tuple ps :: r, i, ws, h => by
    have h : (if i = 2 ∧ c = true ∧ ps.all isStr = true then (flatL c (i + 1) r).map (ps.map toStr ++ ·) else none) = some ws := h
    split at h
    · obtain ⟨v, e1, e2⟩ := Option.map_eq_some_iff.mp h
      rw [← e2, flatL_words c r (i + 1) v e1]
      rfl
    · cases h
  | .none :: _, _, _, h => by cases h
  | .bool _ :: _, _, _, h => by cases h
  | .int _ :: _, _, _, h => by cases h
  | .list _ :: _, _, _, h => by cases h
  | .dict _ :: _, _, _, h => by cases h
def spLDd (pd : Addr) : Sp := fun vs H Q _ => ∃ (v : V) (d : D), vs = [v] ∧ Vr pd H v d ∧ (∃ o, H pd = some o) ∧ (∀ ds, d = .tuple ds → SeqAt.shaped d = true ∧ wz (wordsOf ds) ≤ 800) ∧ ∀ H', Same H H' → Q (.bl (isDeed d)) H'
def pOk (c : Bool) (i : Nat) : D → Bool
  | .str _ => true
  | .tuple ps => decide (i = 2) && (c && ps.all isStr)
  | _ => false
theorem flatL_bad (c : Bool) : ∀ (ds : List D) (k i : Nat) (d : D), ds[i]? = some d → pOk c (k + i) d = false → flatL c k ds = none
  | [], _, _, _, h, _ => by cases h
  | x :: r, k, 0, d, h, hb => by
    cases h
    cases x with
    | str s => cases hb
    | tuple ps =>
      have hb : (decide (k = 2) && (c && ps.all isStr)) = false := hb
      show (if k = 2 ∧ c = true ∧ ps.all isStr = true then _ else none) = none
      rw [if_neg]
      rintro ⟨h1, h2, h3⟩
      rw [decide_eq_true h1, h2, h3] at hb
      cases hb
    | _ => rfl
  | x :: r, k, i + 1, d, h, hb => by
    have ih := flatL_bad c r (k + 1) i d h (by rw [show k + 1 + i = k + (i + 1) by omega]; exact hb)
    cases x with
    | str s =>
      show (flatL c (k + 1) r).map _ = none
      rw [ih]
      rfl
    | tuple ps =>
      show (if k = 2 ∧ c = true ∧ ps.all isStr = true then (flatL c (k + 1) r).map _ else none) = none
      rw [ih]
      split <;> rfl
    | _ => rfl
theorem flatL_good (c : Bool) : ∀ (ds : List D) (k : Nat), (∀ i d, ds[i]? = some d → pOk c (k + i) d = true) → flatL c k ds = some (wordsOf ds)
  | [], _, _ => rfl
  | x :: r, k, h => by
    have ih := flatL_good c r (k + 1) fun i d e => by
      have := h (i + 1) d e
      rw [show k + (i + 1) = k + 1 + i by omega] at this
      exact this
    have h0 := h 0 x rfl
    cases x with
    | str s =>
      show (flatL c (k + 1) r).map _ = _
      rw [ih]
      rfl
    | tuple ps =>
      have h0 : (decide (k = 2) && (c && ps.all isStr)) = true := h0
      rw [Bool.and_eq_true, Bool.and_eq_true] at h0
      show (if k = 2 ∧ c = true ∧ ps.all isStr = true then (flatL c (k + 1) r).map _ else none) = _
      rw [if_pos ⟨of_decide_eq_true h0.1, h0.2.1, h0.2.2⟩, ih]
      rfl
    | _ => cases h0
theorem shaped_head {d : D} {r : List D} (h : SeqAt.shaped (.tuple (d :: r)) = true) : SeqAt.shaped d = true := by
  unfold SeqAt.shaped at h ⊢
  rw [Bool.and_eq_true] at h ⊢
  obtain ⟨h1, h2⟩ := h
  have h2 := of_decide_eq_true h2
  rw [PyData.canLay0, PyData.canLayAll0, Bool.and_eq_true] at h1
  simp only [PyData.depth, PyData.depthAll] at h2
  exact ⟨h1.1, decide_eq_true (by omega)⟩
theorem shaped_lay {ds : List D} (h : SeqAt.shaped (.tuple ds) = true) : PyData.canLayAll0 ds = true := by
  unfold SeqAt.shaped at h
  rw [Bool.and_eq_true, PyData.canLay0] at h
  exact h.1
theorem joinW_len (ws : List Str) : (joinW ws).length ≤ wz ws := by
  cases ws with
  | nil => decide +kernel
  | cons a b =>
    have := joinW_wz (ws := a :: b) (by simp)
    omega
theorem strs_vr : ∀ {ps : List D} {xs : List V} {pd : Addr} {H : Hp}, VrA pd H xs ps → ps.all isStr = true → xs = (ps.map toStr).map V.str
  | [], _, _, _, h, _ => by cases h; rfl
  | d :: ps, _, _, _, h, a => by
    rw [List.all_cons, Bool.and_eq_true] at a
    cases h with
    | cons h1 h2 =>
      rw [strs_vr h2 a.2]
      cases h1 with
      | txt x => rfl
      | _ => cases a.1
theorem ok_ldeed {f fR : Addr} {fd fdR : FuncData} (F : FnP K "_law_is_deed" sLDd f fd) (FR : FnP K "_law_read" sLRd fR fdR) (gR : mg "_law_read" = some (.ref fR)) (GR : FnOk P w K mg base CX0 2 fR fdR ["_law_text_here"] (spLRd pd)) (N : Nm K mg aR) (mt : mg "tuple" = none) (mk : mg "list" = none) (me : mg "enumerate" = none) :
    FnOk P w K mg base CX0 3 f fd ["_law_value_here"] (spLDd pd) := by
  have bR : Binds K fdR ["_law_text_here"] [] := FR.bindsN fun _ _ _ _ _ _ us hl => match us, hl with | [_], _ => rfl
  refine F.ok scLDd (fun vs H Q E h => ?_) (fun cdv A outer s H vs Q E hr h => ?_)
  · obtain ⟨v, d, rfl, _⟩ := h
    rfl
  · obtain ⟨v, d, rfl, hv, hpd, hl, q⟩ := h
    have mi := N.isi
    refine ⟨_, PSs.nox (pss_cons (ps_if (PW.pt (pw_or (pt_not (pt_val (pe_callB call_isi (by rfl) mi (by decide +kernel) (pa_cons (pv 0) (pa_cons (pe_bltn (v := .ty "tuple") (by rfl) mt (by decide +kernel) rfl) pa_nil)))))
        (pw_or1 (pt_cmpR op_eq (pe_callB call_len_seq (by rfl) N.len PySem.boot_len (pa_cons (pv 0) pa_nil)) pe_int (nomark _))))) (pss_one (ps_ret pe_bl)) pss_nil)
      (pss_cons (ps_set (i := 1) scLDd.nd rfl (.inl rfl) (pe_lst pa_nil))
      (pss_cons (ps_for PassesOwn.never rfl (EK.pi_enT (by rfl) me (pa_cons (pv 0) pa_nil)) (pg_tup rfl (pgs_cons (pg_name (i := 2) scLDd.nd rfl (.inl rfl)) (pgs_cons (pg_name (i := 3) scLDd.nd rfl (.inl rfl)) pgs_nil)))
        (pss_one (ps_if (pt_val (pe_callB call_isi (by rfl) mi (by decide +kernel) (pa_cons (pv 3) (pa_cons (pe_bltn (v := .ty "str") (by rfl) N.str (by decide +kernel) rfl) pa_nil))))
          (pss_one (ps_expr (pe_bm PySem.F.plainAttrs_list PySem.F.slot_list_append PySem.F.type_list_append mt_append (pv 1) (pa_cons (pv 3) pa_nil))))
          (pss_one (ps_if (PW.pt (pw_and (pt_cmpR op_eq (pv 2) pe_int (nomark _)) (pw_and (pt_val (pe_callB call_isi (by rfl) mi (by decide +kernel) (pa_cons (pv 3) (pa_cons (pe_bltn (v := .ty "tuple") (by rfl) mt (by decide +kernel) rfl) pa_nil))))
              (pw_and1 (pt_cmpR (op_eqD hr.units) (pe_ix ix_tup (pv 0) pe_int (fun _ _ => rfl)) pe_str (nomark _))))))
            (pss_cons (ps_for PassesOwn.never rfl (pi_tup (pv 3)) (pg_name (i := 4) scLDd.nd rfl (.inl rfl))
              (pss_one (ps_if (pt_not (pt_val (pe_callB call_isi (by rfl) mi (by decide +kernel) (pa_cons (pv 4) (pa_cons (pe_bltn (v := .ty "str") (by rfl) N.str (by decide +kernel) rfl) pa_nil))))) (pss_one (ps_ret pe_bl)) pss_nil)))
              (pss_one (ps_set (i := 1) scLDd.nd rfl (.inl rfl) (pe_op op_cat (pv 1) (pe_callTy call_list_of (by rfl) mk (by decide +kernel) (pa_cons (pv 3) pa_nil))))))
            (pss_one (ps_ret pe_bl)))))))
      (pss_one (ps_ret (pe_cmpR (op_eqD hr.units) (pe_call GR hr (by rfl) gR FR.kp bR .nil pass0 (pa_cons (pe_join pe_str (pv 1)) pa_nil)) (pv 0) (nomark _))))))), ?_⟩
    obtain ⟨t0, ty0, kt0⟩ := hv.tupK (K := K)
    refine ⟨v, rfl, v, .ty "tuple", t0, .type "tuple", isTup d, rfl, .ty _, ty0, kt0, isTup d, rfl, ?_⟩
    cases hv with
    | no => exact iteT (iteT (q H (Same.refl _)))
    | bo b => exact iteT (iteT (q H (Same.refl _)))
    | num i => exact iteT (iteT (q H (Same.refl _)))
    | txt x => exact iteT (iteT (q H (Same.refl _)))
    | li g1 g2 g3 => exact iteT (iteT (q H (Same.refl _)))
    | tu g1 g2 g3 =>
      rename_i a xs ds
      obtain ⟨hs, hz⟩ := hl ds rfl
      have hlen := g3.len
      have hq : ∀ b, lawDeedL ds = b → ∀ H', Same H H' → Q (.bl b) H' := fun b e H' s => by
        rw [← e, law_deed (shaped_lay hs)]
        exact q H' s
      refine iteF ⟨.ref a, rfl, a, xs, rfl, .inr (SqT.of g1), rfl, _, rfl, ?_⟩
      cases ds with
      | nil =>
        cases g3
        exact iteT (hq false rfl H (Same.refl _))
      | cons d0 dr =>
        cases xs with
        | nil => cases g3
        | cons u0 us =>
        have v0 : Vr pd H u0 d0 := by cases g3 with | cons k1 k2 => exact k1
        have e0 : decide (V.int (((u0 :: us).length : Nat) : Int) = V.int 0) = false := decide_eq_false (fun z => by
          injection z with z
          rw [List.length_cons] at z
          omega)
        rw [e0]
        refine iteF ⟨Nat.zero_le _, fun p np => ?_⟩
        have s1 : Same H (upd H p (.lst [])) := same_upd np
        have bad : ∀ {i : Nat} {e : D}, (d0 :: dr)[i]? = some e → pOk (headCall (d0 :: dr)) i e = false → lawDeedL (d0 :: dr) = false := fun {i e} h1 h2 => by
          have z := flatL_bad (headCall (d0 :: dr)) (d0 :: dr) 0 i e h1 (by rw [Nat.zero_add]; exact h2)
          show (match flatL (headCall (d0 :: dr)) 0 (d0 :: dr) with | none => false | some ws => match lawRead (splitW (joinW ws)) with | some e => PyData.eqvAll e (d0 :: dr) | none => false) = false
          rw [z]
        refine ⟨.ref a, rfl, a, u0 :: us, rfl, SqT.of (s1 _ _ g1), for_it EK.walk_enT (fun i σ H3 => ∃ p y2 y3 y4, σ = [some (.ref a), some (.ref p), y2, y3, y4] ∧ H p = none ∧ Same H H3 ∧ H3 p = some (.lst ((wordsOf ((d0 :: dr).take i)).map V.str)) ∧ ∀ j e, j < i → (d0 :: dr)[j]? = some e → pOk (headCall (d0 :: dr)) j e = true)
          ⟨p, none, none, none, rfl, np, s1, upd_same, fun j e hj => absurd hj (Nat.not_lt_zero _)⟩ (fun _ _ _ _ ⟨_, _, _, _, _, _, sm, _⟩ => SqT.of (sm _ _ g1)) ?_ ?_⟩
        · rintro i xv σ H3 H4 hi ⟨p, y2, y3, y4, rfl, np, sm, ep, al⟩ ⟨T, v1, v2, rfl, nT, rfl, e1, e2⟩
          cases e1
          have e2 : (u0 :: us)[i]? = some v2 := e2
          obtain ⟨d, hd, vd⟩ := g3.get e2
          have sm4 : Same H (upd H3 T (.tup [.int (i : Nat), v2])) := sm.trans (same_upd nT)
          have ep4 : upd H3 T (.tup [.int (i : Nat), v2]) p = some (.lst ((wordsOf ((d0 :: dr).take i)).map V.str)) := by rw [upd_ne (ne_of_none ep nT)]; exact ep
          have eT : upd H3 T (.tup [.int (i : Nat), v2]) T = some (.tup [.int (i : Nat), v2]) := upd_same
          generalize upd H3 T (.tup [.int (i : Nat), v2]) = G at sm4 ep4 eT
          have et : (d0 :: dr).take (i + 1) = (d0 :: dr).take i ++ [d] := by rw [List.take_add_one, hd]; rfl
          have e3 : wordsOf ((d0 :: dr).take (i + 1)) = wordsOf ((d0 :: dr).take i) ++ wordsOf [d] := by rw [et, wordsOf_app]
          have tw := take_words (ds := d0 :: dr) (i + 1)
          rw [e3, wz_app] at tw
          have l1 := wz_len (wordsOf ((d0 :: dr).take i))
          have l2 := wz_len (wordsOf [d])
          have vdG := vd.same sm4
          have al2 : pOk (headCall (d0 :: dr)) i d = true → ∀ j e, j < i + 1 → (d0 :: dr)[j]? = some e → pOk (headCall (d0 :: dr)) j e = true := fun hk j e hj he => by
            by_cases ej : j = i
            · rw [ej, hd] at he
              cases he
              rw [ej]
              exact hk
            · exact al j e (by omega) he
          obtain ⟨t, ty, kt⟩ := vdG.strK (K := K)
          refine ⟨T, _, rfl, SqT.of eT, rfl, .int (i : Nat), [v2], rfl, v2, [], rfl, rfl, v2, rfl, v2, .ty "str", t, .type "str", isStr d, rfl, .ty _, ty, kt, isStr d, rfl, ?_⟩
          have odd : isStr d = false → isTup d = false → pOk (headCall (d0 :: dr)) i d = false := fun h1 h2 => by
            cases d with
            | str s => cases h1
            | tuple ps => cases h2
            | _ => rfl
          cases hd1 : isStr d with
          | true =>
            cases vdG with
            | txt z =>
              refine iteT ⟨.ref p, rfl, .inl ⟨rfl, _, SqL.of ep4⟩, .str z, rfl, p, _, _, rfl, rfl, ep4, small1000 (by rw [List.length_map]; simp [wordsOf] at l2; omega), ?_⟩
              refine ⟨p, _, _, _, rfl, np, Same.put sm4 np, ?_, al2 rfl⟩
              rw [upd_same, e3, List.map_append]
              rfl
            | _ => cases hd1
          | false =>
            refine iteF ⟨.int (i : Nat), rfl, rfl, _, rfl, ite2 (fun h5 => ?_) (fun h5 => ?_)⟩
            · have h5 : i = 2 := by
                injection of_decide_eq_true h5 with h5
                omega
              obtain ⟨t2, ty2, kt2⟩ := vdG.tupK (K := K)
              refine ⟨v2, rfl, v2, .ty "tuple", t2, .type "tuple", isTup d, rfl, .ty _, ty2, kt2, isTup d, rfl, ?_⟩
              cases hd2 : isTup d with
              | false => exact iteF (iteF (hq false (bad hd (odd hd1 hd2)) G sm4))
              | true =>
                refine iteT ⟨.ref a, rfl, a, _, 0, u0, rfl, rfl, SqT.of (sm4 _ _ g1), at0 _ _, d0, .str "call", (v0.same sm4).dp K, .str _, shaped_head hs, by decide +kernel, _, rfl, ?_⟩
                show if headCall (d0 :: dr) = true then _ else _
                cases hc : headCall (d0 :: dr) with
                | false =>
                  refine iteF (hq false (bad hd ?_) G sm4)
                  cases d with
                  | tuple ps =>
                    show (_ && (headCall (d0 :: dr) && _)) = false
                    rw [hc, Bool.false_and, Bool.and_false]
                  | _ => cases hd2
                | true =>
                  cases vdG with
                  | @tu b zs ps k1 k2 k3 =>
                    refine iteT ⟨.ref b, rfl, b, rfl, ⟨_, SqT.of k1⟩, for_it (walk_tup (xs := zs)) (fun j σ H5 => ∃ y4, σ = [some (.ref a), some (.ref p), some (.int (i : Nat)), some (.ref b), y4] ∧ H5 = G ∧ (ps.take j).all isStr = true) ⟨y4, rfl, rfl, rfl⟩ (fun _ _ _ _ ⟨_, _, e5, _⟩ => by rw [e5]; exact SqT.of k1) ?_ ?_⟩
                    · rintro j zv σ H5 H6 hj ⟨y4, rfl, rfl, aj⟩ ⟨rfl, hz5⟩
                      obtain ⟨e, he, ve⟩ := k3.get hz5
                      obtain ⟨t3, ty3, kt3⟩ := ve.strK (K := K)
                      refine ⟨zv, rfl, zv, .ty "str", t3, .type "str", isStr e, rfl, .ty _, ty3, kt3, isStr e, rfl, ?_⟩
                      cases h6 : isStr e with
                      | true =>
                        refine iteF ⟨_, rfl, rfl, ?_⟩
                        rw [List.take_add_one, he, List.all_append, aj]
                        show (true && (isStr e && true)) = true
                        rw [h6]
                        rfl
                      | false =>
                        refine iteT (hq false (bad hd ?_) _ sm4)
                        show (_ && (_ && ps.all isStr)) = false
                        rw [List.all_eq_false.mpr ⟨e, List.mem_of_getElem? he, by rw [h6]; exact Bool.false_ne_true⟩, Bool.and_false, Bool.and_false]
                    · rintro σ H5 ⟨y4, rfl, rfl, aj⟩
                      rw [k3.len, List.take_length] at aj
                      have ez := strs_vr k3 aj
                      have e5 : wordsOf [PyData.tuple ps] = ps.map toStr := List.append_nil _
                      rw [e5] at e3 l2
                      refine ⟨.ref p, rfl, _, rfl, _, _, rfl, .inr (SqT.of k1), fun q1 n1 => ?_⟩
                      rw [ez]
                      have k4 : Same H5 (upd H5 q1 (.lst ((ps.map toStr).map V.str))) := same_upd n1
                      refine ⟨p, q1, _, _, rfl, rfl, k4 _ _ ep4, upd_same, by rw [List.length_map, List.length_map, sizeLine_eq]; rw [e5] at tw; omega, fun q2 n2 => ?_⟩
                      have al3 := al2
                      rw [hc] at al3
                      refine ⟨q2, _, _, _, rfl, (sm4.trans k4).free n2, (sm4.trans k4).trans (same_upd n2), ?_, al3 ?_⟩
                      · rw [upd_same, e3, List.map_append]
                      · show (decide (i = 2) && (true && ps.all isStr)) = true
                        rw [decide_eq_true h5, aj]
                        rfl
                  | _ => cases hd2
            · have h5 : i ≠ 2 := fun z => h5 (decide_eq_true (by rw [z]; rfl))
              refine iteF (hq false (bad hd ?_) G sm4)
              cases d with
              | str s => cases hd1
              | tuple ps =>
                show (decide (i = 2) && _) = false
                rw [decide_eq_false h5, Bool.false_and]
              | _ => rfl
        · rintro σ H3 ⟨p, y2, y3, y4, rfl, np, sm, ep, al⟩
          rw [hlen, List.take_length] at ep
          rw [hlen] at al
          have fl : flatL (headCall (d0 :: dr)) 0 (d0 :: dr) = some (wordsOf (d0 :: dr)) := flatL_good _ _ _ fun i e he => by
            rw [Nat.zero_add]
            exact al i e (List.getElem?_eq_some_iff.mp he).1 he
          have el : lawDeedL (d0 :: dr) = match lawRead (splitW (joinW (wordsOf (d0 :: dr)))) with | some e => PyData.eqvAll e (d0 :: dr) | none => false := by
            show (match flatL (headCall (d0 :: dr)) 0 (d0 :: dr) with | none => false | some ws => match lawRead (splitW (joinW ws)) with | some e => PyData.eqvAll e (d0 :: dr) | none => false) = _
            rw [fl]
          have jl := joinW_len (wordsOf (d0 :: dr))
          have vH : ∀ {G : Hp}, Same H3 G → Vr pd G (.ref a) (.tuple (d0 :: dr)) := fun s => .tu ((sm.trans s) _ _ g1) g2 (g3.same (sm.trans s))
          refine ⟨⟨_, rfl⟩, .ref p, rfl, " ", p, wordsOf (d0 :: dr), rfl, rfl, .inl (SqL.of ep), ?_, joinW (wordsOf (d0 :: dr)), rfl, by omega, (let ⟨o, h⟩ := hpd; ⟨o, sm _ _ h⟩), fun e5 H5 s5 => ?_, fun e e5 p5 H5 s5 v5 => ?_⟩
          · unfold wz at hz
            show _ + (wordsOf (d0 :: dr)).length * 1 ≤ _
            omega
          · refine ⟨_, rfl, .none, .tuple (d0 :: dr), .non, (vH s5).dp K, by decide +kernel, hs, ?_⟩
            refine hq _ ?_ H5 (sm.trans s5)
            rw [el, e5]
            rfl
          · refine ⟨_, rfl, .tuple e, .tuple (d0 :: dr), v5.dp K, (vH s5).dp K, lawRead_shaped e5, hs, ?_⟩
            refine hq _ ?_ H5 (sm.trans s5)
            rw [el, e5]
            simp [PyData.eqv]
end
end K10
namespace K10
open PySem PySem.Spec PyProof.Rows L2
abbrev sLTk : Stmt := top 33
theorem scLTk : FnScope ["_law_text_here", "_law_found", "_law_rule", "e"] ["_law_text_here"] (defScope sLTk) := ⟨rfl, rfl, rfl, by decide +kernel, rfl, by decide +kernel, by decide +kernel⟩
section
variable {P : Program} {w : World} {K : PySem.W.Frag} {mg : Str → Option Value} {base : Heap} {aR pd C CL : Addr}
def spTk (pd : Addr) : Sp := fun vs H Q _ => ∃ x : Str, vs = [.str x] ∧ x.length ≤ 900 ∧ (∃ o, H pd = some o) ∧
  (isDeedL (build (splitW x)) = true → ∀ q H', Same H H' → Vr pd H' (.ref q) (.list [.tuple (build (splitW x)), .str ""]) → Q (.ref q) H') ∧
  (isDeedL (build (splitW x)) = false → ∀ q H', Same H H' → Vr pd H' (.ref q) (.list [.none, .str "form"]) → Q (.ref q) H')
theorem ok_tk {f fR : Addr} {fd fdR : FuncData} (F : FnP K "_law_taken" sLTk f fd) (FR : FnP K "read_deed" sRead fR fdR) (gR : mg "read_deed" = some (.ref fR)) (GR : FnOk P w K mg base (L2.CX P w) 4 fR fdR ["text"] (spRead pd C))
    (B : ErC P w K mg base "BadPart" C ["rule"]) (gL : mg "BadLine" = some (.ref CL)) (exm : PySem.W.exmOne K (.ref C) (.ref C) = some true) (kit : PySem.W.kitOne K (.ref C) (.ref CL) = some false) (mi : mg "isinstance" = none) (mn : mg "int" = none) :
    FnOk P w K mg base CX0 5 f fd ["_law_text_here"] (spTk pd) := by
  have bR : Binds K fdR ["text"] [] := FR.bindsN fun _ _ _ _ _ _ us hl => match us, hl with | [_], _ => rfl
  refine F.ok scLTk (fun vs H Q E h => ?_) (fun cdv A outer s H vs Q E hr h => ?_)
  · obtain ⟨x, rfl, _⟩ := h
    rfl
  · obtain ⟨x, rfl, hx, hpd, yes, nope⟩ := h
    refine ⟨_, pss_cons (ps_set (i := 1) scLTk.nd rfl (.inl rfl) pe_non)
      (pss_cons (ps_set (i := 2) scLTk.nd rfl (.inl rfl) pe_str)
      (pss_cons (ps_try_as1 (i := 3) rfl rfl scLTk.nd rfl rfl ⟨rfl, by decide, .inl B.g⟩ (fun W pn xe tk _ => pss_one (ps_set (i := 1) scLTk.nd rfl (.inl rfl) (pe_callS GR hr (by rfl) gR FR.kp bR (fun σ => passAt tk σ) (pa_cons (pv 0) pa_nil))))
          (fun a oe cls d pn hz hf => pss_one (ps_set (i := 2) scLTk.nd rfl (.inl rfl) (pe_ix (r := rIxL K) ix_list (pe_lst (pa_cons (pe_xf B.xf (B.no "rule" List.mem_cons_self) hz hf (pv 3)) (pa_cons pe_str pa_nil)))
            (pe_callTy call_int1 (by rfl) mn (by decide +kernel) (pa_cons (pe_callB (r := rIsE2 K cls d a) (call_isE2 hz hf) (by rfl) mi (by decide +kernel) (pa_cons (pv 3) (pa_cons (pe_glob (v := .ref CL) (by rfl) gL rfl) pa_nil))) pa_nil)) (fun _ _ => rfl)))))
      (pss_one (ps_ret (pe_lst (pa_cons (pv 1) (pa_cons (pv 2) pa_nil))))))), ?_⟩
    have on : ∀ {G : Hp}, Same H G → ∃ o, G pd = some o := fun k => let ⟨o, h⟩ := hpd; ⟨o, k _ _ h⟩
    refine ⟨.str x, rfl, x, rfl, hx, hpd, fun hb p H' sm v => ?_, fun hb d H' sm nd hd => ⟨exm, fun a na => ?_⟩⟩
    · refine ⟨.ref p, rfl, .str "", rfl, by show 2 ≤ sizeLine; decide, fun q nq => yes hb q _ (sm.trans (same_upd nq)) (.li upd_same (not_pd (on sm) nq) (.cons (v.same (same_upd nq)) (.cons (.txt _) .nil)))⟩
    · refine ⟨.ref a, rfl, rfl, rfl, d, [("rule", .str "form")], .str "form", rfl, hd, rfl, by show 2 ≤ sizeLine; decide, fun q1 n1 => ?_⟩
      have k1 : Same H' (upd H' q1 (.lst [V.str "form", V.str "other"])) := same_upd n1
      refine ⟨.ref a, rfl, C, d, [("rule", .str "form")], rfl, rfl, k1 _ _ hd, B.ec, .ref CL, .ref CL, false, rfl, fun u ru => ru, kit, .inr ⟨false, rfl, q1, _, 0, .str "form", rfl, rfl, SqL.of upd_same, at0 _ _, ?_⟩⟩
      refine ⟨.non, rfl, .str "form", rfl, by show 2 ≤ sizeLine; decide, fun q nq => nope hb q _ ((sm.trans k1).trans (same_upd nq)) (.li upd_same (not_pd (on (sm.trans k1)) nq) (.cons .no (.cons (.txt _) .nil)))⟩
end
end K10
namespace K10
open PySem PySem.Spec PyProof.Rows L2
/-! ### the draws' list at pd, all else as it was -/
structure Dr (H H' : Hp) (pd : Addr) : Prop where
  but : ∀ b o, H b = some o → b ≠ pd → H' b = some o
  dr : ∃ ys : List Int, H' pd = some (.lst (ys.map V.int))
theorem Dr.draw {H H' : Hp} {pd : Addr} (d : Dr H H' pd) (ys : List Int) : Dr H (upd H' pd (.lst (ys.map V.int))) pd :=
  ⟨fun b o e n => by rw [upd_ne n]; exact d.but b o e n, ys, upd_same⟩
theorem Dr.new {H H' : Hp} {pd p : Addr} {o : HO} (d : Dr H H' pd) (n : H' p = none) : Dr H (upd H' p o) pd := by
  refine ⟨fun b x e nb => same_upd n b x (d.but b x e nb), ?_⟩
  obtain ⟨ys, hy⟩ := d.dr
  exact ⟨ys, same_upd n _ _ hy⟩
theorem Dr.ne {H H' : Hp} {pd p : Addr} (d : Dr H H' pd) (n : H' p = none) : p ≠ pd := fun e => by
  obtain ⟨ys, hy⟩ := d.dr
  rw [← e, n] at hy
  cases hy
theorem Dr.refl {H : Hp} {pd : Addr} {ys : List Int} (h : H pd = some (.lst (ys.map V.int))) : Dr H H pd := ⟨fun _ _ e _ => e, ys, h⟩
theorem Dr.self {H H' : Hp} {pd : Addr} (d : Dr H H' pd) : Dr H' H' pd := ⟨fun _ _ e _ => e, d.dr⟩
theorem Dr.trans {H H1 H2 : Hp} {pd : Addr} (d : Dr H H1 pd) (e : Dr H1 H2 pd) : Dr H H2 pd := ⟨fun b o h n => e.but b o (d.but b o h n) n, e.dr⟩
theorem at_in {xs : List V} {r : Int} {n : Nat} (h0 : 0 ≤ r) (h1 : r < n) (hn : n ≤ xs.length) : ∃ v, atI xs r = some v ∧ v ∈ xs := by
  have h2 : r.toNat < xs.length := by omega
  have e : r = (r.toNat : Int) := by omega
  have z : atI xs (r.toNat : Int) = some xs[r.toNat] := atI_nat (List.getElem?_eq_getElem h2)
  rw [← e] at z
  exact ⟨_, z, List.getElem_mem h2⟩
theorem at_cp {z : Str} {r : Int} {n : Nat} (h0 : 0 ≤ r) (h1 : r < n) (hn : n ≤ z.length) : ∃ c, atI z.cps.toList r = some c := by
  have h2 : r.toNat < z.cps.toList.length := by
    have : n ≤ z.cps.toList.length := hn
    omega
  have e : r = (r.toNat : Int) := by omega
  have q : atI z.cps.toList (r.toNat : Int) = some z.cps.toList[r.toNat] := atI_nat (List.getElem?_eq_getElem h2)
  rw [← e] at q
  exact ⟨_, q⟩

/-- a name of the pool -/
structure Pn (n : Str) : Prop where
  len : n.length ≤ 16
  ok : ∀ c ∈ n.cps.toList, okc c = true
  ne : n ≠ "as"
def StOk (s : Str) (k : Nat) : Prop := s.length ≤ k ∧ ∀ c ∈ s.cps.toList, okc c = true
theorem cps_app (x y : Str) : (x ++ y).cps.toList = x.cps.toList ++ y.cps.toList := TL.tl_append x y
theorem StOk.app {a b : Str} {k l : Nat} (h : StOk a k) (g : StOk b l) : StOk (a ++ b) (k + l) := by
  refine ⟨by rw [strLen_append]; have := h.1; have := g.1; omega, fun c hc => ?_⟩
  rw [cps_app] at hc
  rcases List.mem_append.mp hc with hc | hc
  · exact h.2 c hc
  · exact g.2 c hc
theorem StOk.cut {a : Str} {k : Nat} (h : StOk a k) (lo hi : Option Int) : StOk (cutS a lo hi) k := by
  refine ⟨Nat.le_trans (cutS_length a lo hi) h.1, fun c hc => h.2 c ?_⟩
  exact List.mem_of_mem_drop (List.mem_of_mem_take hc)
theorem StOk.sign {z : Str} {r : Int} {c : Nat} (hz : ∀ c ∈ z.cps.toList, okc c = true) (h : atI z.cps.toList r = some c) : StOk ⟨#[c]⟩ 1 := by
  refine ⟨Nat.le_refl _, fun d hd => ?_⟩
  have e : d = c := by simpa using hd
  rw [e]
  unfold atI at h
  obtain ⟨j, _, hj⟩ := Option.bind_eq_some_iff.mp h
  exact hz c (List.mem_of_getElem? hj)
abbrev sPool : Stmt := top 25
theorem scPool : FnScope ["_law_draws_here", "_law_stems", "_law_turn", "_law_stem", "_law_letter", "_law_first", "_law_names", "_law_k", "_law_sign", "_law_place", "_law_name"] ["_law_draws_here"] (defScope sPool) := ⟨rfl, rfl, rfl, by decide +kernel, rfl, by decide +kernel, by decide +kernel⟩
section
variable {P : Program} {w : World} {K : PySem.W.Frag} {mg : Str → Option Value} {base : Heap} {aR pd : Addr}
def spPool (pd : Addr) : Sp := fun vs H Q _ => vs = [.ref pd] ∧ Dr H H pd ∧ ∀ (H' : Hp) (p : Addr) (ns : List Str), Dr H H' pd → p ≠ pd → H' p = some (.lst (ns.map V.str)) → ns.length = 28 → (∀ n ∈ ns, Pn n) → Q (.ref p) H'
theorem ok_pool {f fN : Addr} {fd fdN : FuncData} (F : FnP K "_law_pool" sPool f fd) (FN : FnP K "_law_next" sNext fN fdN) (gN : mg "_law_next" = some (.ref fN)) (ml : mg "len" = none) (mi : mg "int" = none) (mr : mg "range" = none) :
    FnOk P w K mg base CX0 2 f fd ["_law_draws_here"] (spPool pd) := by
  have GN : FnOk P w K mg base CX0 1 fN fdN ["_law_draws_here", "_law_many"] spNext := ok_next FN ml mi
  have bN : Binds K fdN ["_law_draws_here", "_law_many"] [] := FN.bindsN fun _ _ _ _ _ _ us hl => match us, hl with | [_, _], _ => rfl
  refine F.ok scPool (fun vs H Q E h => ?_) (fun cdv A outer s H vs Q E hr h => ?_)
  · obtain ⟨rfl, _⟩ := h
    rfl
  · obtain ⟨rfl, d0, q⟩ := h
    refine ⟨_, PSs.nox (pss_cons (ps_set (i := 1) scPool.nd rfl (.inl rfl) (pe_lst pa_nil))
      (pss_cons (ps_for PassesOwn.never rfl (pi_range1 rfl mr (pa_cons pe_int pa_nil)) (pg_name (i := 2) scPool.nd rfl (.inl rfl))
        (pss_cons (ps_set (i := 3) scPool.nd rfl (.inl rfl) pe_str)
        (pss_cons (ps_for PassesOwn.never rfl (pi_range1 rfl mr (pa_cons (pe_call GN hr (by rfl) gN FN.kp bN .nil pass0 (pa_cons (pv 0) (pa_cons pe_int pa_nil))) pa_nil)) (pg_name (i := 4) scPool.nd rfl (.inl rfl))
          (pss_one (ps_set (i := 3) scPool.nd rfl (.inl rfl) (pe_op op_add_str (pv 3) (pe_ix ix_str pe_str (pe_call GN hr (by rfl) gN FN.kp bN .nil pass0 (pa_cons (pv 0) (pa_cons pe_int pa_nil))) (fun _ _ => rfl))))))
        (pss_one (ps_expr (pe_bm PySem.F.plainAttrs_list PySem.F.slot_list_append PySem.F.type_list_append mt_append (pv 1) (pa_cons (pv 3) pa_nil)))))))
      (imp (t' := fun Dn σ H2 => ∃ (p1 : Addr) (ss : List Str) (y2 y3 y4 : Option V), σ = [some (.ref pd), some (.ref p1), y2, y3, y4, none, none, none, none, none, none] ∧ Dr H H2 pd ∧ p1 ≠ pd ∧ H2 p1 = some (.lst (ss.map V.str)) ∧ ss.length = 3 ∧ (∀ s ∈ ss, StOk s 7) ∧ Dn.rt = Q)
      (pss_cons (ps_set (i := 5) scPool.nd rfl (.inl rfl) (pe_call GN hr (by rfl) gN FN.kp bN .nil pass0 (pa_cons (pv 0) (pa_cons pe_int pa_nil))))
      (pss_cons (ps_set (i := 6) scPool.nd rfl (.inl rfl) (pe_lst pa_nil))
      (pss_cons (ps_for PassesOwn.never rfl (pi_range1 rfl mr (pa_cons pe_int pa_nil)) (pg_name (i := 7) scPool.nd rfl (.inl rfl))
        (pss_cons (ps_set (i := 8) scPool.nd rfl (.inl rfl) (pe_op op_mod (pe_callTy call_int1 (by rfl) mi (by decide +kernel) (pa_cons (pe_op op_add (pv 5) (pe_op op_mul pe_int (pv 7))) pa_nil)) pe_int))
        (pss_cons (ps_set (i := 3) scPool.nd rfl (.inl rfl) (pe_ix ix_list (pv 1) (pe_op op_mod (pv 7) pe_int) (fun _ _ => rfl)))
        (pss_cons (ps_if (PW.pt (pw_and (pt_cmpR op_gt (pv 8) pe_int (nomark _)) (pw_and1 (pt_cmpR op_eq (pv 3) pe_str (nomark _))))) (pss_one (ps_set (i := 3) scPool.nd rfl (.inl rfl) pe_str)) pss_nil)
        (imp (t' := fun Dn σ H2 => ∃ (x0 x1 x2 x4 x5 x7 y9 y10 : Option V) (st : Str) (sg : Int) (p6 : Addr) (ns : List Str), σ = [x0, x1, x2, some (.str st), x4, x5, some (.ref p6), x7, some (.int sg), y9, y10] ∧ (∃ k : Int, x7 = some (.int k)) ∧ StOk st 7 ∧ 0 ≤ sg ∧ sg < 28 ∧ H2 p6 = some (.lst (ns.map V.str)) ∧ ns.length < 100 ∧
            ∀ n H3 y9 y10, Pn n → Same H2 H3 → Dn.nx [x0, x1, x2, some (.str st), x4, x5, some (.ref p6), x7, some (.int sg), y9, y10] (upd H3 p6 (.lst ((ns ++ [n]).map V.str))))
        (pss_cons (ps_set (i := 9) scPool.nd rfl (.inl rfl) (pe_op op_modN (pe_callTy call_int1 (by rfl) mi (by decide +kernel) (pa_cons (pe_op op_add (pe_op op_fdiv (pv 7) pe_int) (pe_callB call_len_str (by rfl) ml PySem.boot_len (pa_cons (pv 3) pa_nil))) pa_nil)) (pe_op op_add (pe_callB call_len_str (by rfl) ml PySem.boot_len (pa_cons (pv 3) pa_nil)) pe_int)))
        (pss_cons (ps_if (PW.pt (pw_and (pt_cmpR op_gt (pv 8) pe_int (nomark _)) (pw_and1 (pt_cmpR op_eq (pv 9) pe_int (nomark _))))) (pss_one (ps_set (i := 9) scPool.nd rfl (.inl rfl) pe_int)) pss_nil)
        (imp (t' := fun Dn σ H2 => ∃ (x0 x1 x2 x4 x5 x7 y10 : Option V) (st : Str) (sg pl : Int) (p6 : Addr) (ns : List Str), σ = [x0, x1, x2, some (.str st), x4, x5, some (.ref p6), x7, some (.int sg), some (.int pl), y10] ∧ StOk st 7 ∧ 0 ≤ sg ∧ sg < 28 ∧ H2 p6 = some (.lst (ns.map V.str)) ∧ ns.length < 100 ∧
            ∀ n H3 y9 y10, Pn n → Same H2 H3 → Dn.nx [x0, x1, x2, some (.str st), x4, x5, some (.ref p6), x7, some (.int sg), y9, y10] (upd H3 p6 (.lst ((ns ++ [n]).map V.str))))
        (pss_cons (ps_set (i := 10) scPool.nd rfl (.inl rfl) (pe_op op_add_str (pe_op op_add_str (pe_slice sl_str (pv 3) po_none (po_some (pv 9))) (pe_ix ix_str pe_str (pv 8) (fun _ _ => rfl))) (pe_slice sl_str (pv 3) (po_some (pv 9)) po_none)))
        (pss_cons (ps_if (pt_cmpR op_in_seq (pv 10) (pe_lst (pa_cs (vs := [V.str "do", V.str "as", V.str "read", V.str "fetch"]) (by rfl))) rfl) (pss_one (ps_set (i := 10) scPool.nd rfl (.inl rfl) (pe_op op_add_str (pv 10) pe_str))) pss_nil)
        (pss_one (ps_expr (pe_bm PySem.F.plainAttrs_list PySem.F.slot_list_append PySem.F.type_list_append mt_append (pv 6) (pa_cons (pv 10) pa_nil))))))
        (fun Dn σ H2 hm => ?name)))) (fun Dn σ H2 hm => ?body))))))
      (pss_one (ps_ret (pv 6)))))) (fun Dn σ H2 hm => ?rest)))), ?_⟩
    case body =>
      obtain ⟨x0, x1, x2, x4, x5, x7, y9, y10, st, sg, p6, ns, rfl, ⟨k, rfl⟩, hst, g0, g1, h6, hn, nx⟩ := hm
      have lst := hst.1
      have hz : st.length ≤ sizeLine := by rw [sizeLine_eq]; omega
      refine ⟨.int k, rfl, k, 3, rfl, rfl, ⟨by decide, by decide⟩, .str st, rfl, st, rfl, hz, _, _, rfl, rfl, .inl ⟨_, rfl, .str st, rfl, st, rfl, hz, _, _, rfl, rfl, _, _, rfl, rfl, by omega, ?_⟩⟩
      refine ⟨.int sg, rfl, _, _, rfl, rfl, _, rfl, ite2 (fun h1 => ?_) (fun h1 => iteF ⟨x0, x1, x2, x4, x5, _, y10, st, sg, _, p6, ns, rfl, hst, g0, g1, h6, hn, nx⟩)⟩
      exact ⟨_, rfl, rfl, _, rfl, ite2 (fun h2 => ⟨x0, x1, x2, x4, x5, _, y10, st, sg, _, p6, ns, rfl, hst, g0, g1, h6, hn, nx⟩) (fun h2 => ⟨x0, x1, x2, x4, x5, _, y10, st, sg, _, p6, ns, rfl, hst, g0, g1, h6, hn, nx⟩)⟩
    case name =>
      obtain ⟨x0, x1, x2, x4, x5, x7, y10, st, sg, pl, p6, ns, rfl, hst, g0, g1, h6, hn, nx⟩ := hm
      have lst := hst.1
      have hz : st.length ≤ sizeLine := by rw [sizeLine_eq]; omega
      obtain ⟨c, hc⟩ := at_cp (z := ("ijklmnopqrstuvwxyz0123456789" : Str)) (n := 28) g0 g1 (by decide +kernel)
      have oc := StOk.sign (z := ("ijklmnopqrstuvwxyz0123456789" : Str)) (by decide +kernel) hc
      have o1 := (hst.cut none (some pl)).app oc
      have o2 := o1.app (hst.cut (some pl) none)
      have l1 := o1.1
      have l2 := o2.1
      refine ⟨.str st, rfl, .int pl, rfl, pl, rfl, st, rfl, hz, .int sg, rfl, "ijklmnopqrstuvwxyz0123456789", sg, c, rfl, rfl, by decide +kernel, hc, _, _, rfl, rfl, by rw [← strLen_append, sizeLine_eq]; omega, .str st, rfl, .int pl, rfl, pl, rfl, st, rfl, hz, _, _, rfl, rfl, by rw [← strLen_append, sizeLine_eq]; omega, ?_⟩
      generalize cutS st none (some pl) ++ ⟨#[c]⟩ ++ cutS st (some pl) none = nm at o2
      refine ⟨.str nm, rfl, by show 4 ≤ sizeLine; decide, fun q nq => ?_⟩
      have k1 : Same H2 (upd H2 q (.lst [V.str "do", V.str "as", V.str "read", V.str "fetch"])) := same_upd nq
      refine ⟨q, _, rfl, .inl (SqL.of upd_same), rfl, rfl, _, rfl, ?_⟩
      generalize upd H2 q (.lst [V.str "do", V.str "as", V.str "read", V.str "fetch"]) = G at k1
      show if inV (V.str nm) ([("do" : Str), "as", "read", "fetch"].map V.str) = true then _ else _
      rw [inV_mem]
      have fin : ∀ n, Pn n → _ := fun n pn => nx n G (some (.int pl)) (some (.str n)) pn k1
      have sn : ∀ n : Str, ns.map V.str ++ [V.str n] = (ns ++ [n]).map V.str := fun n => by rw [List.map_append]; rfl
      refine ite2 (fun h1 => ?_) (fun h1 => ?_)
      · have h1 := of_decide_eq_true h1
        have ne : nm ++ "0" ≠ "as" := by
          have key : ∀ z ∈ [("do" : Str), "as", "read", "fetch"], z ++ ("0" : Str) ≠ "as" := by decide +kernel
          exact key nm h1
        have ok0 : StOk ("0" : Str) 1 := by
          refine ⟨by decide +kernel, ?_⟩
          decide +kernel
        have o3 := o2.app ok0
        refine ⟨.str nm, rfl, nm, "0", rfl, rfl, ?_, .ref p6, rfl, .inl ⟨rfl, _, SqL.of (k1 _ _ h6)⟩, .str (nm ++ "0"), rfl, p6, _, _, rfl, rfl, k1 _ _ h6, small1000 (by rw [List.length_map]; omega), ?_⟩
        · have := o3.1
          rw [strLen_append] at this
          rw [sizeLine_eq]
          omega
        · rw [sn]
          exact fin _ ⟨o3.1, o3.2, ne⟩
      · have h1 : nm ∉ [("do" : Str), "as", "read", "fetch"] := fun z => h1 (decide_eq_true z)
        refine ⟨.ref p6, rfl, .inl ⟨rfl, _, SqL.of (k1 _ _ h6)⟩, .str nm, rfl, p6, _, _, rfl, rfl, k1 _ _ h6, small1000 (by rw [List.length_map]; omega), ?_⟩
        rw [sn]
        exact fin _ ⟨by have := o2.1; omega, o2.2, fun e => h1 (by rw [e]; exact List.mem_cons_of_mem _ List.mem_cons_self)⟩
    case rest =>
      obtain ⟨p1, ss, y2, y3, y4, rfl, dr, m1, h1, hs3, hok, eQ⟩ := hm
      obtain ⟨zs, hzs⟩ := dr.dr
      refine ⟨.ref pd, rfl, pd, zs, 28, rfl, hzs, by decide, fun first ys f0 f1 _ => ⟨Nat.zero_le _, fun p6 n6 => ?_⟩⟩
      have dr1 := dr.draw ys
      have h1' : upd H2 pd (.lst (ys.map V.int)) p1 = some (.lst (ss.map V.str)) := by rw [upd_ne m1]; exact h1
      generalize upd H2 pd (.lst (ys.map V.int)) = G at dr1 h1' n6
      have m6 : p6 ≠ pd := dr1.ne n6
      have n60 : H p6 = none := by
        cases e : H p6 with
        | none => rfl
        | some o =>
          rw [dr1.but p6 o e m6] at n6
          cases n6
      have m16 : p1 ≠ p6 := ne_of_none h1' n6
      refine ⟨28, rfl, by decide, by decide, for_range (n := 28) (fun i σ H5 => ∃ (y2 y3 y4 y7 y8 y9 y10 : Option V) (ns : List Str), σ = [some (.ref pd), some (.ref p1), y2, y3, y4, some (.int first), some (.ref p6), y7, y8, y9, y10] ∧ Dr H H5 pd ∧ H5 p1 = some (.lst (ss.map V.str)) ∧ H5 p6 = some (.lst (ns.map V.str)) ∧ ns.length = i ∧ ∀ n ∈ ns, Pn n)
        ⟨y2, y3, y4, none, none, none, none, [], rfl, dr1.new n6, by rw [upd_ne m16]; exact h1', upd_same, rfl, fun n hn => by cases hn⟩ ?_ ?_⟩
      · rintro k σ H5 hk ⟨z2, z3, z4, z7, z8, z9, z10, ns, rfl, dr5, e1, e6, hn, hp⟩
        obtain ⟨st0, hst0, hm0⟩ := at_in (xs := ss.map V.str) (r := ((0 : Int) + ((k : Nat) : Int)) % 3) (n := 3) (by omega) (by omega) (by rw [List.length_map, hs3]; exact Nat.le_refl _)
        obtain ⟨st, hst, rfl⟩ := List.mem_map.mp hm0
        have ok := hok st hst
        have h28 : (0 : Int) < 28 := by decide
        have fin : ∀ (w3 : Str), StOk w3 7 → ∃ (x0 x1 x2 x4 x5 x7 y9 y10 : Option V) (st : Str) (sg : Int) (p6' : Addr) (ns : List Str), [some (V.ref pd), some (V.ref p1), z2, some (.str w3), z4, some (.int first), some (.ref p6), some (.int (0 + ((k : Nat) : Int))), some (.int ((first + 5 * (0 + ((k : Nat) : Int))) % 28)), z9, z10] = [x0, x1, x2, some (.str st), x4, x5, some (.ref p6'), x7, some (.int sg), y9, y10] ∧ (∃ k : Int, x7 = some (.int k)) ∧ StOk st 7 ∧ 0 ≤ sg ∧ sg < 28 ∧ H5 p6' = some (.lst (ns.map V.str)) ∧ ns.length < 100 ∧
            ∀ n H3 y9 y10, Pn n → Same H5 H3 → (fun σ H5 => ∃ (y2 y3 y4 y7 y8 y9 y10 : Option V) (ns : List Str), σ = [some (.ref pd), some (.ref p1), y2, y3, y4, some (.int first), some (.ref p6), y7, y8, y9, y10] ∧ Dr H H5 pd ∧ H5 p1 = some (.lst (ss.map V.str)) ∧ H5 p6 = some (.lst (ns.map V.str)) ∧ ns.length = k + 1 ∧ ∀ n ∈ ns, Pn n) [x0, x1, x2, some (.str st), x4, x5, some (.ref p6'), x7, some (.int sg), y9, y10] (upd H3 p6' (.lst ((ns ++ [n]).map V.str))) := fun w3 o3 =>
          ⟨_, _, _, _, _, _, _, _, w3, _, p6, ns, rfl, ⟨_, rfl⟩, o3, Int.emod_nonneg _ (by decide), Int.emod_lt_of_pos _ h28, e6, by omega, fun n H3 y9 y10 pn s3 => ⟨_, _, _, _, _, _, _, ns ++ [n], rfl, ⟨fun b o e nb => ?_, ?_⟩, ?_, upd_same, by rw [List.length_append, hn]; rfl, fun m hm => ?_⟩⟩
        · refine ⟨.int first, rfl, .int (0 + ((k : Nat) : Int)), rfl, 5, _, rfl, rfl, .inl ⟨by decide, by decide⟩, _, _, rfl, rfl, .inl ⟨_, rfl, _, 28, rfl, rfl, h28, ?_⟩⟩
          refine ⟨.ref p1, rfl, .int (0 + ((k : Nat) : Int)), rfl, _, 3, rfl, rfl, by show (0 : Int) < 3; decide, p1, _, _, .str st, rfl, rfl, SqL.of e1, hst0, ?_⟩
          refine ⟨_, rfl, _, 17, rfl, rfl, _, rfl, ite2 (fun _ => ?_) (fun _ => iteF (fin st ok))⟩
          exact ⟨.str st, rfl, rfl, _, rfl, ite2 (fun _ => fin "a" ⟨by decide +kernel, by decide +kernel⟩) (fun _ => fin st ok)⟩
        · have nb6 : b ≠ p6 := ne_of_none e n60
          rw [upd_ne nb6]
          exact s3 _ _ (dr5.but b o e nb)
        · obtain ⟨ys, hy⟩ := dr5.dr
          exact ⟨ys, by rw [upd_ne m6.symm]; exact s3 _ _ hy⟩
        · rw [upd_ne m16]
          exact s3 _ _ e1
        · rcases List.mem_append.mp hm with hm | hm
          · exact hp m hm
          · rw [List.mem_singleton.mp hm]
            exact pn
      · rintro σ H5 ⟨z2, z3, z4, z7, z8, z9, z10, ns, rfl, dr5, e1, e6, hn, hp⟩
        exact ⟨.ref p6, rfl, by rw [eQ]; exact q H5 p6 ns dr5 m6 e6 hn hp⟩
    · refine ⟨Nat.zero_le _, fun p1 n1 => ?_⟩
      have m1 : p1 ≠ pd := d0.ne n1
      refine ⟨3, rfl, by decide, by decide, for_range (n := 3) (fun i σ H5 => ∃ (y2 y3 y4 : Option V) (ss : List Str), σ = [some (.ref pd), some (.ref p1), y2, y3, y4, none, none, none, none, none, none] ∧ Dr H H5 pd ∧ H5 p1 = some (.lst (ss.map V.str)) ∧ ss.length = i ∧ ∀ s ∈ ss, StOk s 7)
        ⟨none, none, none, [], rfl, d0.new n1, upd_same, rfl, fun s hs => by cases hs⟩ ?_ ?_⟩
      · rintro i σ H5 hi ⟨y2, y3, y4, ss, rfl, dr5, e1, hn, ok⟩
        obtain ⟨zs, hzs⟩ := dr5.dr
        refine ⟨.ref pd, rfl, pd, zs, 8, rfl, hzs, by decide, fun r ys r0 r1 _ => ?_⟩
        obtain ⟨m, rfl⟩ := Int.eq_ofNat_of_zero_le r0
        have dr6 := dr5.draw ys
        have e6 : upd H5 pd (.lst (ys.map V.int)) p1 = some (.lst (ss.map V.str)) := by rw [upd_ne m1]; exact e1
        generalize upd H5 pd (.lst (ys.map V.int)) = G at dr6 e6
        refine ⟨(m : Int), rfl, by omega, by omega, for_range (n := m) (fun j σ H7 => ∃ (st : Str) (z4 : Option V), σ = [some (.ref pd), some (.ref p1), some (.int (0 + ((i : Nat) : Int))), some (.str st), z4, none, none, none, none, none, none] ∧ Dr H H7 pd ∧ H7 p1 = some (.lst (ss.map V.str)) ∧ StOk st j) ⟨"", y4, rfl, dr6, e6, by decide +kernel, by decide +kernel⟩ ?_ ?_⟩
        · rintro j σ H7 hj ⟨st, z4, rfl, dr7, e7, oj⟩
          obtain ⟨zs7, hzs7⟩ := dr7.dr
          refine ⟨.str st, rfl, .ref pd, rfl, pd, zs7, 8, rfl, hzs7, by decide, fun t ys7 t0 t1 _ => ?_⟩
          obtain ⟨c, hc⟩ := at_cp (z := ("abcdefgh" : Str)) (n := 8) t0 t1 (by decide +kernel)
          have o1 := oj.app (StOk.sign (z := ("abcdefgh" : Str)) (by decide +kernel) hc)
          have l1 := o1.1
          rw [strLen_append] at l1
          refine ⟨"abcdefgh", t, c, rfl, rfl, by decide +kernel, hc, st, _, rfl, rfl, by rw [sizeLine_eq]; omega, ?_⟩
          exact ⟨_, _, rfl, dr7.draw ys7, by rw [upd_ne m1]; exact e7, o1⟩
        · rintro σ H7 ⟨st, z4, rfl, dr7, e7, oj⟩
          refine ⟨.ref p1, rfl, .inl ⟨rfl, _, SqL.of e7⟩, .str st, rfl, p1, _, _, rfl, rfl, e7, small1000 (by rw [List.length_map]; omega), ?_⟩
          have dx := dr7.dr
          refine ⟨_, _, _, ss ++ [st], rfl, ⟨fun b o e nb => ?_, ?_⟩, ?_, by rw [List.length_append, hn]; rfl, fun s hs => ?_⟩
          · rw [upd_ne (ne_of_none e n1)]
            exact dr7.but b o e nb
          · obtain ⟨ys, hy⟩ := dx
            exact ⟨ys, by rw [upd_ne m1.symm]; exact hy⟩
          · rw [upd_same, List.map_append]
            rfl
          · rcases List.mem_append.mp hs with hs | hs
            · exact ok s hs
            · rw [List.mem_singleton.mp hs]
              exact ⟨by have := oj.1; omega, oj.2⟩
      · rintro σ H5 ⟨y2, y3, y4, ss, rfl, dr5, e1, hn, ok⟩
        exact ⟨p1, ss, y2, y3, y4, rfl, dr5, m1, e1, hn, ok, rfl⟩
end
end K10
namespace K10
open PySem PySem.Spec PyProof.Rows L2
abbrev sDrawn : Stmt := top 30
theorem scDrawn : FnScope ["_law_draws_here", "_law_pool_here", "_law_word", "_law_name", "_law_other", "_law_deed", "_law_turn", "_law_passed"] ["_law_draws_here", "_law_pool_here"] (defScope sDrawn) := ⟨rfl, rfl, rfl, by decide +kernel, rfl, by decide +kernel, by decide +kernel⟩
def Tg (t : List Str) : Prop := t = [] ∨ ∃ g, t = [("as" : Str), g] ∧ Pn g
inductive Drw : List D → Prop
  | skip : Drw [.str "skip"]
  | two (w n : Str) : (w = "make" ∨ w = "put") → Pn n → Drw [.str w, .str n]
  | three (w n o : Str) : w ∈ [("read" : Str), "write", "keep", "copy"] → Pn n → Pn o → Drw [.str w, .str n, .str o]
  | fetch (n : Str) (ns : List Str) : Pn n → (∀ m ∈ ns, Pn m) → ns.length ≤ 4 → Drw (.str "fetch" :: .str n :: ns.map .str)
  | take (n : Str) (t : List Str) : Pn n → Tg t → Drw (.str "take" :: .str n :: t.map .str)
  | call (n : Str) (ps t : List Str) : Pn n → (∀ m ∈ ps, Pn m) → ps.length ≤ 4 → Tg t → Drw (.str "call" :: .str n :: .tuple (ps.map .str) :: t.map .str)
/-- the pool at pp -/
structure Pl (pd pp : Addr) (H : Hp) (ns : List Str) : Prop where
  at_ : H pp = some (.lst (ns.map V.str))
  ne : pp ≠ pd
  len : ns.length = 28
  ok : ∀ n ∈ ns, Pn n
theorem Pl.up {pd pp : Addr} {H H' : Hp} {ns : List Str} (l : Pl pd pp H ns) (d : Dr H H' pd) : Pl pd pp H' ns := ⟨d.but _ _ l.at_ l.ne, l.ne, l.len, l.ok⟩
theorem Pl.get {pd pp : Addr} {H : Hp} {ns : List Str} (l : Pl pd pp H ns) {r : Int} (h0 : 0 ≤ r) (h1 : r < 28) : ∃ n, atI (ns.map V.str) r = some (.str n) ∧ Pn n := by
  obtain ⟨v, hv, hm⟩ := at_in (xs := ns.map V.str) (n := 28) h0 h1 (by rw [List.length_map, l.len]; exact Nat.le_refl _)
  obtain ⟨n, hn, rfl⟩ := List.mem_map.mp hm
  exact ⟨n, hv, l.ok n hn⟩
theorem Dr.same {H H1 H2 : Hp} {pd : Addr} (d : Dr H H1 pd) (s : Same H1 H2) : Dr H H2 pd := ⟨fun b o e n => s _ _ (d.but b o e n), let ⟨ys, h⟩ := d.dr; ⟨ys, s _ _ h⟩⟩
def DRAWN : List Str := ["take", "read", "call", "fetch", "write", "copy", "keep", "make", "put", "skip"]
section
variable {P : Program} {w : World} {K : PySem.W.Frag} {mg : Str → Option Value} {base : Heap} {aR pd pp : Addr}
def spDrawn (pd pp : Addr) : Sp := fun vs H Q _ => ∃ ns, vs = [.ref pd, .ref pp] ∧ Dr H H pd ∧ Pl pd pp H ns ∧ ∀ (H' : Hp) (p : Addr) (ds : List D), Dr H H' pd → Vr pd H' (.ref p) (.tuple ds) → Drw ds → Q (.ref p) H'
/-- a deed under way, at slot 5 -/
structure DwS (pd pp : Addr) (H0 : Hp) (Dn : Ends) (Q : VK) (σ : L2.St) (H : Hp) (ns : List Str) (wd n o : Str) (p5 : Addr) (ds : List D) (x6 x7 : Option V) : Prop where
  st : σ = [some (.ref pd), some (.ref pp), some (.str wd), some (.str n), some (.str o), some (.ref p5), x6, x7]
  dr : Dr H0 H pd
  pl : Pl pd pp H0 ns
  np : p5 ≠ pd
  pn : Pn n
  po : Pn o
  tp : ∃ xs, H p5 = some (.tup xs) ∧ VrA pd H xs ds
  rt : Dn.rt = Q
def tDw (pd pp : Addr) (H0 : Hp) (Q : VK) (R : Str → Str → List D → Prop) : TS := fun Dn σ H => ∃ ns wd n o p5 ds x6 x7, DwS pd pp H0 Dn Q σ H ns wd n o p5 ds x6 x7 ∧ R wd n ds
def rA : Str → Str → List D → Prop := fun wd n ds => wd ∈ [("take" : Str), "call", "fetch", "make", "put"] ∧ ds = [.str wd, .str n]
def rB : Str → Str → List D → Prop := fun wd n ds => (wd = "fetch" ∧ ∃ ns : List Str, (∀ m ∈ ns, Pn m) ∧ ns.length ≤ 4 ∧ ds = .str "fetch" :: .str n :: ns.map .str) ∨ (wd ∈ [("take" : Str), "call", "make", "put"] ∧ ds = [.str wd, .str n])
def rC : Str → Str → List D → Prop := fun wd n ds => (wd = "fetch" ∧ ∃ ns : List Str, (∀ m ∈ ns, Pn m) ∧ ns.length ≤ 4 ∧ ds = .str "fetch" :: .str n :: ns.map .str) ∨ (wd = "call" ∧ ∃ ps : List Str, (∀ m ∈ ps, Pn m) ∧ ps.length ≤ 4 ∧ ds = [.str "call", .str n, .tuple (ps.map .str)]) ∨ (wd ∈ [("take" : Str), "make", "put"] ∧ ds = [.str wd, .str n])
theorem ok_drawn {f fN : Addr} {fd fdN : FuncData} (F : FnP K "_law_drawn" sDrawn f fd) (FN : FnP K "_law_next" sNext fN fdN) (gN : mg "_law_next" = some (.ref fN)) (ml : mg "len" = none) (mi : mg "int" = none) (mr : mg "range" = none) :
    FnOk P w K mg base CX0 2 f fd ["_law_draws_here", "_law_pool_here"] (spDrawn pd pp) := by
  have GN : FnOk P w K mg base CX0 1 fN fdN ["_law_draws_here", "_law_many"] spNext := ok_next FN ml mi
  have bN : Binds K fdN ["_law_draws_here", "_law_many"] [] := FN.bindsN fun _ _ _ _ _ _ us hl => match us, hl with | [_, _], _ => rfl
  refine F.ok scDrawn (fun vs H Q E h => ?_) (fun cdv A outer s H vs Q E hr h => ?_)
  · obtain ⟨ns, rfl, _⟩ := h
    rfl
  · obtain ⟨ns, rfl, d0, pl, q⟩ := h
    refine ⟨_, PSs.nox (pss_cons (ps_set (i := 2) scDrawn.nd rfl (.inl rfl) (pe_ix ix_list (pe_lst (pa_cs (vs := DRAWN.map V.str) (by rfl))) (pe_call GN hr (by rfl) gN FN.kp bN .nil pass0 (pa_cons (pv 0) (pa_cons pe_int pa_nil))) (fun _ _ => rfl)))
      (pss_cons (ps_set (i := 3) scDrawn.nd rfl (.inl rfl) (pe_ix ix_list (pv 1) (pe_call GN hr (by rfl) gN FN.kp bN .nil pass0 (pa_cons (pv 0) (pa_cons pe_int pa_nil))) (fun _ _ => rfl)))
      (pss_cons (ps_set (i := 4) scDrawn.nd rfl (.inl rfl) (pe_ix ix_list (pv 1) (pe_call GN hr (by rfl) gN FN.kp bN .nil pass0 (pa_cons (pv 0) (pa_cons pe_int pa_nil))) (fun _ _ => rfl)))
      (pss_cons (ps_set (i := 5) scDrawn.nd rfl (.inl rfl) (pe_tup (pa_cons (pv 2) (pa_cons (pv 3) pa_nil))))
      (pss_cons (ps_if (pt_cmpR op_eq (pv 2) pe_str (nomark _)) (pss_one (ps_ret (pe_tup (pa_cons pe_str pa_nil)))) pss_nil)
      (pss_cons (ps_if (pt_cmpR op_in_seq (pv 2) (pe_lst (pa_cs (vs := [("read" : Str), "write", "keep", "copy"].map V.str) (by rfl))) rfl) (pss_one (ps_ret (pe_op op_catH (pv 5) (pe_tup (pa_cons (pv 4) pa_nil))))) pss_nil)
      (imp (t' := tDw pd pp H Q rA) (pss_cons (ps_if (pt_cmpR op_eq (pv 2) pe_str (nomark _)) (pss_one (ps_for PassesOwn.never rfl (pi_range1 rfl mr (pa_cons (pe_call GN hr (by rfl) gN FN.kp bN .nil pass0 (pa_cons (pv 0) (pa_cons pe_int pa_nil))) pa_nil)) (pg_name (i := 6) scDrawn.nd rfl (.inl rfl))
          (pss_one (ps_set (i := 5) scDrawn.nd rfl (.inl rfl) (pe_op op_catH (pv 5) (pe_tup (pa_cons (pe_ix ix_list (pv 1) (pe_call GN hr (by rfl) gN FN.kp bN .nil pass0 (pa_cons (pv 0) (pa_cons pe_int pa_nil))) (fun _ _ => rfl)) pa_nil))))))) pss_nil)
      (imp (t' := tDw pd pp H Q rB) (pss_cons (ps_if (pt_cmpR op_eq (pv 2) pe_str (nomark _)) (pss_cons (ps_set (i := 7) scDrawn.nd rfl (.inl rfl) (pe_tup pa_nil)) (pss_cons (ps_for PassesOwn.never rfl (pi_range1 rfl mr (pa_cons (pe_call GN hr (by rfl) gN FN.kp bN .nil pass0 (pa_cons (pv 0) (pa_cons pe_int pa_nil))) pa_nil)) (pg_name (i := 6) scDrawn.nd rfl (.inl rfl))
          (pss_one (ps_set (i := 7) scDrawn.nd rfl (.inl rfl) (pe_op op_catH (pv 7) (pe_tup (pa_cons (pe_ix ix_list (pv 1) (pe_call GN hr (by rfl) gN FN.kp bN .nil pass0 (pa_cons (pv 0) (pa_cons pe_int pa_nil))) (fun _ _ => rfl)) pa_nil))))))
          (pss_one (ps_set (i := 5) scDrawn.nd rfl (.inl rfl) (pe_op op_catH (pv 5) (pe_tup (pa_cons (pv 7) pa_nil))))))) pss_nil)
      (imp (t' := tDw pd pp H Q rC) (pss_cons (ps_if (PW.pt (pw_and (pt_cmpR op_in_seq (pv 2) (pe_lst (pa_cs (vs := [("take" : Str), "call"].map V.str) (by rfl))) rfl) (pw_and1 (pt_cmpR op_eq (pe_call GN hr (by rfl) gN FN.kp bN .nil pass0 (pa_cons (pv 0) (pa_cons pe_int pa_nil))) pe_int (nomark _)))))
          (pss_one (ps_set (i := 5) scDrawn.nd rfl (.inl rfl) (pe_op op_catH (pv 5) (pe_tup (pa_cons pe_str (pa_cons (pv 4) pa_nil)))))) pss_nil)
      (pss_one (ps_ret (pv 5)))) (fun Dn σ H2 hm => ?sC))) (fun Dn σ H2 hm => ?sB))) (fun Dn σ H2 hm => ?sA)))))))), ?_⟩
    case sC =>
      obtain ⟨ns, wd, n, o, p5, ds, x6, x7, S, R⟩ := hm
      obtain ⟨rfl, dr, pl, np, pn, po, ⟨xs, e5, v5⟩, rt⟩ := S
      have fin : ∀ p ds' H', Dr H H' pd → Vr pd H' (.ref p) (.tuple ds') → Drw ds' → Dn.rt (.ref p) H' := fun p ds' H' d v w => by
        rw [rt]
        exact q H' p ds' d v w
      have plain : Drw ds := by
        rcases R with ⟨rfl, ms, hm, hl, rfl⟩ | ⟨rfl, ps, hp, hl, rfl⟩ | ⟨hw, rfl⟩
        · exact .fetch n ms pn hm hl
        · exact .call n ps [] pn hp hl (.inl rfl)
        · rcases List.mem_cons.mp hw with rfl | hw
          · exact .take n [] pn (.inl rfl)
          rcases List.mem_cons.mp hw with rfl | hw
          · exact .two _ n (.inl rfl) pn
          · rw [List.mem_singleton.mp hw]
            exact .two _ n (.inr rfl) pn
      refine ⟨.str wd, rfl, by show 2 ≤ sizeLine; decide, fun q2 nq2 => ?_⟩
      have k2 : Same H2 (upd H2 q2 (.lst ([("take" : Str), "call"].map V.str))) := same_upd nq2
      refine ⟨q2, _, rfl, .inl (SqL.of upd_same), rfl, rfl, _, rfl, ?_⟩
      have dr2 := dr.new (o := .lst ([("take" : Str), "call"].map V.str)) nq2
      generalize upd H2 q2 (.lst ([("take" : Str), "call"].map V.str)) = G at k2 dr2
      have e5G := k2 _ _ e5
      have v5G := v5.same k2
      show if inV (V.str wd) ([("take" : Str), "call"].map V.str) = true then _ else _
      rw [inV_mem]
      refine ite2 (fun h1 => ?_) (fun h1 => iteF ⟨.ref p5, rfl, fin p5 ds G dr2 (.tu e5G np v5G) plain⟩)
      have h1 := of_decide_eq_true h1
      obtain ⟨zs, hzs⟩ := dr2.dr
      refine ⟨.ref pd, rfl, pd, zs, 2, rfl, hzs, by decide, fun r ys r0 r1 _ => ?_⟩
      have dr3 := dr2.draw ys
      have up : ∀ b ob, G b = some ob → b ≠ pd → upd G pd (.lst (ys.map V.int)) b = some ob := fun b ob e ne => by rw [upd_ne ne]; exact e
      have e53 := up _ _ e5G np
      have v53 := v5G.up up
      generalize upd G pd (.lst (ys.map V.int)) = G3 at dr3 e53 v53
      refine ⟨rfl, _, rfl, ite2 (fun h2 => ?_) (fun h2 => ⟨.ref p5, rfl, fin p5 ds G3 dr3 (.tu e53 np v53) plain⟩)⟩
      refine ⟨.ref p5, rfl, .str o, rfl, by show 2 ≤ sizeLine; decide, fun q4 n4 => ?_⟩
      have k4 : Same G3 (upd G3 q4 (.tup [V.str "as", V.str o])) := same_upd n4
      have m4 := dr3.ne n4
      have dr4 := dr3.new (o := .tup [V.str "as", V.str o]) n4
      have ln := v53.len
      refine ⟨p5, q4, _, _, rfl, rfl, k4 _ _ e53, upd_same, ?_, fun p6 H6 s6 hp6 ho6 => ⟨.ref p6, rfl, fin p6 (ds ++ [.str "as", .str o]) H6 (Dr.same dr4 s6) (.tu hp6 ?_ ?_) ?_⟩⟩
      · rw [ln, sizeLine_eq]
        rcases R with ⟨rfl, ms, hm, hl, rfl⟩ | ⟨rfl, ps, hp, hl, rfl⟩ | ⟨hw, rfl⟩
        · simp only [List.length_cons, List.length_map, List.length_nil]
          omega
        · show 3 + 2 ≤ _
          omega
        · show 2 + 2 ≤ _
          omega
      · rcases ho6 with rfl | rfl | nn
        · exact np
        · exact m4
        · exact dr4.ne nn
      · exact VrA.app ((v53.same k4).same s6) (.cons (.txt _) (.cons (.txt _) .nil))
      · rcases R with ⟨rfl, ms, hm, hl, rfl⟩ | ⟨rfl, ps, hp, hl, rfl⟩ | ⟨hw, rfl⟩
        · exact absurd h1 (by decide +kernel)
        · exact .call n ps [("as" : Str), o] pn hp hl (.inr ⟨o, rfl, po⟩)
        · rcases List.mem_cons.mp hw with rfl | hw
          · exact .take n [("as" : Str), o] pn (.inr ⟨o, rfl, po⟩)
          rcases List.mem_cons.mp hw with rfl | hw
          · exact absurd h1 (by decide +kernel)
          · rw [List.mem_singleton.mp hw] at h1
            exact absurd h1 (by decide +kernel)
    case sA =>
      obtain ⟨ns, wd, n, o, p5, ds, x6, x7, S, R⟩ := hm
      have S0 := S
      obtain ⟨rfl, dr, pl, np, pn, po, ⟨xs, e5, v5⟩, rt⟩ := S
      obtain ⟨hw, rfl⟩ := R
      refine ⟨.str wd, rfl, rfl, _, rfl, ite2 (fun h1 => ?_) (fun h1 => ⟨ns, wd, n, o, p5, _, x6, x7, S0, .inr ⟨?_, rfl⟩⟩)⟩
      · have h1 : wd = "fetch" := by injection of_decide_eq_true h1
        subst h1
        obtain ⟨zs, hzs⟩ := dr.dr
        refine ⟨.ref pd, rfl, pd, zs, 5, rfl, hzs, by decide, fun r ys r0 r1 _ => ?_⟩
        obtain ⟨m, rfl⟩ := Int.eq_ofNat_of_zero_le r0
        have up : ∀ b ob, H2 b = some ob → b ≠ pd → upd H2 pd (.lst (ys.map V.int)) b = some ob := fun b ob e ne => by rw [upd_ne ne]; exact e
        refine ⟨(m : Int), rfl, by omega, by omega, for_range (n := m) (fun j σ H7 => ∃ (p5 : Addr) (ms : List Str) (x6 : Option V), DwS pd pp H Dn Q σ H7 ns "fetch" n o p5 (.str "fetch" :: .str n :: ms.map .str) x6 x7 ∧ ms.length = j ∧ ∀ m ∈ ms, Pn m)
          ⟨p5, [], x6, ⟨rfl, dr.draw ys, pl, np, pn, po, ⟨xs, up _ _ e5 np, v5.up up⟩, rt⟩, rfl, fun m hm => by cases hm⟩ ?_ ?_⟩
        · rintro j σ H7 hj ⟨p5, ms, x6, S, hl, hm⟩
          obtain ⟨rfl, dr, pl, np, pn, po, ⟨xs, e5, v5⟩, rt⟩ := S
          obtain ⟨zs, hzs⟩ := dr.dr
          refine ⟨.ref p5, rfl, .ref pp, rfl, .ref pd, rfl, pd, zs, 28, rfl, hzs, by decide, fun t ys t0 t1 _ => ?_⟩
          have up : ∀ b ob, H7 b = some ob → b ≠ pd → upd H7 pd (.lst (ys.map V.int)) b = some ob := fun b ob e ne => by rw [upd_ne ne]; exact e
          have dr3 := dr.draw ys
          have e53 := up _ _ e5 np
          have v53 := v5.up up
          generalize upd H7 pd (.lst (ys.map V.int)) = G3 at dr3 e53 v53
          obtain ⟨a, ha, pa⟩ := (pl.up dr3).get t0 t1
          refine ⟨pp, _, t, .str a, rfl, rfl, SqL.of (pl.up dr3).at_, ha, by show 1 ≤ sizeLine; decide, fun q4 n4 => ?_⟩
          have k4 : Same G3 (upd G3 q4 (.tup [V.str a])) := same_upd n4
          have m4 := dr3.ne n4
          have dr4 := dr3.new (o := .tup [V.str a]) n4
          have ln := v53.len
          refine ⟨p5, q4, _, _, rfl, rfl, k4 _ _ e53, upd_same, ?_, fun p6 H6 s6 hp6 ho6 => ⟨p6, ms ++ [a], _, ⟨rfl, Dr.same dr4 s6, pl, ?_, pn, po, ⟨_, hp6, ?_⟩, rt⟩, by rw [List.length_append, hl]; rfl, fun m hm' => ?_⟩⟩
          · rw [ln, sizeLine_eq]
            simp only [List.length_cons, List.length_map, List.length_nil]
            omega
          · rcases ho6 with rfl | rfl | nn
            · exact np
            · exact m4
            · exact dr4.ne nn
          · have z := VrA.app ((v53.same k4).same s6) (.cons (.txt a) .nil)
            rw [List.map_append]
            exact z
          · rcases List.mem_append.mp hm' with h | h
            · exact hm m h
            · rw [List.mem_singleton.mp h]
              exact pa
        · rintro σ H7 ⟨p5, ms, x6, S, hl, hm⟩
          exact ⟨ns, _, n, o, p5, _, x6, x7, S, .inl ⟨rfl, ms, hm, by omega, rfl⟩⟩
      · have h1 : wd ≠ "fetch" := fun e => h1 (decide_eq_true (by rw [e]))
        simp only [List.mem_cons, List.not_mem_nil, or_false] at hw ⊢
        rcases hw with e | e | e | e | e
        · exact .inl e
        · exact .inr (.inl e)
        · exact absurd e h1
        · exact .inr (.inr (.inl e))
        · exact .inr (.inr (.inr e))
    case sB =>
      obtain ⟨ns, wd, n, o, p5, ds, x6, x7, S, R⟩ := hm
      have S0 := S
      obtain ⟨rfl, dr, pl, np, pn, po, ⟨xs, e5, v5⟩, rt⟩ := S
      refine ⟨.str wd, rfl, rfl, _, rfl, ite2 (fun h1 => ?_) (fun h1 => ⟨ns, wd, n, o, p5, _, x6, x7, S0, ?_⟩)⟩
      · have h1 : wd = "call" := by injection of_decide_eq_true h1
        subst h1
        have eds : ds = [.str "call", .str n] := by
          rcases R with ⟨e, _⟩ | ⟨_, rfl⟩
          · exact absurd e (by decide +kernel)
          · rfl
        subst eds
        refine ⟨by show 0 ≤ sizeLine; omega, fun p7 n7 => ?_⟩
        have k0 : Same H2 (upd H2 p7 (.tup [])) := same_upd n7
        have m7 := dr.ne n7
        have dr1 := dr.new (o := .tup []) n7
        have e51 := k0 _ _ e5
        have v51 := v5.same k0
        have e71 : upd H2 p7 (.tup []) p7 = some (.tup []) := upd_same
        generalize upd H2 p7 (.tup []) = G1 at dr1 e51 v51 e71
        obtain ⟨zs, hzs⟩ := dr1.dr
        refine ⟨.ref pd, rfl, pd, zs, 5, rfl, hzs, by decide, fun r ys r0 r1 _ => ?_⟩
        obtain ⟨m, rfl⟩ := Int.eq_ofNat_of_zero_le r0
        have up : ∀ b ob, G1 b = some ob → b ≠ pd → upd G1 pd (.lst (ys.map V.int)) b = some ob := fun b ob e ne => by rw [upd_ne ne]; exact e
        refine ⟨(m : Int), rfl, by omega, by omega, for_range (n := m) (fun j σ H7 => ∃ (p7 : Addr) (ms : List Str) (x6 : Option V), DwS pd pp H Dn Q σ H7 ns "call" n o p5 [.str "call", .str n] x6 (some (.ref p7)) ∧ H7 p7 = some (.tup (ms.map V.str)) ∧ p7 ≠ pd ∧ ms.length = j ∧ ∀ m ∈ ms, Pn m)
          ⟨p7, [], x6, ⟨rfl, dr1.draw ys, pl, np, pn, po, ⟨xs, up _ _ e51 np, v51.up up⟩, rt⟩, up _ _ e71 m7, m7, rfl, fun m hm => by cases hm⟩ ?_ ?_⟩
        · rintro j σ H7 hj ⟨p7, ms, x6, S, e7, m7, hl, hm⟩
          obtain ⟨rfl, dr, pl, np, pn, po, ⟨xs, e5, v5⟩, rt⟩ := S
          obtain ⟨zs, hzs⟩ := dr.dr
          refine ⟨.ref p7, rfl, .ref pp, rfl, .ref pd, rfl, pd, zs, 28, rfl, hzs, by decide, fun t ys t0 t1 _ => ?_⟩
          have up : ∀ b ob, H7 b = some ob → b ≠ pd → upd H7 pd (.lst (ys.map V.int)) b = some ob := fun b ob e ne => by rw [upd_ne ne]; exact e
          have dr3 := dr.draw ys
          have e53 := up _ _ e5 np
          have v53 := v5.up up
          have e73 := up _ _ e7 m7
          generalize upd H7 pd (.lst (ys.map V.int)) = G3 at dr3 e53 v53 e73
          obtain ⟨a, ha, pa⟩ := (pl.up dr3).get t0 t1
          refine ⟨pp, _, t, .str a, rfl, rfl, SqL.of (pl.up dr3).at_, ha, by show 1 ≤ sizeLine; decide, fun q4 n4 => ?_⟩
          have k4 : Same G3 (upd G3 q4 (.tup [V.str a])) := same_upd n4
          have m4 := dr3.ne n4
          have dr4 := dr3.new (o := .tup [V.str a]) n4
          refine ⟨p7, q4, _, _, rfl, rfl, k4 _ _ e73, upd_same, ?_, fun p6 H6 s6 hp6 ho6 => ⟨p6, ms ++ [a], _, ⟨rfl, Dr.same dr4 s6, pl, np, pn, po, ⟨_, s6 _ _ (k4 _ _ e53), (v53.same k4).same s6⟩, rt⟩, ?_, ?_, by rw [List.length_append, hl]; rfl, fun m hm' => ?_⟩⟩
          · rw [List.length_map, sizeLine_eq]
            show _ + 1 ≤ _
            omega
          · rw [hp6, List.map_append]
            rfl
          · rcases ho6 with rfl | rfl | nn
            · exact m7
            · exact m4
            · exact dr4.ne nn
          · rcases List.mem_append.mp hm' with h | h
            · exact hm m h
            · rw [List.mem_singleton.mp h]
              exact pa
        · rintro σ H7 ⟨p7, ms, x6, S, e7, m7, hl, hm⟩
          obtain ⟨rfl, dr, pl, np, pn, po, ⟨xs, e5, v5⟩, rt⟩ := S
          refine ⟨.ref p5, rfl, .ref p7, rfl, by show 1 ≤ sizeLine; decide, fun q4 n4 => ?_⟩
          have k4 : Same H7 (upd H7 q4 (.tup [V.ref p7])) := same_upd n4
          have m4 := dr.ne n4
          have dr4 := dr.new (o := .tup [V.ref p7]) n4
          have ln := v5.len
          refine ⟨p5, q4, _, _, rfl, rfl, k4 _ _ e5, upd_same, by rw [ln, sizeLine_eq]; show 2 + 1 ≤ _; omega, fun p6 H6 s6 hp6 ho6 => ?_⟩
          refine ⟨ns, _, n, o, p6, [.str "call", .str n, .tuple (ms.map .str)], x6, _, ⟨rfl, Dr.same dr4 s6, pl, ?_, pn, po, ⟨_, hp6, ?_⟩, rt⟩, .inr (.inl ⟨rfl, ms, hm, by omega, rfl⟩)⟩
          · rcases ho6 with rfl | rfl | nn
            · exact np
            · exact m4
            · exact dr4.ne nn
          · exact VrA.app ((v5.same k4).same s6) (.cons (.tu (s6 _ _ (k4 _ _ e7)) m7 (VrA.strs ms)) .nil)
      · have h1 : wd ≠ "call" := fun e => h1 (decide_eq_true (by rw [e]))
        rcases R with ⟨e, ms, hm, hl, rfl⟩ | ⟨hw, rfl⟩
        · exact .inl ⟨e, ms, hm, hl, rfl⟩
        · refine .inr (.inr ⟨?_, rfl⟩)
          simp only [List.mem_cons, List.not_mem_nil, or_false] at hw ⊢
          rcases hw with e | e | e | e
          · exact .inl e
          · exact absurd e h1
          · exact .inr (.inl e)
          · exact .inr (.inr e)
    · refine ⟨by show 10 ≤ sizeLine; decide, fun q0 n0 => ?_⟩
      have dr0 := d0.new (o := .lst (DRAWN.map V.str)) n0
      have e0 : upd H q0 (.lst (DRAWN.map V.str)) q0 = some (.lst (DRAWN.map V.str)) := upd_same
      have m0 := d0.ne n0
      generalize upd H q0 (.lst (DRAWN.map V.str)) = G0 at dr0 e0
      obtain ⟨zs, hzs⟩ := dr0.dr
      refine ⟨.ref pd, rfl, pd, zs, 10, rfl, hzs, by decide, fun r ys r0 r1 _ => ?_⟩
      have dr1 := dr0.draw ys
      have e1 : upd G0 pd (.lst (ys.map V.int)) q0 = some (.lst (DRAWN.map V.str)) := by rw [upd_ne m0]; exact e0
      generalize upd G0 pd (.lst (ys.map V.int)) = G1 at dr1 e1
      obtain ⟨v, hv, hm⟩ := at_in (xs := DRAWN.map V.str) (n := 10) r0 r1 (by decide)
      obtain ⟨wd, hw, rfl⟩ := List.mem_map.mp hm
      refine ⟨q0, _, r, .str wd, rfl, rfl, SqL.of e1, hv, ?_⟩
      obtain ⟨zs2, hzs2⟩ := dr1.dr
      refine ⟨.ref pp, rfl, .ref pd, rfl, pd, zs2, 28, rfl, hzs2, by decide, fun r2 ys2 s0 s1 _ => ?_⟩
      have dr2 := dr1.draw ys2
      generalize upd G1 pd (.lst (ys2.map V.int)) = G2 at dr2
      obtain ⟨n, hn, pn⟩ := (pl.up dr2).get s0 s1
      refine ⟨pp, _, r2, .str n, rfl, rfl, SqL.of (pl.up dr2).at_, hn, ?_⟩
      obtain ⟨zs3, hzs3⟩ := dr2.dr
      refine ⟨.ref pp, rfl, .ref pd, rfl, pd, zs3, 28, rfl, hzs3, by decide, fun r3 ys3 t0 t1 _ => ?_⟩
      have dr3 := dr2.draw ys3
      generalize upd G2 pd (.lst (ys3.map V.int)) = G3 at dr3
      obtain ⟨o, ho, po⟩ := (pl.up dr3).get t0 t1
      refine ⟨pp, _, r3, .str o, rfl, rfl, SqL.of (pl.up dr3).at_, ho, .str wd, rfl, .str n, rfl, by show 2 ≤ sizeLine; decide, fun p5 n5 => ?_⟩
      have dr4 := dr3.new (o := .tup [V.str wd, V.str n]) n5
      have m5 := dr3.ne n5
      have e5 : upd G3 p5 (.tup [V.str wd, V.str n]) p5 = some (.tup [V.str wd, V.str n]) := upd_same
      generalize upd G3 p5 (.tup [V.str wd, V.str n]) = G4 at dr4 e5
      refine ⟨.str wd, rfl, rfl, _, rfl, ite2 (fun h1 => ?_) (fun h1 => ?_)⟩
      · refine ⟨by show 1 ≤ sizeLine; decide, fun q6 n6 => q _ q6 [.str "skip"] (dr4.new n6) (.tu upd_same (dr4.ne n6) (.cons (.txt _) .nil)) .skip⟩
      · have h1 : wd ≠ "skip" := fun e => h1 (decide_eq_true (by rw [e]))
        refine ⟨.str wd, rfl, by show 4 ≤ sizeLine; decide, fun q6 n6 => ?_⟩
        have k6 : Same G4 (upd G4 q6 (.lst ([("read" : Str), "write", "keep", "copy"].map V.str))) := same_upd n6
        have dr6 := dr4.new (o := .lst ([("read" : Str), "write", "keep", "copy"].map V.str)) n6
        have e56 := k6 _ _ e5
        refine ⟨q6, _, rfl, .inl (SqL.of upd_same), rfl, rfl, _, rfl, ?_⟩
        generalize upd G4 q6 (.lst ([("read" : Str), "write", "keep", "copy"].map V.str)) = G6 at dr6 e56
        show if inV (V.str wd) ([("read" : Str), "write", "keep", "copy"].map V.str) = true then _ else _
        rw [inV_mem]
        refine ite2 (fun h2 => ?_) (fun h2 => ⟨ns, wd, n, o, p5, [.str wd, .str n], none, none, ⟨rfl, dr6, pl, m5, pn, po, ⟨_, e56, .cons (.txt _) (.cons (.txt _) .nil)⟩, rfl⟩, ?_, rfl⟩)
        · have h2 := of_decide_eq_true h2
          refine ⟨.ref p5, rfl, .str o, rfl, by show 1 ≤ sizeLine; decide, fun q7 n7 => ?_⟩
          have k7 : Same G6 (upd G6 q7 (.tup [V.str o])) := same_upd n7
          have dr7 := dr6.new (o := .tup [V.str o]) n7
          refine ⟨p5, q7, _, _, rfl, rfl, k7 _ _ e56, upd_same, by rw [sizeLine_eq]; show 2 + 1 ≤ _; omega, fun p8 H8 s8 hp8 ho8 => q H8 p8 [.str wd, .str n, .str o] (Dr.same dr7 s8) (.tu hp8 ?_ (.cons (.txt _) (.cons (.txt _) (.cons (.txt _) .nil)))) (.three wd n o h2 pn po)⟩
          rcases ho8 with rfl | rfl | nn
          · exact m5
          · exact dr6.ne n7
          · exact dr7.ne nn
        · have h2 : wd ∉ [("read" : Str), "write", "keep", "copy"] := fun z => h2 (decide_eq_true z)
          unfold DRAWN at hw
          simp only [List.mem_cons, List.not_mem_nil, or_false, not_or] at hw h2 ⊢
          obtain ⟨a1, a2, a3, a4⟩ := h2
          rcases hw with e | e | e | e | e | e | e | e | e | e
          · exact .inl e
          · exact absurd e a1
          · exact .inr (.inl e)
          · exact .inr (.inr (.inl e))
          · exact absurd e a2
          · exact absurd e a4
          · exact absurd e a3
          · exact .inr (.inr (.inr (.inl e)))
          · exact .inr (.inr (.inr (.inr e)))
          · exact absurd e h1
end
end K10
namespace K10
open PySem PySem.Spec PyProof.Rows L2
abbrev sEdit : Stmt := top 31
theorem scEdit : FnScope ["_law_draws_here", "_law_pool_here", "_law_text_here", "_law_act", "_law_place", "_law_words", "_law_first", "_law_second", "_law_name", "_law_word"] ["_law_draws_here", "_law_pool_here", "_law_text_here"] (defScope sEdit) := ⟨rfl, rfl, rfl, by decide +kernel, rfl, by decide +kernel, by decide +kernel⟩
theorem wz_set {v old : Str} : ∀ {ws : List Str} {i : Nat}, ws[i]? = some old → wz (ws.set i v) + old.length = wz ws + v.length
  | w :: ws, 0, h => by
    cases h
    show wz (v :: ws) + _ = _
    rw [wz_cons, wz_cons]
    omega
  | w :: ws, i + 1, h => by
    have := wz_set (v := v) (ws := ws) (i := i) h
    show wz (w :: ws.set i v) + _ = _
    rw [wz_cons, wz_cons]
    omega
theorem wz_take (ws : List Str) (i : Nat) : wz (ws.take i) + wz (ws.drop i) = wz ws := by rw [← wz_app, List.take_append_drop]
theorem wz_erase : ∀ (ws : List Str) (i : Nat), wz (ws.eraseIdx i) ≤ wz ws
  | [], i => Nat.le_refl _
  | w :: ws, 0 => by
    show wz ws ≤ _
    rw [wz_cons]
    omega
  | w :: ws, i + 1 => by
    have := wz_erase ws i
    show wz (w :: ws.eraseIdx i) ≤ _
    rw [wz_cons, wz_cons]
    omega
theorem map_erase : ∀ (ws : List Str) (i : Nat), (ws.map V.str).eraseIdx i = (ws.eraseIdx i).map V.str
  | [], _ => rfl
  | _ :: _, 0 => rfl
  | w :: ws, i + 1 => by
    show V.str w :: (ws.map V.str).eraseIdx i = _
    rw [map_erase ws i]
    rfl
theorem map_set_str (ws : List Str) (i : Nat) (v : Str) : (ws.map V.str).set i (.str v) = (ws.set i v).map V.str := by rw [List.map_set]
theorem ixN_nat {n i : Nat} (h : i < n) : ixN n (i : Int) = some i := by
  unfold ixN
  rw [if_pos (by omega), if_pos (by omega)]
  rfl
theorem at_str {ws : List Str} {i : Nat} {v : Str} (h : ws[i]? = some v) : atI (ws.map V.str) (i : Int) = some (.str v) := atI_nat (by rw [List.getElem?_map, h]; rfl)
section
variable {P : Program} {w : World} {K : PySem.W.Frag} {mg : Str → Option Value} {base : Heap} {aR pd pp : Addr}
def spEdit (pd pp : Addr) : Sp := fun vs H Q _ => ∃ (ns : List Str) (x : Str), vs = [.ref pd, .ref pp, .str x] ∧ x.length ≤ 100000 ∧ Dr H H pd ∧ Pl pd pp H ns ∧ ∀ (H' : Hp) (y : Str), Dr H H' pd → y.length ≤ 2 * x.length + 20 → Q (.str y) H'
structure EdS (pd pp : Addr) (H0 : Hp) (Dn : Ends) (Q : VK) (k : Int) (σ : L2.St) (H : Hp) (ns : List Str) (x : Str) (act pl : Int) (pw : Addr) (f s : Nat) (nm w1 : Str) (ws : List Str) : Prop where
  st : σ = [some (.ref pd), some (.ref pp), some (.str x), some (.int act), some (.int pl), some (.ref pw), some (.int (f : Int)), some (.int (s : Int)), some (.str nm), some (.str w1)]
  dr : Dr H0 H pd
  pl_ : Pl pd pp H0 ns
  np : pw ≠ pd
  n0 : H0 pw = none
  at_ : H pw = some (.lst (ws.map V.str))
  b : wz ws ≤ 2 * (x.length + 1) + 16
  l : k ≤ act → ws = splitW x
  nl : nm.length ≤ 16
  f0 : (splitW x)[f]? = some w1
  s0 : s < (splitW x).length
  hx : x.length ≤ 100000
  rt : Dn.rt = Q
def tEd (pd pp : Addr) (H0 : Hp) (Q : VK) (ns : List Str) (x : Str) (k : Int) : TS := fun Dn σ H => ∃ act pl pw f s nm w1 ws, EdS pd pp H0 Dn Q k σ H ns x act pl pw f s nm w1 ws
theorem EdS.put {pd pp : Addr} {H0 : Hp} {Dn Dn' : Ends} {Q : VK} {k k' : Int} {σ : L2.St} {H H' : Hp} {ns : List Str} {x : Str} {act pl : Int} {pw : Addr} {f s : Nat} {nm w1 : Str} {ws ws' : List Str} (e : EdS pd pp H0 Dn Q k σ H ns x act pl pw f s nm w1 ws)
    (d : Dr H0 H' pd) (a : H' pw = some (.lst (ws'.map V.str))) (hb : wz ws' ≤ 2 * (x.length + 1) + 16) (hk : k' ≤ act → ws' = splitW x) (hr : Dn'.rt = Q) : EdS pd pp H0 Dn' Q k' σ H' ns x act pl pw f s nm w1 ws' :=
  ⟨e.st, d, e.pl_, e.np, e.n0, a, hb, hk, e.nl, e.f0, e.s0, e.hx, hr⟩
theorem Dr.put {H H' : Hp} {pd p : Addr} {o : HO} (d : Dr H H' pd) (n : H p = none) (np : p ≠ pd) : Dr H (upd H' p o) pd :=
  ⟨fun b x e nb => by rw [upd_ne (ne_of_none e n)]; exact d.but b x e nb, let ⟨ys, h⟩ := d.dr; ⟨ys, by rw [upd_ne np.symm]; exact h⟩⟩
theorem ok_edit {f fN : Addr} {fd fdN : FuncData} (F : FnP K "_law_edited" sEdit f fd) (FN : FnP K "_law_next" sNext fN fdN) (gN : mg "_law_next" = some (.ref fN)) (ml : mg "len" = none) (mi : mg "int" = none) :
    FnOk P w K mg base CX0 2 f fd ["_law_draws_here", "_law_pool_here", "_law_text_here"] (spEdit pd pp) := by
  have GN : FnOk P w K mg base CX0 1 fN fdN ["_law_draws_here", "_law_many"] spNext := ok_next FN ml mi
  have bN : Binds K fdN ["_law_draws_here", "_law_many"] [] := FN.bindsN fun _ _ _ _ _ _ us hl => match us, hl with | [_, _], _ => rfl
  refine F.ok scEdit (fun vs H Q E h => ?_) (fun cdv A outer s H vs Q E hr h => ?_)
  · obtain ⟨ns, x, rfl, _⟩ := h
    rfl
  · obtain ⟨ns, x, rfl, hx, d0, pl, q⟩ := h
    refine ⟨_, PSs.nox (pss_cons (ps_set (i := 3) scEdit.nd rfl (.inl rfl) (pe_call GN hr (by rfl) gN FN.kp bN .nil pass0 (pa_cons (pv 0) (pa_cons pe_int pa_nil))))
      (pss_cons (ps_set (i := 4) scEdit.nd rfl (.inl rfl) (pe_call GN hr (by rfl) gN FN.kp bN .nil pass0 (pa_cons (pv 0) (pa_cons (pe_op op_add (pe_callB call_len_str (by rfl) ml PySem.boot_len (pa_cons (pv 2) pa_nil)) pe_int) pa_nil))))
      (pss_cons (ps_set (i := 5) scEdit.nd rfl (.inl rfl) (pe_split (pv 2) pe_str))
      (pss_cons (ps_set (i := 6) scEdit.nd rfl (.inl rfl) (pe_call GN hr (by rfl) gN FN.kp bN .nil pass0 (pa_cons (pv 0) (pa_cons (pe_callB call_len_seq (by rfl) ml PySem.boot_len (pa_cons (pv 5) pa_nil)) pa_nil))))
      (pss_cons (ps_set (i := 7) scEdit.nd rfl (.inl rfl) (pe_call GN hr (by rfl) gN FN.kp bN .nil pass0 (pa_cons (pv 0) (pa_cons (pe_callB call_len_seq (by rfl) ml PySem.boot_len (pa_cons (pv 5) pa_nil)) pa_nil))))
      (pss_cons (ps_set (i := 8) scEdit.nd rfl (.inl rfl) (pe_ix ix_list (pv 1) (pe_call GN hr (by rfl) gN FN.kp bN .nil pass0 (pa_cons (pv 0) (pa_cons pe_int pa_nil))) (fun _ _ => rfl)))
      (pss_cons (ps_if (pt_cmpR op_eq (pv 3) pe_int (nomark _)) (pss_one (ps_ret (pe_op op_add_str (pe_op op_add_str (pe_slice sl_str (pv 2) po_none (po_some (pv 4))) (pe_ix ix_str pe_str (pe_call GN hr (by rfl) gN FN.kp bN .nil pass0 (pa_cons (pv 0) (pa_cons pe_int pa_nil))) (fun _ _ => rfl))) (pe_slice sl_str (pv 2) (po_some (pv 4)) po_none)))) pss_nil)
      (pss_cons (ps_if (pt_cmpR op_eq (pv 3) pe_int (nomark _)) (pss_one (ps_ret (pe_op op_add_str (pe_slice sl_str (pv 2) po_none (po_some (pv 4))) (pe_slice sl_str (pv 2) (po_some (pe_op op_add (pv 4) pe_int)) po_none)))) pss_nil)
      (pss_cons (ps_set (i := 9) scEdit.nd rfl (.inl rfl) (pe_ix ix_list (pv 5) (pv 6) (fun _ _ => rfl)))
      (imp (t' := tEd pd pp H Q ns x 2) (pss_cons (ps_if (pt_cmpR op_eq (pv 3) pe_int (nomark _)) (pss_cons (ps_asg (pe_ix ix_list (pv 5) (pv 7) (fun _ _ => rfl)) (pg_sub (pv 5) (pv 6) set_list (fun _ => rfl))) (pss_one (ps_asg (pv 9) (pg_sub (pv 5) (pv 7) set_list (fun _ => rfl))))) pss_nil)
      (imp (t' := tEd pd pp H Q ns x 3) (pss_cons (ps_if (pt_cmpR op_eq (pv 3) pe_int (nomark _)) (pss_one (ps_expr (pe_bm PySem.F.plainAttrs_list PySem.F.slot_list_insert PySem.F.type_list_insert mt_insert (pv 5) (pa_cons (pv 7) (pa_cons (pv 9) pa_nil))))) pss_nil)
      (imp (t' := tEd pd pp H Q ns x 4) (pss_cons (ps_if (pt_cmpR op_eq (pv 3) pe_int (nomark _)) (pss_one (ps_expr (pe_bm PySem.F.plainAttrs_list PySem.F.slot_list_pop PySem.F.type_list_pop mt_popAt (pv 5) (pa_cons (pv 6) pa_nil)))) pss_nil)
      (imp (t' := tEd pd pp H Q ns x 5) (pss_cons (ps_if (pt_cmpR op_eq (pv 3) pe_int (nomark _)) (pss_one (ps_asg (pe_ix ix_list (pe_lst (pa_cons pe_str (pa_cons (pv 8) (pa_cons pe_str (pa_cons pe_str (pa_cons pe_str (pa_cons pe_str (pa_cons pe_str (pa_cons pe_str (pa_cons pe_str pa_nil)))))))))) (pe_call GN hr (by rfl) gN FN.kp bN .nil pass0 (pa_cons (pv 0) (pa_cons pe_int pa_nil))) (fun _ _ => rfl)) (pg_sub (pv 5) (pv 6) set_list (fun _ => rfl)))) pss_nil)
      (imp (t' := tEd pd pp H Q ns x 6) (pss_one (ps_ret (pe_join pe_str (pv 5)))) (fun Dn σ H2 hm => ?s6))) (fun Dn σ H2 hm => ?s5))) (fun Dn σ H2 hm => ?s4))) (fun Dn σ H2 hm => ?s3))) (fun Dn σ H2 hm => ?s2))))))))))), ?_⟩
    case s6 =>
      obtain ⟨act, pl0, pw, f, s, nm, w1, ws, S⟩ := hm
      obtain ⟨rfl, dr, _, np, n0, at_, b, l, nl, f0, s0, hx, rt⟩ := S
      refine ⟨⟨_, rfl⟩, .ref pw, rfl, " ", pw, ws, rfl, rfl, .inl (SqL.of at_), ?_, ?_⟩
      · unfold wz at b
        show _ + ws.length * 1 ≤ _
        omega
      · rw [rt]
        refine q H2 _ dr ?_
        have := joinW_len ws
        show (joinW ws).length ≤ _
        omega
    case s5 =>
      obtain ⟨act, pl0, pw, f, s, nm, w1, ws, S⟩ := hm
      have S0 := S
      obtain ⟨rfl, dr, _, np, n0, at_, b, l, nl, f0, s0, hx, rt⟩ := S
      refine ⟨.int act, rfl, rfl, _, rfl, ite2 (fun h1 => ?_) (fun h1 => ⟨act, pl0, pw, f, s, nm, w1, ws, S0.put dr at_ b (fun z => l (by omega)) rt⟩)⟩
      have h1 : act = 5 := by injection of_decide_eq_true h1
      have ew := l (by omega)
      refine ⟨.str nm, rfl, by show 9 ≤ sizeLine; decide, fun q1 n1 => ?_⟩
      have k1 : Same H2 (upd H2 q1 (.lst [V.str "as", V.str nm, V.str "take", V.str "call", V.str "fetch", V.str "", V.str "copy", V.str "skip", V.str "do"])) := same_upd n1
      have e1 : upd H2 q1 (.lst [V.str "as", V.str nm, V.str "take", V.str "call", V.str "fetch", V.str "", V.str "copy", V.str "skip", V.str "do"]) q1 = some (.lst [V.str "as", V.str nm, V.str "take", V.str "call", V.str "fetch", V.str "", V.str "copy", V.str "skip", V.str "do"]) := upd_same
      have dr1 := dr.new (o := .lst [V.str "as", V.str nm, V.str "take", V.str "call", V.str "fetch", V.str "", V.str "copy", V.str "skip", V.str "do"]) n1
      have m1 := dr.ne n1
      have a1 := k1 _ _ at_
      generalize upd H2 q1 (.lst [V.str "as", V.str nm, V.str "take", V.str "call", V.str "fetch", V.str "", V.str "copy", V.str "skip", V.str "do"]) = G1 at dr1 e1 a1
      obtain ⟨zs, hzs⟩ := dr1.dr
      refine ⟨.ref pd, rfl, pd, zs, 9, rfl, hzs, by decide, fun r ys r0 r1 _ => ?_⟩
      have dr2 := dr1.draw ys
      have e2 : upd G1 pd (.lst (ys.map V.int)) q1 = some (.lst [V.str "as", V.str nm, V.str "take", V.str "call", V.str "fetch", V.str "", V.str "copy", V.str "skip", V.str "do"]) := by rw [upd_ne m1]; exact e1
      have a2 : upd G1 pd (.lst (ys.map V.int)) pw = some (.lst (ws.map V.str)) := by rw [upd_ne np]; exact a1
      generalize upd G1 pd (.lst (ys.map V.int)) = G2 at dr2 e2 a2
      obtain ⟨v, hv, hm⟩ := at_in (xs := [V.str "as", V.str nm, V.str "take", V.str "call", V.str "fetch", V.str "", V.str "copy", V.str "skip", V.str "do"]) (n := 9) r0 r1 (Nat.le_refl _)
      have hz : ∃ z : Str, v = .str z ∧ z.length ≤ 16 := by
        simp only [List.mem_cons, List.not_mem_nil, or_false] at hm
        rcases hm with rfl | rfl | rfl | rfl | rfl | rfl | rfl | rfl | rfl
        · exact ⟨_, rfl, by decide +kernel⟩
        · exact ⟨_, rfl, nl⟩
        all_goals exact ⟨_, rfl, by decide +kernel⟩
      obtain ⟨z, rfl, lz⟩ := hz
      have fl : f < ws.length := by
        rw [ew]
        exact (List.getElem?_eq_some_iff.mp f0).1
      refine ⟨q1, _, r, .str z, rfl, rfl, SqL.of e2, hv, .ref pw, rfl, .int (f : Int), rfl, pw, _, _, f, rfl, rfl, a2, ixN_nat (by rw [List.length_map]; exact fl), ?_⟩
      have wzs := wz_set (v := z) (old := w1) (ws := ws) (i := f) (by rw [ew]; exact f0)
      have wzx := splitW_wz x
      rw [ew] at wzs
      refine ⟨act, pl0, pw, f, s, nm, w1, ws.set f z, S0.put (dr2.put n0 np) (by rw [upd_same, map_set_str]) ?_ (fun h => by omega) rt⟩
      rw [ew]
      omega
    case s4 =>
      obtain ⟨act, pl0, pw, f, s, nm, w1, ws, S⟩ := hm
      have S0 := S
      obtain ⟨rfl, dr, _, np, n0, at_, b, l, nl, f0, s0, hx, rt⟩ := S
      refine ⟨.int act, rfl, rfl, _, rfl, ite2 (fun h1 => ?_) (fun h1 => ⟨act, pl0, pw, f, s, nm, w1, ws, S0.put dr at_ b (fun z => l (by omega)) rt⟩)⟩
      have h1 : act = 4 := by injection of_decide_eq_true h1
      have ew := l (by omega)
      have fl : f < ws.length := by
        rw [ew]
        exact (List.getElem?_eq_some_iff.mp f0).1
      have wzl := wz_len ws
      have be := wz_erase ws f
      refine ⟨.ref pw, rfl, .inl ⟨rfl, _, SqL.of at_⟩, .int (f : Int), rfl, pw, _, _, f, .str w1, rfl, rfl, at_, by omega, by omega, (ixN_seq (ixN_nat (by rw [List.length_map]; exact fl))).1, by rw [List.getElem?_map, ew, f0]; rfl, ?_⟩
      refine ⟨act, pl0, pw, f, s, nm, w1, ws.eraseIdx f, S0.put (dr.put n0 np) ?_ (by omega) (fun h => by omega) rt⟩
      rw [upd_same, map_erase]
    case s3 =>
      obtain ⟨act, pl0, pw, f, s, nm, w1, ws, S⟩ := hm
      have S0 := S
      obtain ⟨rfl, dr, _, np, n0, at_, b, l, nl, f0, s0, hx, rt⟩ := S
      refine ⟨.int act, rfl, rfl, _, rfl, ite2 (fun h1 => ?_) (fun h1 => ⟨act, pl0, pw, f, s, nm, w1, ws, S0.put dr at_ b (fun z => l (by omega)) rt⟩)⟩
      have h1 : act = 3 := by injection of_decide_eq_true h1
      have ew := l (by omega)
      have wzl := wz_len ws
      have wzx := splitW_wz x
      have w1l := wz_mem (List.mem_of_getElem? f0)
      refine ⟨.ref pw, rfl, .inl ⟨rfl, _, SqL.of at_⟩, .int (s : Int), rfl, .str w1, rfl, pw, _, _, _, rfl, rfl, at_, by rw [List.length_map, sizeLine_eq]; omega, by omega, by rw [ew] at wzl; omega, ?_⟩
      refine ⟨act, pl0, pw, f, s, nm, w1, ws.take s ++ [w1] ++ ws.drop s, S0.put (dr.put n0 np) ?_ ?_ (fun h => by omega) rt⟩
      · rw [upd_same, Int.toNat_natCast, List.map_append, List.map_append, List.map_take, List.map_drop]
        rfl
      · have := wz_take ws s
        rw [wz_app, wz_app]
        have e : wz [w1] = w1.length + 1 := by
          rw [wz_cons]
          rfl
        rw [e]
        rw [ew] at this ⊢
        omega
    case s2 =>
      obtain ⟨act, pl0, pw, f, s, nm, w1, ws, S⟩ := hm
      have S0 := S
      obtain ⟨rfl, dr, _, np, n0, at_, b, l, nl, f0, s0, hx, rt⟩ := S
      refine ⟨.int act, rfl, rfl, _, rfl, ite2 (fun h1 => ?_) (fun h1 => ⟨act, pl0, pw, f, s, nm, w1, ws, S0.put dr at_ b (fun z => l (by omega)) rt⟩)⟩
      have h1 : act = 2 := by injection of_decide_eq_true h1
      have ew := l (by omega)
      obtain ⟨w2, g2⟩ : ∃ w2, ws[s]? = some w2 := by
        rw [ew]
        exact ⟨_, List.getElem?_eq_getElem s0⟩
      have g1 : ws[f]? = some w1 := by rw [ew]; exact f0
      have fl : f < ws.length := (List.getElem?_eq_some_iff.mp g1).1
      have sl : s < ws.length := (List.getElem?_eq_some_iff.mp g2).1
      have g3 : (ws.set f w2)[s]? = some w2 := by
        by_cases e : f = s
        · rw [e, List.getElem?_set_self (by omega)]
        · rw [List.getElem?_set_ne e]
          exact g2
      have z1 := wz_set (v := w2) g1
      have z2 := wz_set (v := w1) g3
      have wzx := splitW_wz x
      refine ⟨.ref pw, rfl, .int (s : Int), rfl, pw, _, (s : Int), .str w2, rfl, rfl, SqL.of at_, at_str g2, .ref pw, rfl, .int (f : Int), rfl, pw, _, _, f, rfl, rfl, at_, ixN_nat (by rw [List.length_map]; exact fl), ?_⟩
      rw [map_set_str]
      refine ⟨.str w1, rfl, .ref pw, rfl, .int (s : Int), rfl, pw, _, _, s, rfl, rfl, upd_same, ixN_nat (by rw [List.length_map, List.length_set]; exact sl), ?_⟩
      rw [map_set_str]
      refine ⟨act, pl0, pw, f, s, nm, w1, (ws.set f w2).set s w1, S0.put ((dr.put n0 np).put n0 np) upd_same ?_ (fun h => by omega) rt⟩
      have ewz : wz ws = x.length + 1 := by rw [ew]; exact wzx
      omega
    · have wzx := splitW_wz x
      have wl := wz_len (splitW x)
      have wn := splitW_ne x
      have wp : 0 < (splitW x).length := List.length_pos_iff.mpr wn
      have xz : x.length ≤ sizeLine := by rw [sizeLine_eq]; omega
      obtain ⟨zs, hzs⟩ := d0.dr
      refine ⟨.ref pd, rfl, pd, zs, 6, rfl, hzs, by decide, fun act ys a0 a1 _ => ?_⟩
      have d1 := d0.draw ys
      generalize upd H pd (.lst (ys.map V.int)) = G1 at d1
      obtain ⟨zs1, hzs1⟩ := d1.dr
      refine ⟨.ref pd, rfl, .str x, rfl, x, rfl, xz, _, _, rfl, rfl, pd, zs1, _, rfl, hzs1, by omega, fun plc ys1 p0 p1 _ => ?_⟩
      have d2 := d1.draw ys1
      generalize upd G1 pd (.lst (ys1.map V.int)) = G2 at d2
      refine ⟨.str x, rfl, ⟨x, rfl⟩, x, " ", rfl, rfl, rfl, by rw [sizeLine_eq]; omega, fun pw nw => ?_⟩
      have d3 := d2.new (o := .lst ((splitW x).map V.str)) nw
      have mw := d2.ne nw
      have nw0 : H pw = none := by
        cases e : H pw with
        | none => rfl
        | some o =>
          rw [d2.but pw o e mw] at nw
          cases nw
      have e3 : upd G2 pw (.lst ((splitW x).map V.str)) pw = some (.lst ((splitW x).map V.str)) := upd_same
      show tSeq _ _ _ _ (upd G2 pw (.lst ((splitW x).map V.str)))
      generalize upd G2 pw (.lst ((splitW x).map V.str)) = G3 at d3 e3
      have lm : ((splitW x).map V.str).length = (splitW x).length := List.length_map _
      obtain ⟨zs3, hzs3⟩ := d3.dr
      refine ⟨.ref pd, rfl, .ref pw, rfl, pw, _, rfl, .inl (SqL.of e3), pd, zs3, _, rfl, hzs3, by rw [lm]; omega, fun f ys3 f0 f1 _ => ?_⟩
      rw [lm] at f1
      have d4 := d3.draw ys3
      have e4 : upd G3 pd (.lst (ys3.map V.int)) pw = some (.lst ((splitW x).map V.str)) := by rw [upd_ne mw]; exact e3
      generalize upd G3 pd (.lst (ys3.map V.int)) = G4 at d4 e4
      obtain ⟨zs4, hzs4⟩ := d4.dr
      refine ⟨.ref pd, rfl, .ref pw, rfl, pw, _, rfl, .inl (SqL.of e4), pd, zs4, _, rfl, hzs4, by rw [lm]; omega, fun sc ys4 s0 s1 _ => ?_⟩
      rw [lm] at s1
      have d5 := d4.draw ys4
      have e5 : upd G4 pd (.lst (ys4.map V.int)) pw = some (.lst ((splitW x).map V.str)) := by rw [upd_ne mw]; exact e4
      generalize upd G4 pd (.lst (ys4.map V.int)) = G5 at d5 e5
      obtain ⟨zs5, hzs5⟩ := d5.dr
      refine ⟨.ref pp, rfl, .ref pd, rfl, pd, zs5, 28, rfl, hzs5, by decide, fun r ys5 r0 r1 _ => ?_⟩
      have d6 := d5.draw ys5
      have e6 : upd G5 pd (.lst (ys5.map V.int)) pw = some (.lst ((splitW x).map V.str)) := by rw [upd_ne mw]; exact e5
      generalize upd G5 pd (.lst (ys5.map V.int)) = G6 at d6 e6
      obtain ⟨nm, hnm, pn⟩ := (pl.up d6).get r0 r1
      refine ⟨pp, _, r, .str nm, rfl, rfl, SqL.of (pl.up d6).at_, hnm, ?_⟩
      have cl := cutS_length x none (some plc)
      have cl2 := cutS_length x (some plc) none
      refine ⟨.int act, rfl, rfl, _, rfl, ite2 (fun h1 => ?_) (fun h1 => ?_)⟩
      · obtain ⟨zs6, hzs6⟩ := d6.dr
        refine ⟨.str x, rfl, .int plc, rfl, plc, rfl, x, rfl, xz, .ref pd, rfl, pd, zs6, 7, rfl, hzs6, by decide, fun t ys6 t0 t1 _ => ?_⟩
        obtain ⟨c, hc⟩ := at_cp (z := (" ,A-a0:" : Str)) (n := 7) t0 t1 (by decide +kernel)
        have l1 : (⟨#[c]⟩ : Str).length = 1 := rfl
        refine ⟨" ,A-a0:", t, c, rfl, rfl, by decide +kernel, hc, _, _, rfl, rfl, by rw [sizeLine_eq]; omega, .str x, rfl, .int plc, rfl, plc, rfl, x, rfl, xz, _, _, rfl, rfl, by rw [strLen_append, sizeLine_eq]; omega, q _ _ (d6.draw ys6) ?_⟩
        rw [strLen_append, strLen_append]
        omega
      refine ⟨.int act, rfl, rfl, _, rfl, ite2 (fun h2 => ?_) (fun h2 => ?_)⟩
      · have cl3 := cutS_length x (some (plc + 1)) none
        refine ⟨.str x, rfl, .int plc, rfl, plc, rfl, x, rfl, xz, .str x, rfl, .int plc, rfl, _, _, rfl, rfl, plc + 1, rfl, x, rfl, xz, _, _, rfl, rfl, by rw [sizeLine_eq]; omega, q _ _ d6 ?_⟩
        rw [strLen_append]
        omega
      obtain ⟨fn, rfl⟩ := Int.eq_ofNat_of_zero_le f0
      obtain ⟨sn, rfl⟩ := Int.eq_ofNat_of_zero_le s0
      have fl : fn < (splitW x).length := by omega
      refine ⟨.ref pw, rfl, .int (fn : Int), rfl, pw, _, _, .str (splitW x)[fn], rfl, rfl, SqL.of e6, at_str (List.getElem?_eq_getElem fl), ?_⟩
      exact ⟨act, plc, pw, fn, sn, nm, _, splitW x, ⟨rfl, d6, pl, mw, nw0, e6, by omega, fun _ => rfl, pn.len, List.getElem?_eq_getElem fl, by omega, hx, rfl⟩⟩
end
end K10
namespace K10
open PySem PySem.Spec PyProof.Rows L2
abbrev sValue : Stmt := top 32
theorem scValue : FnScope ["_law_draws_here", "_law_deed", "_law_name", "_law_odd"] ["_law_draws_here", "_law_deed", "_law_name"] (defScope sValue) := ⟨rfl, rfl, rfl, by decide +kernel, rfl, by decide +kernel, by decide +kernel⟩
/-- a part of a value: of little depth and size -/
structure Sp1 (k : Nat) (d : D) : Prop where
  lay : d.canLay0 = true
  dep : d.depth ≤ k
  li : Li d
  wz_ : wz (wordsOf [d]) ≤ 110
def Sps (k : Nat) (ds : List D) : Prop := ∀ d ∈ ds, Sp1 k d
theorem Sps.up {k l : Nat} {ds : List D} (h : Sps k ds) (hk : k ≤ l) : Sps l ds := fun d hd => ⟨(h d hd).lay, Nat.le_trans (h d hd).dep hk, (h d hd).li, (h d hd).wz_⟩
/-- a value that may be asked about -/
def VOk (d : D) : Prop := ∀ ds, d = .tuple ds → LiL ds ∧ SeqAt.shaped d = true ∧ wz (wordsOf ds) ≤ 800
theorem lay_all {k : Nat} : ∀ {ds : List D}, Sps k ds → PyData.canLayAll0 ds = true ∧ PyData.depthAll ds ≤ k
  | [], _ => ⟨rfl, Nat.zero_le _⟩
  | d :: ds, h => by
    obtain ⟨h1, h2⟩ := lay_all (ds := ds) fun e he => h e (List.mem_cons_of_mem _ he)
    have hd := h d List.mem_cons_self
    have h3 := hd.dep
    refine ⟨by rw [PyData.canLayAll0, hd.lay, h1]; rfl, ?_⟩
    simp only [PyData.depthAll]
    omega
theorem wz_all {k : Nat} : ∀ {ds : List D}, Sps k ds → wz (wordsOf ds) ≤ 110 * ds.length
  | [], _ => Nat.le_refl _
  | d :: ds, h => by
    have ih := wz_all (ds := ds) fun e he => h e (List.mem_cons_of_mem _ he)
    have hd := (h d List.mem_cons_self).wz_
    have e : wordsOf (d :: ds) = wordsOf [d] ++ wordsOf ds := wordsOf_app [d] ds
    rw [e, wz_app, List.length_cons]
    omega
theorem vok_of {ds : List D} (h : Sps 8 ds) (hl : ds.length ≤ 1000) (hw : wz (wordsOf ds) ≤ 800) : VOk (.tuple ds) := by
  intro es e
  injection e with e
  subst e
  obtain ⟨h1, h2⟩ := lay_all h
  refine ⟨⟨⟨by omega, fun d hd => (h d hd).li⟩, fun r x y e _ => .inr ?_⟩, ?_, hw⟩
  · have hx := h x (by rw [e]; simp)
    have := hx.dep
    unfold SeqAt.shaped
    rw [hx.lay]
    exact decide_eq_true (by omega)
  · unfold SeqAt.shaped
    rw [PyData.canLay0, h1]
    exact decide_eq_true (by rw [PyData.depth]; omega)
theorem sp_str {s : Str} (h : s.length ≤ 16) (ok : PyData.strOk s = true) : Sp1 3 (.str s) := by
  refine ⟨by rw [PyData.canLay0]; exact ok, by rw [PyData.depth]; omega, li_str (by omega), ?_⟩
  show wz [s] ≤ 110
  rw [wz_cons]
  show s.length + 1 + 0 ≤ 110
  omega
theorem pn_ok {s : Str} (h : Pn s) : PyData.strOk s = true := by
  show s.cps.all (· < 0x110000) = true
  rw [← Array.all_toList]
  exact List.all_eq_true.mpr fun c hc => decide_eq_true (by have := okc_lt (h.ok c hc); omega)
theorem sp_pn {s : Str} (h : Pn s) : Sp1 3 (.str s) := sp_str h.len (pn_ok h)
theorem sp_int (i : Int) : Sp1 3 (.int i) := ⟨by rw [PyData.canLay0], by rw [PyData.depth]; omega, ⟨fun s e => (by cases e), fun ps e => (by cases e)⟩, Nat.zero_le 110⟩
theorem sp_tup {ps : List Str} (h : ∀ m ∈ ps, Pn m) (hl : ps.length ≤ 4) : Sp1 3 (.tuple (ps.map .str)) := by
  have hs : Sps 3 (ps.map .str) := fun d hd => by
    obtain ⟨m, hm, rfl⟩ := List.mem_map.mp hd
    exact sp_pn (h m hm)
  obtain ⟨h1, _⟩ := lay_all hs
  have h2 := depth_strs ps
  have hz : ∀ qs : List Str, (∀ m ∈ qs, Pn m) → wz qs ≤ 17 * qs.length := by
    intro qs
    induction qs with
    | nil => intro _; exact Nat.le_refl _
    | cons q qs ih =>
      intro hq
      have := ih fun m hm => hq m (List.mem_cons_of_mem _ hm)
      have := (hq q List.mem_cons_self).len
      rw [wz_cons, List.length_cons]
      omega
  refine ⟨by rw [PyData.canLay0]; exact h1, by rw [PyData.depth]; omega, ⟨fun s e => (by cases e), fun qs e => ?_⟩, ?_⟩
  · injection e with e
    rw [← e]
    refine ⟨by rw [List.length_map]; omega, fun p hp => ?_⟩
    obtain ⟨m, hm, rfl⟩ := List.mem_map.mp hp
    have := (h m hm).len
    exact liS_str (by omega)
  · show wz ((ps.map PyData.str).map toStr ++ []) ≤ 110
    rw [toStr_map, List.append_nil]
    have := hz ps h
    omega
theorem drw_sp {ds : List D} (h : Drw ds) : Sps 3 ds ∧ ds.length ≤ 6 := by
  have kw : ∀ w ∈ [("skip" : Str), "make", "put", "read", "write", "keep", "copy", "fetch", "take", "call", "as"], Sp1 3 (.str w) := fun w hw => by
    have key : ∀ w ∈ [("skip" : Str), "make", "put", "read", "write", "keep", "copy", "fetch", "take", "call", "as"], w.length ≤ 16 ∧ PyData.strOk w = true := by decide +kernel
    exact sp_str (key w hw).1 (key w hw).2
  have tg : ∀ t, Tg t → Sps 3 (t.map .str) ∧ t.length ≤ 2 := fun t ht => by
    rcases ht with rfl | ⟨g, rfl, pg⟩
    · exact ⟨fun d hd => (by cases hd), Nat.zero_le _⟩
    · refine ⟨fun d hd => ?_, Nat.le_refl _⟩
      rcases List.mem_cons.mp hd with rfl | hd
      · exact kw _ (by decide +kernel)
      · rw [List.mem_singleton.mp hd]
        exact sp_pn pg
  have two : ∀ {a b : D} {r : List D}, Sp1 3 a → Sp1 3 b → Sps 3 r → Sps 3 (a :: b :: r) := fun ha hb hr d hd => by
    rcases List.mem_cons.mp hd with rfl | hd
    · exact ha
    rcases List.mem_cons.mp hd with rfl | hd
    · exact hb
    · exact hr d hd
  have non : Sps 3 [] := fun d hd => by cases hd
  cases h with
  | skip => exact ⟨fun d hd => by rw [List.mem_singleton.mp hd]; exact kw _ (by decide +kernel), by decide⟩
  | two w n hw pn =>
    refine ⟨two (kw w ?_) (sp_pn pn) non, by show 2 ≤ 6; decide⟩
    rcases hw with rfl | rfl <;> decide +kernel
  | three w n o hw pn po =>
    refine ⟨two (kw w ?_) (sp_pn pn) (fun d hd => by rw [List.mem_singleton.mp hd]; exact sp_pn po), by show 3 ≤ 6; decide⟩
    simp only [List.mem_cons, List.not_mem_nil, or_false] at hw ⊢
    rcases hw with e | e | e | e <;> simp [e]
  | fetch n ns pn hm hl =>
    refine ⟨two (kw _ (by decide +kernel)) (sp_pn pn) (fun d hd => ?_), by simp only [List.length_cons, List.length_map]; omega⟩
    obtain ⟨m, hm2, rfl⟩ := List.mem_map.mp hd
    exact sp_pn (hm m hm2)
  | take n t pn ht =>
    obtain ⟨h1, h2⟩ := tg t ht
    exact ⟨two (kw _ (by decide +kernel)) (sp_pn pn) h1, by simp only [List.length_cons, List.length_map]; omega⟩
  | call n ps t pn hm hl ht =>
    obtain ⟨h1, h2⟩ := tg t ht
    refine ⟨two (kw _ (by decide +kernel)) (sp_pn pn) (fun d hd => ?_), by simp only [List.length_cons, List.length_map]; omega⟩
    rcases List.mem_cons.mp hd with rfl | hd
    · exact sp_tup hm hl
    · exact h1 d hd
end K10
namespace K10
open PySem PySem.Spec PyProof.Rows L2
def Gv (pd : Addr) (H : Hp) (v : V) : Prop := ∃ d, Vr pd H v d ∧ VOk d
section
variable {pd a : Addr} {xs : List V} {ds : List D} {σ : L2.St}
/-- the deed stands -/
structure DsH (pd a : Addr) (xs : List V) (ds : List D) (H : Hp) : Prop where
  at_ : H a = some (.tup xs)
  vr : VrA pd H xs ds
  pd_ : ∃ o, H pd = some o
  np : a ≠ pd
theorem DsH.up {H H' : Hp} (h : DsH pd a xs ds H) (s : Same H H') : DsH pd a xs ds H' := ⟨s _ _ h.at_, h.vr.same s, let ⟨o, e⟩ := h.pd_; ⟨o, s _ _ e⟩, h.np⟩
def GT (pd a : Addr) (xs : List V) (ds : List D) (σ : L2.St) (te : TE) : Prop := ∀ (H : Hp) (Q : VK), DsH pd a xs ds H → (∀ v H', Same H H' → Gv pd H' v → Q v H') → te σ H Q
def GA (pd a : Addr) (xs : List V) (ds : List D) (σ : L2.St) (n : Nat) (ta : TA) : Prop := ∀ (H : Hp) (Q : List V → Hp → Prop), DsH pd a xs ds H → (∀ vs H', Same H H' → vs.length = n → (∀ v ∈ vs, Gv pd H' v) → Q vs H') → ta σ H Q
def GTu (pd a : Addr) (xs : List V) (ds : List D) (σ : L2.St) (te : TE) (es : List D) : Prop := ∀ (H : Hp) (Q : VK), DsH pd a xs ds H → (∀ p ys H', Same H H' → H' p = some (.tup ys) → VrA pd H' ys es → p ≠ pd → Q (.ref p) H') → te σ H Q
theorem Gv.same {H H' : Hp} {v : V} (s : Same H H') (g : Gv pd H v) : Gv pd H' v := let ⟨d, h, k⟩ := g; ⟨d, h.same s, k⟩
theorem GA.nil : GA pd a xs ds σ 0 tNil := fun H Q _ k => k [] H (Same.refl _) rfl fun v hv => by cases hv
theorem GA.cons {n : Nat} {te : TE} {ta : TA} (h : GT pd a xs ds σ te) (g : GA pd a xs ds σ n ta) : GA pd a xs ds σ (n + 1) (tCons te ta) := fun H Q hd k =>
  h H _ hd fun v H1 s1 gv => g H1 _ (hd.up s1) fun vs H2 s2 hl hv => k (v :: vs) H2 (s1.trans s2) (by rw [List.length_cons, hl]) fun u hu => by
    rcases List.mem_cons.mp hu with rfl | hu
    · exact gv.same s2
    · exact hv u hu
theorem GTu.gt {te : TE} {es : List D} (h : GTu pd a xs ds σ te es) (v : VOk (.tuple es)) : GT pd a xs ds σ te := fun H Q hd k => h H Q hd fun p ys H' s hp hv np => k _ H' s ⟨_, .tu hp np hv, v⟩
theorem GTu.cat {t1 t2 : TE} {e1 e2 : List D} (h1 : GTu pd a xs ds σ t1 e1) (h2 : GTu pd a xs ds σ t2 e2) (hl : e1.length + e2.length ≤ 1000) : GTu pd a xs ds σ (tOp rCatH t1 t2) (e1 ++ e2) := fun H Q hd k =>
  h1 H _ hd fun p ys H1 s1 hp hv np => h2 H1 _ (hd.up s1) fun q zs H2 s2 hq hw nq => by
    refine ⟨p, q, ys, zs, rfl, rfl, s2 _ _ hp, hq, by rw [hv.len, hw.len, sizeLine_eq]; omega, fun r H3 s3 hr ho => k r _ H3 ((s1.trans s2).trans s3) hr (VrA.app ((hv.same s2).same s3) (hw.same s3)) ?_⟩
    rcases ho with rfl | rfl | n
    · exact np
    · exact nq
    · exact not_pd ((hd.up s1).up s2).pd_ n
theorem GTu.sl {te : TE} {lo hi : Option Int} {es : List D} (h : ∀ H (Q : VK), H a = some (.tup xs) → (∀ p H', Same H H' → H' p = some (.tup (cutV xs lo hi)) → (p = a ∨ H p = none) → Q (.ref p) H') → te σ H Q)
    (hc : ∀ H, VrA pd H xs ds → VrA pd H (cutV xs lo hi) es) : GTu pd a xs ds σ te es := fun H Q hd k => h H Q hd.at_ fun p H' s hp ho => k p _ H' s hp (hc H' (hd.vr.same s)) (by
    rcases ho with rfl | n
    · exact hd.np
    · exact not_pd hd.pd_ n)
/-- a display of flat things -/
theorem GTu.flat {ta : TA} {vs : List V} {es : List D} (h : ∀ H (Q : List V → Hp → Prop), Q vs H → ta σ H Q) (hv : ∀ H, VrA pd H vs es) (hl : vs.length ≤ 1000) : GTu pd a xs ds σ (tTup ta) es := fun H Q hd k =>
  h H _ ⟨by rw [sizeLine_eq]; omega, fun p n => k p vs _ (same_upd n) upd_same (hv _) (not_pd hd.pd_ n)⟩
end
section
variable {pd a : Addr} {xs : List V} {ds : List D} {σ : L2.St} {nm : Str}
theorem i_var (h1 : σ[1]? = some (some (.ref a))) : GTu pd a xs ds σ (tVar 1) ds := fun H Q hd k => ⟨.ref a, h1, k a xs H (Same.refl _) hd.at_ hd.vr hd.np⟩
theorem i_from (h1 : σ[1]? = some (some (.ref a))) (n : Nat) : GTu pd a xs ds σ (tSl rSlH (tVar 1) (tPart (tC (.int (n : Nat)))) tNoPart) (ds.drop n) :=
  GTu.sl (lo := some (n : Nat)) (hi := none) (fun H Q e k => ⟨.ref a, h1, _, rfl, a, xs, rfl, e, k⟩) fun H v => by rw [cut_from]; exact v.drop n
theorem i_to (h1 : σ[1]? = some (some (.ref a))) (n : Nat) : GTu pd a xs ds σ (tSl rSlH (tVar 1) tNoPart (tPart (tC (.int (n : Nat))))) (ds.take n) :=
  GTu.sl (lo := none) (hi := some (n : Nat)) (fun H Q e k => ⟨.ref a, h1, _, rfl, a, xs, rfl, e, k⟩) fun H v => by rw [cut_to]; exact v.take n
theorem i_one {te : TE} {v : V} {d : D} (h : ∀ H (Q : VK), Q v H → te σ H Q) (hv : ∀ H, Vr pd H v d) : GTu pd a xs ds σ (tTup (tCons te tNil)) [d] :=
  GTu.flat (vs := [v]) (fun H Q q => h H _ q) (fun H => .cons (hv H) .nil) (by show 1 ≤ 1000; decide)
theorem i_two {te tf : TE} {v u : V} {d e : D} (h : ∀ H (Q : VK), Q v H → te σ H Q) (g : ∀ H (Q : VK), Q u H → tf σ H Q) (hv : ∀ H, Vr pd H v d) (hu : ∀ H, Vr pd H u e) : GTu pd a xs ds σ (tTup (tCons te (tCons tf tNil))) [d, e] :=
  GTu.flat (vs := [v, u]) (fun H Q q => h H _ (g H _ q)) (fun H => .cons (hv H) (.cons (hu H) .nil)) (by show 2 ≤ 1000; decide)
theorem r_c {v : V} : ∀ H (Q : VK), Q v H → tC v σ H Q := fun _ _ q => q
theorem r_v (h2 : σ[2]? = some (some (.str nm))) : ∀ H (Q : VK), Q (.str nm) H → tVar 2 σ H Q := fun _ _ q => ⟨_, h2, q⟩
end
section
variable {P : Program} {w : World} {K : PySem.W.Frag} {mg : Str → Option Value} {base : Heap} {aR pd : Addr}
theorem pn_wz : ∀ {qs : List Str}, (∀ m ∈ qs, Pn m) → wz qs ≤ 17 * qs.length
  | [], _ => Nat.le_refl _
  | q :: qs, h => by
    have ih := pn_wz (qs := qs) fun m hm => h m (List.mem_cons_of_mem _ hm)
    have := (h q List.mem_cons_self).len
    rw [wz_cons, List.length_cons]
    omega
theorem drw_wz {ds : List D} (h : Drw ds) : wz (wordsOf ds) ≤ 130 ∧ ∃ s r, ds = .str s :: r := by
  have kl : ∀ w ∈ [("make" : Str), "put", "read", "write", "keep", "copy", "as", "call", "take", "fetch"], w.length ≤ 5 := by decide +kernel
  have tg : ∀ t, Tg t → wz t ≤ 20 := fun t ht => by
    rcases ht with rfl | ⟨g, rfl, pg⟩
    · exact Nat.zero_le _
    · have := pg.len
      have := kl "as" (by decide +kernel)
      rw [wz_cons, wz_cons]
      show _ + (_ + 0) ≤ 20
      have l2 : ("as" : Str).length = 2 := by decide +kernel
      omega
  cases h with
  | skip => exact ⟨by decide +kernel, _, _, rfl⟩
  | two w n hw pn =>
    have := pn.len
    have : w.length ≤ 5 := by rcases hw with rfl | rfl <;> decide +kernel
    refine ⟨?_, _, _, rfl⟩
    show wz [w, n] ≤ 130
    rw [wz_cons, wz_cons]
    show _ + (_ + 0) ≤ 130
    omega
  | three w n o hw pn po =>
    have := pn.len
    have := po.len
    have : w.length ≤ 5 := by
      simp only [List.mem_cons, List.not_mem_nil, or_false] at hw
      rcases hw with rfl | rfl | rfl | rfl <;> decide +kernel
    refine ⟨?_, _, _, rfl⟩
    show wz [w, n, o] ≤ 130
    rw [wz_cons, wz_cons, wz_cons]
    show _ + (_ + (_ + 0)) ≤ 130
    omega
  | fetch n ns pn hm hl =>
    have := pn.len
    have := pn_wz hm
    have := kl "fetch" (by decide +kernel)
    refine ⟨?_, _, _, rfl⟩
    show wz ("fetch" :: n :: wordsOf (ns.map .str)) ≤ 130
    rw [wordsOf_strs, wz_cons, wz_cons]
    omega
  | take n t pn ht =>
    have := pn.len
    have := tg t ht
    have := kl "take" (by decide +kernel)
    refine ⟨?_, _, _, rfl⟩
    show wz ("take" :: n :: wordsOf (t.map .str)) ≤ 130
    rw [wordsOf_strs, wz_cons, wz_cons]
    omega
  | call n ps t pn hm hl ht =>
    have := pn.len
    have := pn_wz hm
    have := tg t ht
    have := kl "call" (by decide +kernel)
    refine ⟨?_, _, _, rfl⟩
    show wz ("call" :: n :: ((ps.map PyData.str).map toStr ++ wordsOf (t.map .str))) ≤ 130
    rw [wordsOf_strs, toStr_map, wz_cons, wz_cons, wz_app]
    omega
/-- good parts, of size at most B -/
def Gd (B : Nat) (es : List D) : Prop := Sps 8 es ∧ es.length ≤ B ∧ wz (wordsOf es) ≤ B
theorem Gd.app {B C : Nat} {e1 e2 : List D} (g : Gd B e1) (h : Gd C e2) : Gd (B + C) (e1 ++ e2) := by
  refine ⟨fun d hd => ?_, by rw [List.length_append]; exact Nat.add_le_add g.2.1 h.2.1, by rw [wordsOf_app, wz_app]; exact Nat.add_le_add g.2.2 h.2.2⟩
  rcases List.mem_append.mp hd with hd | hd
  · exact g.1 d hd
  · exact h.1 d hd
theorem Gd.take {B : Nat} {es : List D} (g : Gd B es) (n : Nat) : Gd B (es.take n) := by
  refine ⟨fun d hd => g.1 d (List.mem_of_mem_take hd), by rw [List.length_take]; have := g.2.1; omega, Nat.le_trans (take_words n) g.2.2⟩
theorem Gd.drop {B : Nat} {es : List D} (g : Gd B es) (n : Nat) : Gd B (es.drop n) := by
  refine ⟨fun d hd => g.1 d (List.mem_of_mem_drop hd), by rw [List.length_drop]; have := g.2.1; omega, ?_⟩
  have e : wordsOf es = wordsOf (es.take n) ++ wordsOf (es.drop n) := by rw [← wordsOf_app, List.take_append_drop]
  have h := g.2.2
  rw [e, wz_app] at h
  omega
theorem Gd.ok {B : Nat} {es : List D} (g : Gd B es) (h : B ≤ 800) : VOk (.tuple es) := vok_of g.1 (by have := g.2.1; omega) (by have := g.2.2; omega)
theorem gd_one {d : D} (h : Sp1 8 d) : Gd 110 [d] := ⟨fun e he => by rw [List.mem_singleton.mp he]; exact h, by show 1 ≤ 110; decide, h.wz_⟩
theorem gd_drw {ds : List D} (h : Drw ds) : Gd 130 ds := ⟨(drw_sp h).1.up (by decide), by have := (drw_sp h).2; omega, (drw_wz h).1⟩
theorem cut_last (xs : List V) : cutV xs none (some (-1)) = xs.take (xs.length - 1) := by
  unfold cutV
  have e1 : HT.sIx xs.length 0 none = 0 := rfl
  have e2 : HT.sIx xs.length xs.length (some (-1)) = xs.length - 1 := by
    unfold HT.sIx
    simp only
    rw [if_pos (by decide)]
    omega
  rw [e1, e2, List.drop_zero, Nat.sub_zero]
def spValue (pd : Addr) : Sp := fun vs H Q _ => ∃ (a : Addr) (nm : Str) (xs : List V) (ds : List D), vs = [.ref pd, .ref a, .str nm] ∧ Pn nm ∧ Drw ds ∧ Dr H H pd ∧ DsH pd a xs ds H ∧ ∀ (H' : Hp) (v : V), Dr H H' pd → Gv pd H' v → Q v H'
theorem wz_toStr : ∀ {ds : List D}, Sps 3 ds → wz (ds.map toStr) ≤ 111 * ds.length
  | [], _ => Nat.le_refl _
  | d :: ds, h => by
    have ih := wz_toStr (ds := ds) fun e he => h e (List.mem_cons_of_mem _ he)
    have hd := (h d List.mem_cons_self).wz_
    have : (toStr d).length ≤ 110 := by
      cases d with
      | str s =>
        have hd : wz [s] ≤ 110 := hd
        rw [wz_cons] at hd
        show s.length ≤ 110
        omega
      | _ => exact Nat.zero_le _
    rw [List.map_cons, wz_cons, List.length_cons]
    omega
theorem vok_tup {ds : List D} (h : Sps 3 ds) (hl : ds.length ≤ 6) : VOk (.tuple [.tuple ds]) := by
  intro es e
  injection e with e
  subst e
  obtain ⟨h1, h2⟩ := lay_all h
  have hz := wz_toStr h
  have li : Li (.tuple ds) := ⟨fun s e => (by cases e), fun ps e => by
    injection e with e
    rw [← e]
    exact ⟨by omega, fun p hp => (h p hp).li.1⟩⟩
  refine ⟨⟨⟨by show 1 ≤ 1000; decide, fun d hd => by rw [List.mem_singleton.mp hd]; exact li⟩, fun r x y e hr => ?_⟩, ?_, ?_⟩
  · have := congrArg List.length e
    rw [List.length_append] at this
    have : 1 = r.length + 2 := this
    omega
  · unfold SeqAt.shaped
    rw [PyData.canLay0, PyData.canLayAll0, PyData.canLay0, h1]
    exact decide_eq_true (by simp only [PyData.depth, PyData.depthAll]; omega)
  · show wz (ds.map toStr ++ []) ≤ 800
    rw [List.append_nil]
    omega
section
variable {a : Addr} {xs : List V} {ds : List D} {σ : L2.St}
theorem set_lst {i n : Nat} {ta : TA} {u : TS} {Dn : Ends} {H : Hp} (A : GA pd a xs ds σ n ta) (hn : n ≤ 1000) (hD : DsH pd a xs ds H)
    (k : ∀ (vs : List V) (p : Addr) (H' : Hp), Same H H' → p ≠ pd → H' p = some (.lst vs) → vs.length = n → (∀ v ∈ vs, Gv pd H' v) → u Dn (σ.set i (some (.ref p))) H') :
    tSeq (tAsg (tLst ta) (gName i)) u Dn σ H :=
  A H _ hD fun vs H1 s1 hl hv => ⟨by rw [hl, sizeLine_eq]; omega, fun p np => k vs p _ (s1.trans (same_upd np)) (not_pd (hD.up s1).pd_ np) upd_same hl fun v hm => (hv v hm).same (same_upd np)⟩
theorem set_cat {i j n m : Nat} {ta : TA} {u : TS} {Dn : Ends} {H : Hp} {l : Addr} {us : List V} (A : GA pd a xs ds σ n ta) (hn : n ≤ 1000) (hm : m ≤ 1000) (hD : DsH pd a xs ds H) (hj : σ[j]? = some (some (.ref l))) (hl : H l = some (.lst us)) (lm : us.length = m) (gu : ∀ v ∈ us, Gv pd H v)
    (k : ∀ (vs : List V) (p : Addr) (H' : Hp), Same H H' → p ≠ pd → H' p = some (.lst vs) → vs.length = m + n → (∀ v ∈ vs, Gv pd H' v) → u Dn (σ.set i (some (.ref p))) H') :
    tSeq (tAsg (tOp rCat (tVar j) (tLst ta)) (gName i)) u Dn σ H :=
  ⟨.ref l, hj, A H _ hD fun vs H1 s1 hl1 hv => ⟨by rw [hl1, sizeLine_eq]; omega, fun q nq => ⟨l, q, us, vs, rfl, rfl, (same_upd nq) _ _ (s1 _ _ hl), upd_same, by rw [hl1, lm, sizeLine_eq]; omega, fun p np => by
    have s2 : Same H1 (upd H1 q (.lst vs)) := same_upd nq
    have s3 : Same (upd H1 q (.lst vs)) (upd (upd H1 q (.lst vs)) p (.lst (us ++ vs))) := same_upd np
    refine k (us ++ vs) p _ ((s1.trans s2).trans s3) (not_pd ((hD.up s1).up s2).pd_ np) upd_same (by rw [List.length_append, hl1, lm]) fun v hm2 => ?_
    rcases List.mem_append.mp hm2 with h | h
    · exact (gu v h).same ((s1.trans s2).trans s3)
    · exact (hv v h).same (s2.trans s3)⟩⟩⟩
theorem i_oneG {te : TE} {d : D} (h : ∀ (H : Hp) (Q : VK), DsH pd a xs ds H → (∀ v H', Same H H' → Vr pd H' v d → Q v H') → te σ H Q) : GTu pd a xs ds σ (tTup (tCons te tNil)) [d] := fun H Q hd k =>
  h H _ hd fun v H1 s1 hv => ⟨by show 1 ≤ sizeLine; decide, fun p np => k p [v] _ (s1.trans (same_upd np)) upd_same (.cons (hv.same (same_upd np)) .nil) (not_pd (hd.up s1).pd_ np)⟩
theorem sp_list {es : List D} (h : Sps 3 es) : Sp1 8 (.list es) := by
  obtain ⟨h1, h2⟩ := lay_all h
  exact ⟨by rw [PyData.canLay0]; exact h1, by rw [PyData.depth]; omega, ⟨fun s e => (by cases e), fun qs e => (by cases e)⟩, Nat.zero_le 110⟩
/-- a written index -/
theorem i_from' {σ : L2.St} (h1 : σ[1]? = some (some (.ref a))) {n : Nat} {i : Int} (e : i = (n : Nat)) : GTu pd a xs ds σ (tSl rSlH (tVar 1) (tPart (tC (.int i))) tNoPart) (ds.drop n) := by
  subst e
  exact i_from h1 n
theorem i_to' {σ : L2.St} (h1 : σ[1]? = some (some (.ref a))) {n : Nat} {i : Int} (e : i = (n : Nat)) : GTu pd a xs ds σ (tSl rSlH (tVar 1) tNoPart (tPart (tC (.int i)))) (ds.take n) := by
  subst e
  exact i_to h1 n
end
theorem ok_value {f fN : Addr} {fd fdN : FuncData} (F : FnP K "_law_value" sValue f fd) (FN : FnP K "_law_next" sNext fN fdN) (gN : mg "_law_next" = some (.ref fN)) (ml : mg "len" = none) (mi : mg "int" = none) (mk : mg "list" = none) :
    FnOk P w K mg base CX0 2 f fd ["_law_draws_here", "_law_deed", "_law_name"] (spValue pd) := by
  have GN : FnOk P w K mg base CX0 1 fN fdN ["_law_draws_here", "_law_many"] spNext := ok_next FN ml mi
  have bN : Binds K fdN ["_law_draws_here", "_law_many"] [] := FN.bindsN fun _ _ _ _ _ _ us hl => match us, hl with | [_, _], _ => rfl
  refine F.ok scValue (fun vs H Q E h => ?_) (fun cdv A outer s H vs Q E hr h => ?_)
  · obtain ⟨a, nm, xs, ds, rfl, _⟩ := h
    rfl
  · obtain ⟨a, nm, xs, ds, rfl, pn, dw, d0, hD, q⟩ := h
    refine ⟨_, PSs.nox (pss_cons (ps_set (i := 3) scValue.nd rfl (.inl rfl) (pe_lst (pa_cons (pv 1) (pa_cons (pe_callTy call_list_of (by rfl) mk (by decide +kernel) (pa_cons (pv 1) pa_nil)) (pa_cons (pe_op op_catH (pv 1) (pe_tup (pa_cons (pv 2) pa_nil)))
        (pa_cons (pe_slice (r := rSlH) sl_tupH (pv 1) po_none (po_some (pe_un un_neg pe_int))) (pa_cons (pe_op op_catH (pv 1) (pe_tup (pa_cons pe_str (pa_cons (pv 2) pa_nil)))) (pa_cons (pe_tup (pa_cons (pe_ix ix_tup (pv 1) pe_int (fun _ _ => rfl)) pa_nil))
        (pa_cons pe_non (pa_cons (pe_ix ix_tup (pv 1) pe_int (fun _ _ => rfl)) (pa_cons (pe_tup pa_nil) (pa_cons (pe_tup (pa_cons (pv 1) pa_nil)) pa_nil))))))))))))
      (pss_cons (ps_set (i := 3) scValue.nd rfl (.inl rfl) (pe_op op_cat (pv 3) (pe_lst (pa_cons (pe_op op_catH (pe_tup (pa_cons pe_str pa_nil)) (pe_slice (r := rSlH) sl_tupH (pv 1) (po_some pe_int) po_none)) (pa_cons (pe_op op_catH (pe_tup (pa_cons pe_int pa_nil)) (pe_slice (r := rSlH) sl_tupH (pv 1) (po_some pe_int) po_none))
        (pa_cons (pe_op op_catH (pe_op op_catH (pe_slice (r := rSlH) sl_tupH (pv 1) po_none (po_some pe_int)) (pe_tup (pa_cons pe_str pa_nil))) (pe_slice (r := rSlH) sl_tupH (pv 1) (po_some pe_int) po_none)) (pa_cons (pe_op op_catH (pe_op op_catH (pe_slice (r := rSlH) sl_tupH (pv 1) po_none (po_some pe_int)) (pe_tup (pa_cons pe_int pa_nil))) (pe_slice (r := rSlH) sl_tupH (pv 1) (po_some pe_int) po_none)) pa_nil)))))))
      (pss_cons (ps_set (i := 3) scValue.nd rfl (.inl rfl) (pe_op op_cat (pv 3) (pe_lst (pa_cons (pe_op op_catH (pe_slice (r := rSlH) sl_tupH (pv 1) po_none (po_some pe_int)) (pe_tup (pa_cons (pe_callTy call_list_of (by rfl) mk (by decide +kernel) (pa_cons (pe_slice (r := rSlH) sl_tupH (pv 1) (po_some pe_int) po_none) pa_nil)) pa_nil)))
        (pa_cons (pe_op op_catH (pe_op op_catH (pe_slice (r := rSlH) sl_tupH (pv 1) po_none (po_some pe_int)) (pe_tup (pa_cons (pe_tup (pa_cons (pv 2) pa_nil)) pa_nil))) (pe_slice (r := rSlH) sl_tupH (pv 1) (po_some pe_int) po_none)) (pa_cons (pe_op op_catH (pv 1) (pe_tup (pa_cons pe_str (pa_cons pe_str pa_nil)))) (pa_cons (pe_op op_catH (pv 1) (pe_tup (pa_cons pe_str pa_nil))) pa_nil)))))))
      (pss_one (ps_ret (pe_ix ix_list (pv 3) (pe_call GN hr (by rfl) gN FN.kp bN .nil pass0 (pa_cons (pv 0) (pa_cons pe_int pa_nil))) (fun _ _ => rfl))))))), ?_⟩
    have g0 := gd_drw dw
    obtain ⟨s0, r0, e0⟩ := (drw_wz dw).2
    have sn := sp_pn pn
    have up8 : ∀ {d : D}, Sp1 3 d → Sp1 8 d := fun h => ⟨h.lay, Nat.le_trans h.dep (by decide), h.li, h.wz_⟩
    have gn := gd_one (up8 sn)
    have kw : ∀ w ∈ [("as" : Str), "fly", "do"], Sp1 8 (.str w) := fun w hw => by
      have key : ∀ w ∈ [("as" : Str), "fly", "do"], w.length ≤ 16 ∧ PyData.strOk w = true := by decide +kernel
      exact up8 (sp_str (key w hw).1 (key w hw).2)
    have gi : ∀ i : Int, Gd 110 [PyData.int i] := fun i => gd_one (up8 (sp_int i))
    have gk : ∀ w ∈ [("as" : Str), "fly", "do"], Gd 110 [PyData.str w] := fun w hw => gd_one (kw w hw)
    have l0 : ds.length ≤ 6 := (drw_sp dw).2
    have st0 : ∃ u us, xs = u :: us := by
      cases xs with
      | nil =>
        have := hD.vr.len
        rw [e0] at this
        cases this
      | cons u us => exact ⟨u, us, rfl⟩
    obtain ⟨u0, us, ex⟩ := st0
    have v0 : ∀ {G : Hp}, DsH pd a xs ds G → u0 = .str s0 := fun hd => by
      have z := hd.vr
      rw [ex, e0] at z
      cases z with
      | cons z1 z2 =>
        cases z1
        rfl
    have nt : ∀ {d : D}, (∀ es, d ≠ .tuple es) → VOk d := fun h es e => absurd e (h es)
    have i_ls : ∀ {σ : L2.St}, σ[1]? = some (some (.ref a)) → GT pd a xs ds σ (tCB (fun xs H Q => ∃ p ys, xs = [.ref p] ∧ (SqL K H p ys ∨ SqT K H p ys) ∧ ∀ l, H l = none → Q (.ref l) (upd H l (.lst ys))) (tCons (tVar 1) tNil)) := fun h1 H Q hd k =>
      ⟨.ref a, h1, a, xs, rfl, .inr (SqT.of hd.at_), fun l nl => k _ _ (same_upd nl) ⟨.list ds, .li upd_same (not_pd hd.pd_ nl) (hd.vr.same (same_upd nl)), nt fun es e => by cases e⟩⟩
    have nd : VOk .none := nt fun es e => by cases e
    have hd0 : ∀ {σ : L2.St}, σ[1]? = some (some (.ref a)) → ∀ (H : Hp) (Q : VK), DsH pd a xs ds H → Q (.str s0) H → tOp (rIxT K) (tVar 1) (tC (.int 0)) σ H Q := fun h1 H Q hd q => ⟨.ref a, h1, a, xs, 0, .str s0, rfl, rfl, SqT.of hd.at_, by rw [ex, v0 hd]; exact at0 _ _, q⟩
    have sp0 : Sp1 3 (.str s0) := (drw_sp dw).1 _ (by rw [e0]; exact List.mem_cons_self)
    have h1 : (L2.start [("_law_draws_here" : Str), "_law_deed", "_law_name", "_law_odd"] [.ref pd, .ref a, .str nm])[1]? = some (some (.ref a)) := rfl
    have h2 : (L2.start [("_law_draws_here" : Str), "_law_deed", "_law_name", "_law_odd"] [.ref pd, .ref a, .str nm])[2]? = some (some (.str nm)) := rfl
    have ls : ∀ n, (ds.drop n).length ≤ 6 := fun n => by rw [List.length_drop]; omega
    have lt : ∀ n, (ds.take n).length ≤ 6 := fun n => by rw [List.length_take]; omega
    have A1 := GA.cons ((i_var (pd := pd) (xs := xs) (ds := ds) h1).gt (g0.ok (by decide))) (GA.cons (i_ls h1) (GA.cons (((i_var h1).cat (i_one (r_v h2) fun _ => .txt nm) (by show _ + 1 ≤ 1000; omega)).gt ((g0.app gn).ok (by decide)))
      (GA.cons ((GTu.sl (te := tSl rSlH (tVar 1) tNoPart (tPart (tUn (rU fun i => V.int (-i)) (tC (.int 1))))) (lo := none) (hi := some (-1)) (es := ds.take (ds.length - 1)) (fun H Q e k => ⟨.ref a, h1, 1, rfl, -1, rfl, a, xs, rfl, e, k⟩) (fun H v => by rw [cut_last, v.len]; exact v.take _)).gt ((g0.take _).ok (by decide)))
      (GA.cons (((i_var h1).cat (i_two (v := .str "as") r_c (r_v h2) (fun _ => .txt _) fun _ => .txt nm) (by show _ + 2 ≤ 1000; omega)).gt ((g0.app ((gk "as" (by decide +kernel)).app gn)).ok (by decide)))
      (GA.cons (te := tTup (tCons (tOp (rIxT K) (tVar 1) (tC (.int 0))) tNil)) (fun H Q hd k => hd0 h1 H _ hd ⟨by show 1 ≤ sizeLine; decide, fun p np => k _ _ (same_upd np) ⟨.tuple [.str s0], .tu upd_same (not_pd hd.pd_ np) (.cons (.txt _) .nil), (gd_one (up8 sp0)).ok (by decide)⟩⟩)
      (GA.cons (te := tC .non) (fun H Q hd k => k .non H (Same.refl _) ⟨.none, .no, nd⟩)
      (GA.cons (te := tOp (rIxT K) (tVar 1) (tC (.int 0))) (fun H Q hd k => hd0 h1 H _ hd (k _ H (Same.refl _) ⟨.str s0, .txt _, nt fun es e => by cases e⟩))
      (GA.cons ((GTu.flat (ta := tNil) (vs := []) (es := []) (fun H Q q => q) (fun _ => .nil) (Nat.zero_le _)).gt (vok_of (fun d hd => by cases hd) (Nat.zero_le _) (Nat.zero_le _)))
      (GA.cons (te := tTup (tCons (tVar 1) tNil)) (fun H Q hd k => ⟨.ref a, h1, by show 1 ≤ sizeLine; decide, fun p np => k _ _ (same_upd np) ⟨.tuple [.tuple ds], .tu upd_same (not_pd hd.pd_ np) (.cons (.tu ((same_upd np) _ _ hd.at_) hd.np (hd.vr.same (same_upd np))) .nil), vok_tup (drw_sp dw).1 l0⟩⟩) GA.nil)))))))))
    refine set_lst (i := 3) A1 (by decide) hD fun vs1 p1 H1 s1 m1 e1 l1 g1 => ?_
    have hD1 := hD.up s1
    change tSeq _ _ _ [some (V.ref pd), some (V.ref a), some (V.str nm), some (V.ref p1)] H1
    have h12 : ([some (V.ref pd), some (V.ref a), some (V.str nm), some (V.ref p1)] : L2.St)[1]? = some (some (.ref a)) := rfl
    have A2 := GA.cons (((i_one (v := .str "fly") (d := .str "fly") r_c fun _ => .txt _).cat (i_from' (pd := pd) (xs := xs) (ds := ds) (n := 1) h12 rfl) (by have := ls 1; show 1 + _ ≤ 1000; omega)).gt (((gk "fly" (by decide +kernel)).app (g0.drop 1)).ok (by decide)))
      (GA.cons (((i_one (v := .int 5) (d := .int 5) r_c fun _ => .num _).cat (i_from' (n := 1) h12 rfl) (by have := ls 1; show 1 + _ ≤ 1000; omega)).gt (((gi 5).app (g0.drop 1)).ok (by decide)))
      (GA.cons ((((i_to' (n := 1) h12 rfl).cat (i_one (v := .str "do") (d := .str "do") r_c fun _ => .txt _) (by have := lt 1; show _ + 1 ≤ 1000; omega)).cat (i_from' (n := 2) h12 rfl) (by have := ls 2; have := lt 1; rw [List.length_append]; show _ + 1 + _ ≤ 1000; omega)).gt ((((g0.take 1).app (gk "do" (by decide +kernel))).app (g0.drop 2)).ok (by decide)))
      (GA.cons ((((i_to' (n := 1) h12 rfl).cat (i_one (v := .int 7) (d := .int 7) r_c fun _ => .num _) (by have := lt 1; show _ + 1 ≤ 1000; omega)).cat (i_from' (n := 2) h12 rfl) (by have := ls 2; have := lt 1; rw [List.length_append]; show _ + 1 + _ ≤ 1000; omega)).gt ((((g0.take 1).app (gi 7)).app (g0.drop 2)).ok (by decide))) GA.nil)))
    refine set_cat (i := 3) A2 (by decide) (m := 10) (by decide) hD1 rfl e1 l1 g1 fun vs2 p2 H2 s2 m2 e2 l2 g2 => ?_
    have hD2 := hD1.up s2
    change tSeq _ _ _ [some (V.ref pd), some (V.ref a), some (V.str nm), some (V.ref p2)] H2
    have h13 : ([some (V.ref pd), some (V.ref a), some (V.str nm), some (V.ref p2)] : L2.St)[1]? = some (some (.ref a)) := rfl
    have h23 : ([some (V.ref pd), some (V.ref a), some (V.str nm), some (V.ref p2)] : L2.St)[2]? = some (some (.str nm)) := rfl
    have sd3 : Sps 3 (ds.drop 2) := fun d hd => (drw_sp dw).1 d (List.mem_of_mem_drop hd)
    have A3 := GA.cons (((i_to' (pd := pd) (xs := xs) (ds := ds) (n := 2) h13 rfl).cat (i_oneG (d := .list (ds.drop 2)) (te := tCB (fun xs H Q => ∃ p ys, xs = [.ref p] ∧ (SqL K H p ys ∨ SqT K H p ys) ∧ ∀ l, H l = none → Q (.ref l) (upd H l (.lst ys))) (tCons (tSl rSlH (tVar 1) (tPart (tC (.int 2))) tNoPart) tNil)) fun H Q hd k =>
          (i_from' (pd := pd) (xs := xs) (ds := ds) (n := 2) h13 rfl) H _ hd fun p ys H' s hp hv np => ⟨p, ys, rfl, .inr (SqT.of hp), fun l nl => k _ _ (s.trans (same_upd nl)) (.li upd_same (not_pd (hd.up s).pd_ nl) (hv.same (same_upd nl)))⟩)
          (by have := lt 2; show _ + 1 ≤ 1000; omega)).gt (((g0.take 2).app (gd_one (sp_list sd3))).ok (by decide)))
      (GA.cons ((((i_to' (n := 2) h13 rfl).cat (i_oneG (d := .tuple [.str nm]) (te := tTup (tCons (tVar 2) tNil)) fun H Q hd k => ⟨.str nm, h23, by show 1 ≤ sizeLine; decide, fun p np => k _ _ (same_upd np) (.tu upd_same (not_pd hd.pd_ np) (.cons (.txt _) .nil))⟩) (by have := lt 2; show _ + 1 ≤ 1000; omega)).cat (i_from' (n := 3) h13 rfl) (by have := ls 3; have := lt 2; rw [List.length_append]; show _ + 1 + _ ≤ 1000; omega)).gt ((((g0.take 2).app (gd_one (up8 (sp_tup (ps := [nm]) (fun m hm => by rw [List.mem_singleton.mp hm]; exact pn) (by show 1 ≤ 4; decide))))).app (g0.drop 3)).ok (by decide)))
      (GA.cons (((i_var h13).cat (i_two (v := .str "as") (u := .str "as") (d := .str "as") (e := .str "as") r_c r_c (fun _ => .txt _) fun _ => .txt _) (by show _ + 2 ≤ 1000; omega)).gt ((g0.app ((gk "as" (by decide +kernel)).app (gk "as" (by decide +kernel)))).ok (by decide)))
      (GA.cons (((i_var h13).cat (i_one (v := .str "as") (d := .str "as") r_c fun _ => .txt _) (by show _ + 1 ≤ 1000; omega)).gt ((g0.app (gk "as" (by decide +kernel))).ok (by decide))) GA.nil)))
    refine set_cat (i := 3) A3 (by decide) (m := 14) (by decide) hD2 rfl e2 l2 g2 fun vs3 p3 H3 s3 m3 e3 l3 g3 => ?_
    have d3 : Dr H H3 pd := d0.same ((s1.trans s2).trans s3)
    obtain ⟨zs, hzs⟩ := d3.dr
    refine ⟨.ref p3, rfl, .ref pd, rfl, pd, zs, 18, rfl, hzs, by decide, fun r ys r0 r1 _ => ?_⟩
    have d4 := d3.draw ys
    have e3' : upd H3 pd (.lst (ys.map V.int)) p3 = some (.lst vs3) := by rw [upd_ne m3]; exact e3
    obtain ⟨v, hv, hm⟩ := at_in (xs := vs3) (n := 18) r0 r1 (by rw [l3]; exact Nat.le_refl _)
    obtain ⟨d, vd, ok⟩ := g3 v hm
    exact ⟨p3, vs3, r, v, rfl, rfl, SqL.of e3', hv, q _ v d4 ⟨d, vd.up (fun b o e n => by rw [upd_ne n]; exact e) d, ok⟩⟩
end
end K10
namespace K10
open PySem PySem.Spec PyProof.Rows L2
/-! ### drawn deeds -/
theorem pn_wd {n : Str} (h : Pn n) : Wd n := ⟨h.ne, fun hm => by
  have z := h.ok 32 hm
  revert z
  decide +kernel⟩
theorem Tg.tl {t : List Str} (h : Tg t) : Tl t ∧ ∀ w ∈ t, 32 ∉ w.cps.toList := by
  rcases h with rfl | ⟨g, rfl, pg⟩
  · exact ⟨.inl rfl, fun w hw => by cases hw⟩
  · refine ⟨.inr ⟨g, rfl⟩, fun w hw => ?_⟩
    rcases List.mem_cons.mp hw with rfl | hw
    · exact as32
    · rw [List.mem_singleton.mp hw]
      exact (pn_wd pg).2
theorem drw_fm {ds : List D} (h : Drw ds) : ∃ ws, Fm ds ws := by
  have k : ∀ w ∈ [("skip" : Str), "make", "put", "read", "write", "keep", "copy", "fetch", "take"], w ≠ "call" ∧ 32 ∉ w.cps.toList := by decide +kernel
  have one : ∀ {n : Str}, Pn n → ∀ w ∈ [n], Wd w := fun pn w hw => by
    rw [List.mem_singleton.mp hw]
    exact pn_wd pn
  cases h with
  | skip => exact ⟨_, Fm.any0 (h := "skip") (r := []) (k _ (by decide +kernel)).1 (k _ (by decide +kernel)).2 (fun w hw => by cases hw)⟩
  | two w n hw pn =>
    have kk : w ≠ "call" ∧ 32 ∉ w.cps.toList := k w (by rcases hw with rfl | rfl <;> decide +kernel)
    exact ⟨_, Fm.any0 (h := w) (r := [n]) kk.1 kk.2 (one pn)⟩
  | three w n o hw pn po =>
    have kk : w ≠ "call" ∧ 32 ∉ w.cps.toList := k w (by
      simp only [List.mem_cons, List.not_mem_nil, or_false] at hw ⊢
      rcases hw with e | e | e | e <;> simp [e])
    exact ⟨_, Fm.any0 (h := w) (r := [n, o]) kk.1 kk.2 (fun v hv => by
      rcases List.mem_cons.mp hv with rfl | hv
      · exact pn_wd pn
      · exact one po v hv)⟩
  | fetch n ns pn hm hl =>
    exact ⟨_, Fm.any0 (h := "fetch") (r := n :: ns) (k _ (by decide +kernel)).1 (k _ (by decide +kernel)).2 (fun v hv => by
      rcases List.mem_cons.mp hv with rfl | hv
      · exact pn_wd pn
      · exact pn_wd (hm v hv))⟩
  | take n t pn ht =>
    exact ⟨_, Fm.any "take" [n] t (k _ (by decide +kernel)).1 (k _ (by decide +kernel)).2 (one pn) ht.tl.1 ht.tl.2 (.inr (.inl (by simp)))⟩
  | call n ps t pn hm hl ht =>
    exact ⟨_, Fm.call n ps t (pn_wd pn) (fun v hv => pn_wd (hm v hv)) ht.tl.1 ht.tl.2⟩
theorem drw_built {ds : List D} (h : Drw ds) : build (splitW (joinW (wordsOf ds))) = ds ∧ (∀ d ∈ ds, PtOk d) := by
  obtain ⟨ws, f⟩ := drw_fm h
  rw [f.words.1, splitW_join f.no.1 f.no.2, f.built]
  exact ⟨rfl, f.words.2⟩
theorem nm_not_as {x : D} (h : nmD x = true) : isAs x = false := by
  obtain ⟨e, k⟩ := nm_str h
  rw [e, isAs_str]
  cases z : (toStr x == ("as" : Str)) with
  | false => rfl
  | true => exact absurd (eq_of_beq z) (nm_ne k)
theorem no_as {ds : List D} (hd : isDeedL ds = true) (hw : wg ds = ds) : ∀ r x y, ds = r ++ [x, y] → isAs x = false := by
  intro r x y e
  cases ds with
  | nil => cases hd
  | cons d r0 =>
    cases d with
    | str w =>
      have hx : x ∈ PyData.str w :: r0 := by rw [e]; simp
      have tail : r0.all nmD = true → w ≠ "as" → isAs x = false := fun h1 h2 => by
        rcases List.mem_cons.mp hx with rfl | hx
        · rw [isAs_str]
          cases z : (w == ("as" : Str)) with
          | false => rfl
          | true => exact absurd (eq_of_beq z) h2
        · exact nm_not_as (List.all_eq_true.mp h1 x hx)
      by_cases hc : w = "call"
      · subst hc
        rw [isDeedL_call, hw] at hd
        match r0, hd with
        | [n, .tuple ps], hd =>
          simp only [isCall, Bool.and_eq_true] at hd
          have e2 := congrArg List.reverse e
          simp at e2
          rw [← e2.2.1]
          exact nm_not_as hd.1
      · by_cases hk : w = "take"
        · subst hk
          rw [isDeedL_take, Bool.and_eq_true, hw] at hd
          exact tail hd.1 (by decide +kernel)
        · rw [isDeedL_any hc hk, Bool.and_eq_true] at hd
          refine tail hd.1 fun z => ?_
          subst z
          have h2 := hd.2
          rw [if_neg (by decide +kernel)] at h2
          have ln : LEN.lookup ("as" : Str) = none := by decide +kernel
          rw [lenB_none ln] at h2
          cases h2
    | _ => cases hd
theorem own_of {ds : List D} (hd : isDeedL ds = true) : (wg ds = ds ∧ guardOf ds = "" ∧ ∀ r x y, ds = r ++ [x, y] → isAs x = false) ∨
    ∃ r g, ds = r ++ [.str "as", .str g] ∧ 1 < r.length ∧ isName g = true ∧ wg ds = r ∧ guardOf ds = g := by
  rcases wg_or ds with e | ⟨g, hg, e, hl⟩
  · have na := no_as hd e
    refine .inl ⟨e, ?_, na⟩
    by_cases h2 : 2 ≤ ds.length
    · obtain ⟨r, x, y, ed⟩ := two_last h2
      have hx := na r x y ed
      rw [ed, guardOf_app, hx, Bool.and_false]
      rfl
    · exact guardOf_short (by omega)
  · refine .inr ⟨wg ds, g, e, hl, hg, rfl, ?_⟩
    have z : guardOf (wg ds ++ [.str "as", .str g]) = g := by
      rw [guardOf_app, decide_eq_true hl]
      have : isAs (.str "as") = true := by decide +kernel
      rw [this]
      rfl
    rw [← e] at z
    exact z
theorem guard_str {ds : List D} (hd : isDeedL ds = true) : ∀ r x y, ds = r ++ [x, y] → isAs x = true → ∃ g, y = .str g := by
  intro r x y e hx
  rcases own_of hd with ⟨_, _, na⟩ | ⟨r2, g, e2, _⟩
  · rw [na r x y e] at hx
    cases hx
  · rw [e] at e2
    have e3 := List.append_inj_right' e2 (by rfl)
    injection e3 with _ e3
    injection e3 with e3 _
    exact ⟨g, e3⟩
end K10
namespace K10
open PySem PySem.Spec PyProof.Rows L2
abbrev sAsks : Stmt := top 34
theorem scAsks : FnScope ["_law_draws_here", "_law_pool_here", "_law_deed", "_law_text_here", "_law_own", "_law_name", "_law_stem", "_law_value_here", "_law_actual", "_law_turn", "_law_due", "_law_answer"] ["_law_draws_here", "_law_pool_here", "_law_deed"] (defScope sAsks) := ⟨rfl, rfl, rfl, by decide +kernel, rfl, by decide +kernel, by decide +kernel⟩
theorem DsH.dr {pd a : Addr} {xs : List V} {ds : List D} {H H' : Hp} (h : DsH pd a xs ds H) (d : Dr H H' pd) : DsH pd a xs ds H' :=
  ⟨d.but _ _ h.at_ h.np, h.vr.up d.but, let ⟨ys, e⟩ := d.dr; ⟨_, e⟩, h.np⟩
theorem cut_mid1 (us : List V) (x y : V) : cutV (us ++ [x, y]) (some (-2)) (some (-1)) = [x] := by
  unfold cutV
  have e1 : HT.sIx (us ++ [x, y]).length 0 (some (-2)) = us.length := by
    unfold HT.sIx
    simp only
    rw [if_pos (by omega), List.length_append]
    simp only [List.length_cons, List.length_nil]
    omega
  have e2 : HT.sIx (us ++ [x, y]).length (us ++ [x, y]).length (some (-1)) = us.length + 1 := by
    unfold HT.sIx
    simp only
    rw [if_pos (by omega), List.length_append]
    simp only [List.length_cons, List.length_nil]
    omega
  rw [e1, e2, List.drop_left]
  have : us.length + 1 - us.length = 1 := by omega
  rw [this]
  rfl
theorem cut_mid0 {xs : List V} (h : xs.length < 2) : cutV xs (some (-2)) (some (-1)) = [] := by
  unfold cutV
  match xs, h with
  | [], _ => rfl
  | [x], _ => rfl
theorem shaped_ans {e : List D} (h : PyData.canLayAll0 e = true) (hd : PyData.depthAll e ≤ 10) : SeqAt.shaped (.list [.tuple e, .str ""]) = true ∧ PyData.eqv (.list [.tuple e, .str ""]) (.list [.tuple e, .str ""]) = true := by
  have k : PyData.canLayAll0 [.tuple e, .str ""] = true := by
    rw [PyData.canLayAll0, PyData.canLay0, h]
    decide +kernel
  refine ⟨?_, ?_⟩
  · unfold SeqAt.shaped
    rw [PyData.canLay0, k]
    exact decide_eq_true (by simp only [PyData.depth, PyData.depthAll]; omega)
  · have z := PySem.SeqAt.eqvAll_refl _ k
    simpa [PyData.eqv] using z
theorem fm_depth {e : List D} {ws : List Str} (f : Fm e ws) : PyData.depthAll e ≤ 10 := by
  cases f with
  | call n ps t hn hp ht h32 =>
    have d1 := depth_strs ps
    have d2 := depth_strs t
    simp only [PyData.depthAll, PyData.depth]
    omega
  | any h r t h1 h2 hr ht h32 =>
    have := depth_strs (h :: (r ++ t))
    omega
theorem read_ok {ws : List Str} (hne : ws ≠ []) {e : List D} (h : lawRead ws = some e) : isDeedL (build ws) = true ∧ e = build ws ∧ PyData.canLayAll0 e = true ∧ PyData.depthAll e ≤ 10 := by
  have hs := shaped_lay (lawRead_shaped h)
  rw [law_build hne] at h
  by_cases q : isDeedL (build ws) = true
  · rw [if_pos q] at h
    injection h with h
    obtain ⟨vs, f⟩ := fm_of q
    rw [← h] at hs ⊢
    exact ⟨q, rfl, hs, fm_depth f⟩
  · rw [if_neg q] at h
    cases h
theorem read_no {ws : List Str} (hne : ws ≠ []) (h : lawRead ws = none) : isDeedL (build ws) = false := by
  rw [law_build hne] at h
  cases q : isDeedL (build ws) with
  | false => rfl
  | true =>
    rw [if_pos q] at h
    cases h
theorem sps_tup {k : Nat} {es : List D} (h : Sps k es) (hk : k ≤ 20) : SeqAt.shaped (.tuple es) = true ∧ PyData.eqv (.tuple es) (.tuple es) = true := by
  obtain ⟨h1, h2⟩ := lay_all h
  refine ⟨?_, ?_⟩
  · unfold SeqAt.shaped
    rw [PyData.canLay0, h1]
    exact decide_eq_true (by rw [PyData.depth]; omega)
  · have z := PySem.SeqAt.eqvAll_refl _ h1
    simpa [PyData.eqv] using z
section
variable {P : Program} {w : World} {K : PySem.W.Frag} {mg : Str → Option Value} {base : Heap} {aR pd pp : Addr}
def spAsks (pd pp : Addr) : Sp := fun vs H Q _ => ∃ (a : Addr) (ns : List Str) (xs : List V) (ds : List D), vs = [.ref pd, .ref pp, .ref a] ∧ Dr H H pd ∧ Pl pd pp H ns ∧ DsH pd a xs ds H ∧ Drw ds ∧ isDeedL ds = true ∧ ∀ H', Dr H H' pd → Q (.bl true) H'
/-- what stands throughout -/
structure Ak (pd pp : Addr) (H0 : Hp) (Q : VK) (Dn : Ends) (H : Hp) (a : Addr) (ns : List Str) (xs : List V) (ds : List D) : Prop where
  dr : Dr H0 H pd
  pl : Pl pd pp H0 ns
  d0 : DsH pd a xs ds H0
  rt : Dn.rt = Q
theorem Ak.hD {H0 : Hp} {Q : VK} {Dn : Ends} {H : Hp} {a : Addr} {ns : List Str} {xs : List V} {ds : List D} (k : Ak pd pp H0 Q Dn H a ns xs ds) : DsH pd a xs ds H := k.d0.dr k.dr
theorem Ak.to {H0 : Hp} {Q : VK} {Dn Dn' : Ends} {H H' : Hp} {a : Addr} {ns : List Str} {xs : List V} {ds : List D} (k : Ak pd pp H0 Q Dn H a ns xs ds) (d : Dr H0 H' pd) (e : Dn'.rt = Dn.rt) : Ak pd pp H0 Q Dn' H' a ns xs ds := ⟨d, k.pl, k.d0, e.trans k.rt⟩
def tA (pd pp : Addr) (H0 : Hp) (Q : VK) (a : Addr) (ns : List Str) (xs : List V) (ds : List D) (R : L2.St → Prop) : TS := fun Dn σ H => Ak pd pp H0 Q Dn H a ns xs ds ∧ R σ
def A1 (pd pp a : Addr) (ds : List D) (σ : L2.St) : Prop := σ = [some (.ref pd), some (.ref pp), some (.ref a), some (.str (joinW (wordsOf ds))), some (.str (guardOf ds)), none, none, none, none, none, none, none]
def A3 (pd pp a : Addr) (ds : List D) (σ : L2.St) : Prop := ∃ nm x6, Pn nm ∧ σ = [some (.ref pd), some (.ref pp), some (.ref a), some (.str (joinW (wordsOf ds))), some (.str (guardOf ds)), some (.str nm), x6, none, none, none, none, none]
def A4 (pd pp a : Addr) (ds : List D) (σ : L2.St) : Prop := ∃ x5 x6 x7 x8, σ = [some (.ref pd), some (.ref pp), some (.ref a), some (.str (joinW (wordsOf ds))), some (.str (guardOf ds)), x5, x6, x7, x8, none, none, none]
def A5 (pd pp a : Addr) (ds : List D) (σ : L2.St) : Prop := ∃ (y : Str) (x5 x6 x7 x8 x9 : Option V), y.length ≤ 900 ∧ σ = [some (.ref pd), some (.ref pp), some (.ref a), some (.str y), some (.str (guardOf ds)), x5, x6, x7, x8, x9, none, none]
/-- .. within the branch of takes and calls: the stem told -/
def tA6 (pd pp : Addr) (H0 : Hp) (Q : VK) (a : Addr) (ns : List Str) (xs : List V) (ds : List D) : TS := fun Dn σ H => ∃ (nm : Str) (p6 : Addr) (us : List V),
  σ = [some (.ref pd), some (.ref pp), some (.ref a), some (.str (joinW (wordsOf ds))), some (.str (guardOf ds)), some (.str nm), some (.ref p6), none, none, none, none, none] ∧ Ak pd pp H0 Q Dn H a ns xs ds ∧ Pn nm ∧ H p6 = some (.tup us) ∧ VrA pd H us (wg ds) ∧
  ∀ H', Dr H0 H' pd → Dn.nx [some (.ref pd), some (.ref pp), some (.ref a), some (.str (joinW (wordsOf ds))), some (.str (guardOf ds)), some (.str nm), some (.ref p6), none, none, none, none, none] H'
theorem ok_asks {f fLt fDt fGn fTk fN fNm fV fD fLd fE fR : Addr} {fd fdLt fdDt fdGn fdTk fdN fdNm fdV fdD fdLd fdE fdR : FuncData} (F : FnP K "_law_asks" sAsks f fd)
    (FLt : FnP K "_law_text" sLTx fLt fdLt) (gLt : mg "_law_text" = some (.ref fLt)) (GLt : FnOk P w K mg base CX0 1 fLt fdLt ["_law_deed"] (spText pd))
    (FDt : FnP K "deed_text" sText fDt fdDt) (gDt : mg "deed_text" = some (.ref fDt)) (GDt : FnOk P w K mg base CX0 2 fDt fdDt ["deed"] (spText pd))
    (FGn : FnP K "guard_name" sGuard fGn fdGn) (gGn : mg "guard_name" = some (.ref fGn)) (GGn : FnOk P w K mg base CX0 1 fGn fdGn ["deed"] (spGuard pd))
    (FTk : FnP K "_law_taken" sLTk fTk fdTk) (gTk : mg "_law_taken" = some (.ref fTk)) (GTk : FnOk P w K mg base CX0 5 fTk fdTk ["_law_text_here"] (spTk pd))
    (FN : FnP K "_law_next" sNext fN fdN) (gN : mg "_law_next" = some (.ref fN))
    (FNm : FnP K "named" sNamed fNm fdNm) (gNm : mg "named" = some (.ref fNm)) (GNm : FnOk P w K mg base CX0 3 fNm fdNm ["deed", "guard"] (spNamed pd))
    (FV : FnP K "_law_value" sValue fV fdV) (gV : mg "_law_value" = some (.ref fV)) (GV : FnOk P w K mg base CX0 2 fV fdV ["_law_draws_here", "_law_deed", "_law_name"] (spValue pd))
    (FD : FnP K "is_deed" sDeed fD fdD) (gD : mg "is_deed" = some (.ref fD)) (GD : FnOk P w K mg base CX0 3 fD fdD ["value"] (spDeed pd))
    (FLd : FnP K "_law_is_deed" sLDd fLd fdLd) (gLd : mg "_law_is_deed" = some (.ref fLd)) (GLd : FnOk P w K mg base CX0 3 fLd fdLd ["_law_value_here"] (spLDd pd))
    (FE : FnP K "_law_edited" sEdit fE fdE) (gE : mg "_law_edited" = some (.ref fE)) (GE : FnOk P w K mg base CX0 2 fE fdE ["_law_draws_here", "_law_pool_here", "_law_text_here"] (spEdit pd pp))
    (FR : FnP K "_law_read" sLRd fR fdR) (gR : mg "_law_read" = some (.ref fR)) (GR : FnOk P w K mg base CX0 2 fR fdR ["_law_text_here"] (spLRd pd))
    (ml : mg "len" = none) (mi : mg "int" = none) (mis : mg "isinstance" = none) (mb : mg "bool" = none) (mr : mg "range" = none) (mt : mg "tuple" = none) :
    FnOk P w K mg base CX0 6 f fd ["_law_draws_here", "_law_pool_here", "_law_deed"] (spAsks pd pp) := by
  have GN : FnOk P w K mg base CX0 1 fN fdN ["_law_draws_here", "_law_many"] spNext := ok_next FN ml mi
  have bN : Binds K fdN ["_law_draws_here", "_law_many"] [] := FN.bindsN fun _ _ _ _ _ _ us hl => match us, hl with | [_, _], _ => rfl
  have bLt : Binds K fdLt ["_law_deed"] [] := FLt.bindsN fun _ _ _ _ _ _ us hl => match us, hl with | [_], _ => rfl
  have bDt : Binds K fdDt ["deed"] [] := FDt.bindsN fun _ _ _ _ _ _ us hl => match us, hl with | [_], _ => rfl
  have bGn : Binds K fdGn ["deed"] [] := FGn.bindsN fun _ _ _ _ _ _ us hl => match us, hl with | [_], _ => rfl
  have bTk : Binds K fdTk ["_law_text_here"] [] := FTk.bindsN fun _ _ _ _ _ _ us hl => match us, hl with | [_], _ => rfl
  have bNm : Binds K fdNm ["deed", "guard"] [] := FNm.bindsN fun _ _ _ _ _ _ us hl => match us, hl with | [_, _], _ => rfl
  have bV : Binds K fdV ["_law_draws_here", "_law_deed", "_law_name"] [] := FV.bindsN fun _ _ _ _ _ _ us hl => match us, hl with | [_, _, _], _ => rfl
  have bD : Binds K fdD ["value"] [] := FD.bindsN fun _ _ _ _ _ _ us hl => match us, hl with | [_], _ => rfl
  have bLd : Binds K fdLd ["_law_value_here"] [] := FLd.bindsN fun _ _ _ _ _ _ us hl => match us, hl with | [_], _ => rfl
  have bE : Binds K fdE ["_law_draws_here", "_law_pool_here", "_law_text_here"] [] := FE.bindsN fun _ _ _ _ _ _ us hl => match us, hl with | [_, _, _], _ => rfl
  have bR : Binds K fdR ["_law_text_here"] [] := FR.bindsN fun _ _ _ _ _ _ us hl => match us, hl with | [_], _ => rfl
  refine F.ok scAsks (fun vs H Q E h => ?_) (fun cdv A outer s H vs Q E hr h => ?_)
  · obtain ⟨a, ns, xs, ds, rfl, _⟩ := h
    rfl
  · obtain ⟨a, ns, xs, ds, rfl, dr0, pl, hD, dw, hd, q⟩ := h
    have hr1 := hr.mono (show 1 ≤ 5 by decide)
    have pts := (drw_built dw).2
    have bu := (drw_built dw).1
    have g0 := gd_drw dw
    have wz0 := (drw_wz dw).1
    have sp3 := (drw_sp dw).1
    have l6 : ds.length ≤ 6 := (drw_sp dw).2
    have jl := joinW_len (wordsOf ds)
    have liL : LiL ds := (g0.ok (by decide) ds rfl).1
    obtain ⟨lay, dep⟩ := lay_all sp3
    obtain ⟨shA, eqA⟩ := shaped_ans lay (show PyData.depthAll ds ≤ 10 by omega)
    obtain ⟨s0, r0, e0⟩ := (drw_wz dw).2
    have hr2 := hr.mono (show 2 ≤ 5 by decide)
    have hr3 := hr.mono (show 3 ≤ 5 by decide)
    refine ⟨_, PSs.nox (pss_cons (ps_set (i := 3) scAsks.nd rfl (.inl rfl) (pe_call GLt hr1 (by rfl) gLt FLt.kp bLt .nil pass0 (pa_cons (pv 2) pa_nil)))
      (pss_cons (ps_set (i := 4) scAsks.nd rfl (.inl rfl) pe_str)
      (pss_cons (ps_if (pt_cmpR (op_eqD hr.units) (pe_slice (r := rSlH) sl_tupH (pv 2) (po_some (pe_un un_neg pe_int)) (po_some (pe_un un_neg pe_int))) (pe_tup (pa_cons pe_str pa_nil)) (nomark _))
        (pss_one (ps_set (i := 4) scAsks.nd rfl (.inl rfl) (pe_ix ix_tup (pv 2) (pe_un un_neg pe_int) (fun _ _ => rfl)))) pss_nil)
      (imp (t' := tA pd pp H Q a ns xs ds (A1 pd pp a ds))
      (pss_cons (ps_if (PW.pt (pw_or (pt_cmpR op_ne (pe_call GDt hr2 (by rfl) gDt FDt.kp bDt .nil pass0 (pa_cons (pv 2) pa_nil)) (pv 3) (nomark _))
          (pw_or (pt_cmpR op_ne (pe_call GGn hr1 (by rfl) gGn FGn.kp bGn .nil pass0 (pa_cons (pv 2) pa_nil)) (pv 4) (nomark _))
          (pw_or1 (pt_cmpR (op_neD hr.units) (pe_call GTk hr (by rfl) gTk FTk.kp bTk .nil pass0 (pa_cons (pv 3) pa_nil)) (pe_lst (pa_cons (pv 2) (pa_cons pe_str pa_nil))) (nomark _))))))
        (pss_one (ps_ret pe_bl)) pss_nil)
      (imp (t' := tA pd pp H Q a ns xs ds (A1 pd pp a ds))
      (pss_cons (ps_set (i := 5) scAsks.nd rfl (.inl rfl) (pe_ix ix_list (pv 1) (pe_call GN hr1 (by rfl) gN FN.kp bN .nil pass0 (pa_cons (pv 0) (pa_cons pe_int pa_nil))) (fun _ _ => rfl)))
      (pss_cons (ps_if (pt_cmpR op_in_seq (pe_ix ix_tup (pv 2) pe_int (fun _ _ => rfl)) (pe_lst (pa_cs (vs := [("take" : Str), "call"].map V.str) (by rfl))) rfl)
        (pss_cons (ps_set (i := 6) scAsks.nd rfl (.inl rfl) (pv 2))
        (pss_cons (ps_if (pt_cmpR op_ne (pv 4) pe_str (nomark _)) (pss_one (ps_set (i := 6) scAsks.nd rfl (.inl rfl) (pe_slice (r := rSlH) sl_tupH (pv 2) po_none (po_some (pe_un un_neg pe_int))))) pss_nil)
        (imp (t' := tA6 pd pp H Q a ns xs ds) (pss_one (ps_if (pt_cmpR (op_neD hr.units) (pe_call GNm hr3 (by rfl) gNm FNm.kp bNm .nil pass0 (pa_cons (pv 2) (pa_cons (pv 5) pa_nil))) (pe_op op_catH (pv 6) (pe_tup (pa_cons pe_str (pa_cons (pv 5) pa_nil)))) (nomark _))
          (pss_one (ps_ret pe_bl)) pss_nil)) (fun Dn σ H2 hm => ?s6)))) pss_nil)
      (imp (t' := tA pd pp H Q a ns xs ds (A3 pd pp a ds))
      (pss_cons (ps_set (i := 7) scAsks.nd rfl (.inl rfl) (pe_call GV hr2 (by rfl) gV FV.kp bV .nil pass0 (pa_cons (pv 0) (pa_cons (pv 2) (pa_cons (pv 5) pa_nil)))))
      (pss_cons (ps_set (i := 8) scAsks.nd rfl (.inl rfl) (pe_call GD hr3 (by rfl) gD FD.kp bD .nil pass0 (pa_cons (pv 7) pa_nil)))
      (pss_cons (ps_if (PW.pt (pw_or (pt_not (pt_val (pe_callB call_isi (by rfl) mis (by decide +kernel) (pa_cons (pv 8) (pa_cons (pe_bltn (v := .ty "bool") (by rfl) mb (by decide +kernel) rfl) pa_nil)))))
          (pw_or1 (pt_cmpR op_ne (pv 8) (pe_call GLd hr3 (by rfl) gLd FLd.kp bLd .nil pass0 (pa_cons (pv 7) pa_nil)) (nomark _)))))
        (pss_one (ps_ret pe_bl)) pss_nil)
      (imp (t' := tA pd pp H Q a ns xs ds (A4 pd pp a ds))
      (pss_cons (ps_for PassesOwn.never rfl (pi_range1 rfl mr (pa_cons (pe_op op_add pe_int (pe_call GN hr1 (by rfl) gN FN.kp bN .nil pass0 (pa_cons (pv 0) (pa_cons pe_int pa_nil)))) pa_nil)) (pg_name (i := 9) scAsks.nd rfl (.inl rfl))
        (pss_one (ps_set (i := 3) scAsks.nd rfl (.inl rfl) (pe_call GE hr2 (by rfl) gE FE.kp bE .nil pass0 (pa_cons (pv 0) (pa_cons (pv 1) (pa_cons (pv 3) pa_nil)))))))
      (imp (t' := tA pd pp H Q a ns xs ds (A5 pd pp a ds))
      (pss_cons (ps_set (i := 10) scAsks.nd rfl (.inl rfl) (pe_call GR hr2 (by rfl) gR FR.kp bR .nil pass0 (pa_cons (pv 3) pa_nil)))
      (pss_cons (ps_set (i := 11) scAsks.nd rfl (.inl rfl) (pe_call GTk hr (by rfl) gTk FTk.kp bTk .nil pass0 (pa_cons (pv 3) pa_nil)))
      (pss_cons (ps_if (pt_cmpR op_isN (pv 10) pe_non (nomark _)) (pss_one (ps_ret (pe_cmpR (op_eqD hr.units) (pv 11) (pe_lst (pa_cons pe_non (pa_cons pe_str pa_nil))) (nomark _)))) pss_nil)
      (pss_one (ps_ret (pe_and (pe_cmpR (op_eqD hr.units) (pv 11) (pe_lst (pa_cons (pv 10) (pa_cons pe_str pa_nil))) (nomark _))
        (pe_and (pe_callB call_isi (by rfl) mis (by decide +kernel) (pa_cons (pe_ix ix_list (pv 11) pe_int (fun _ _ => rfl)) (pa_cons (pe_bltn (v := .ty "tuple") (by rfl) mt (by decide +kernel) rfl) pa_nil)))
        (pe_one (pe_call GD hr3 (by rfl) gD FD.kp bD .nil pass0 (pa_cons (pe_ix ix_list (pv 11) pe_int (fun _ _ => rfl)) pa_nil))))))))))
        (fun Dn σ H2 hm => ?s5))) (fun Dn σ H2 hm => ?s4))))) (fun Dn σ H2 hm => ?s3)))) (fun Dn σ H2 hm => ?s2))) (fun Dn σ H2 hm => ?s1))))), ?_⟩
    case s5 =>
      obtain ⟨k, y, x5, x6, x7, x8, x9, hy, rfl⟩ := hm
      have hne := splitW_ne y
      have hz := splitW_wz y
      refine ⟨.str y, rfl, y, rfl, hy, k.hD.pd_, fun en H3 s3 => ?_, fun e ee p H3 s3 v3 => ?_⟩
      · have hb := read_no hne en
        refine ⟨.str y, rfl, y, rfl, hy, (k.hD.up s3).pd_, fun h => (by rw [hb] at h; cases h), fun _ q4 H4 s4 v4 => ?_⟩
        refine ⟨.non, rfl, rfl, _, rfl, iteT ⟨.ref q4, rfl, by show 2 ≤ sizeLine; decide, fun l nl => ?_⟩⟩
        have s5 : Same H4 (upd H4 l (.lst [V.non, V.str "form"])) := same_upd nl
        have e5 : upd H4 l (.lst [V.non, V.str "form"]) l = some (.lst [V.non, V.str "form"]) := upd_same
        refine ⟨.list [.none, .str "form"], .list [.none, .str "form"], (v4.same s5).dp K, .lst (SqL.of e5) (.cons .non (.cons (.str _) .nil)), by decide +kernel, by decide +kernel, ?_⟩
        have e6 : PyData.eqv (.list [.none, .str "form"]) (.list [.none, .str "form"]) = true := by decide +kernel
        rw [e6]
        show Dn.rt (.bl true) _
        rw [k.rt]
        exact q _ ((((k.dr.same s3).same s4)).same s5)
      · obtain ⟨hb, rfl, layE, depE⟩ := read_ok hne ee
        obtain ⟨shE, eqE⟩ := shaped_ans layE depE
        refine ⟨.str y, rfl, y, rfl, hy, (k.hD.up s3).pd_, fun _ q4 H4 s4 v4 => ?_, fun h => by rw [hb] at h; cases h⟩
        refine ⟨.ref p, rfl, rfl, _, rfl, ite2 (fun z => by have z := of_decide_eq_true z; cases z) (fun _ => ?_)⟩
        refine ⟨.ref q4, rfl, .ref p, rfl, by show 2 ≤ sizeLine; decide, fun l nl => ?_⟩
        have s5 : Same H4 (upd H4 l (.lst [V.ref p, V.str ""])) := same_upd nl
        have e5 : upd H4 l (.lst [V.ref p, V.str ""]) l = some (.lst [V.ref p, V.str ""]) := upd_same
        have v5 := v4.same s5
        have w5 := (v3.same s4).same s5
        have drE := ((k.dr.same s3).same s4).same s5
        generalize upd H4 l (.lst [V.ref p, V.str ""]) = G at s5 e5 v5 w5 drE
        refine ⟨_, _, v5.dp K, .lst (SqL.of e5) (.cons (w5.dp K) (.cons (.str _) .nil)), shE, shE, _, rfl, ?_⟩
        rw [eqE]
        cases v5 with
        | @li _ zs _ g1 g2 g3 =>
          cases g3 with
          | @cons u0 us _ _ g4 g5 =>
            obtain ⟨t, ty, kt⟩ := g4.tupK (K := K)
            refine iteT ⟨.ref q4, rfl, q4, _, 0, u0, rfl, rfl, SqL.of g1, at0 _ _, u0, .ty "tuple", t, .type "tuple", true, rfl, .ty _, ty, kt, _, rfl, iteT ?_⟩
            refine ⟨.ref q4, rfl, q4, _, 0, u0, rfl, rfl, SqL.of g1, at0 _ _, u0, _, rfl, g4, fun es ee => ?_, fun H6 s6 => ?_⟩
            · injection ee with ee
              rw [← ee]
              exact liL_build (by omega) hne
            · show Dn.rt (.bl (isDeedL (build (splitW y)))) _
              rw [hb, k.rt]
              exact q _ (drE.same s6)
    case s4 =>
      obtain ⟨k, x5, x6, x7, x8, rfl⟩ := hm
      obtain ⟨zs, hzs⟩ := k.dr.dr
      refine ⟨.ref pd, rfl, pd, zs, 2, rfl, hzs, by decide, fun r ys r0 r1 _ => ⟨_, _, rfl, rfl, ?_⟩⟩
      have k1 := k.to (k.dr.draw ys) rfl
      generalize upd H2 pd (.lst (ys.map V.int)) = G at k1
      obtain ⟨m, rfl⟩ := Int.eq_ofNat_of_zero_le r0
      obtain ⟨n, hn, hn2⟩ : ∃ n : Nat, 1 + (m : Int) = ((n : Nat) : Int) ∧ n ≤ 2 := ⟨1 + m, by omega, by omega⟩
      refine ⟨(n : Int), by show [V.int (1 + (m : Int))] = _; rw [hn], by omega, by omega, for_range (n := n) (fun j σ H5 => Ak pd pp H Q Dn H5 a ns xs ds ∧ ∃ (y : Str) (x5 x6 x7 x8 x9 : Option V), y.length + 20 ≤ 150 * 2 ^ j ∧ σ = [some (.ref pd), some (.ref pp), some (.ref a), some (.str y), some (.str (guardOf ds)), x5, x6, x7, x8, x9, none, none])
        ⟨k1, joinW (wordsOf ds), x5, x6, x7, x8, none, by omega, rfl⟩ ?_ ?_⟩
      · rintro j σ H5 hj ⟨k5, y, z5, z6, z7, z8, z9, hy, rfl⟩
        have hj2 : j ≤ 1 := by omega
        have e2 : 2 ^ (j + 1) = 2 * 2 ^ j := by rw [Nat.pow_succ, Nat.mul_comm]
        have e3 : 2 ^ j ≤ 2 ^ 1 := Nat.pow_le_pow_right (by decide) hj2
        refine ⟨.ref pd, rfl, .ref pp, rfl, .str y, rfl, ns, y, rfl, by omega, k5.dr.self, k5.pl.up k5.dr, fun H6 z d6 hz => ⟨k5.to (k5.dr.trans d6) rfl, z, z5, z6, z7, z8, _, by omega, rfl⟩⟩
      · rintro σ H5 ⟨k5, y, z5, z6, z7, z8, z9, hy, rfl⟩
        have e3 : 2 ^ n ≤ 2 ^ 2 := Nat.pow_le_pow_right (by decide) (by omega)
        exact ⟨k5, y, z5, z6, z7, z8, z9, by omega, rfl⟩
    case s3 =>
      obtain ⟨k, nm, x6, pn, rfl⟩ := hm
      refine ⟨.ref pd, rfl, .ref a, rfl, .str nm, rfl, a, nm, xs, ds, rfl, pn, dw, k.dr.self, k.hD, fun H3 v d3 gv => ?_⟩
      obtain ⟨d, vd, vo⟩ := gv
      have d03 := k.dr.trans d3
      refine ⟨v, rfl, v, d, rfl, vd, fun es e => (vo es e).1, fun H4 s4 => ?_⟩
      have d04 := d03.same s4
      refine ⟨.bl (isDeed d), rfl, .bl (isDeed d), .ty "bool", .type "bool", .type "bool", true, rfl, .ty _, .base (.bl _), kit_ty (a := "bool") (b := "bool") (r := true) (by decide +kernel), true, rfl, ?_⟩
      refine iteF ⟨.bl (isDeed d), rfl, v, rfl, v, d, rfl, vd.same s4, (k.d0.dr d04).pd_, fun es e => ⟨(vo es e).2.1, (vo es e).2.2⟩, fun H5 s5 => ⟨rfl, _, rfl, ifN (fun _ => ?_) (fun z => absurd rfl z)⟩⟩
      exact ⟨k.to (d04.same s5) rfl, _, _, _, _, rfl⟩
    case s6 =>
      obtain ⟨nm, p6, us, rfl, k, pn, e6, v6, nx⟩ := hm
      have hD2 := k.hD
      refine ⟨.ref a, rfl, .str nm, rfl, a, nm, xs, ds, rfl, hD2.np, hD2.pd_, hD2.at_, hD2.vr, liL, fun p H3 s3 v3 => ?_⟩
      refine ⟨.ref p6, rfl, .str nm, rfl, by show 2 ≤ sizeLine; decide, fun t nt => ?_⟩
      have s4 : Same H3 (upd H3 t (.tup [V.str "as", V.str nm])) := same_upd nt
      have e4 : upd H3 t (.tup [V.str "as", V.str nm]) t = some (.tup [V.str "as", V.str nm]) := upd_same
      generalize upd H3 t (.tup [V.str "as", V.str nm]) = G at s4 e4
      have s34 := s3.trans s4
      have lw := wg_le ds
      have lu := v6.len
      refine ⟨p6, t, us, _, rfl, rfl, s34 _ _ e6, e4, by rw [sizeLine_eq]; show us.length + 2 ≤ _; omega, fun r H5 s5 hr5 ho => ?_⟩
      have spw : Sps 3 (wg ds ++ [.str "as", .str nm]) := fun d hd2 => by
        rcases List.mem_append.mp hd2 with h | h
        · refine sp3 d ?_
          rcases wg_or ds with e | ⟨g, _, e, _⟩
          · rw [e] at h
            exact h
          · rw [e]
            exact List.mem_append.mpr (.inl h)
        · rcases List.mem_cons.mp h with rfl | h
          · exact sp_str (by decide +kernel) (by decide +kernel)
          · rw [List.mem_singleton.mp h]
            exact sp_pn pn
      obtain ⟨shW, eqW⟩ := sps_tup spw (by decide)
      have v7 : VrA pd H5 (us ++ [V.str "as", V.str nm]) (wg ds ++ [.str "as", .str nm]) := VrA.app (v6.same (s34.trans s5)) (.cons (.txt _) (.cons (.txt _) .nil))
      refine ⟨_, .tuple (wg ds ++ [.str "as", .str nm]), (v3.same (s4.trans s5)).dp K, .tup (SqT.of hr5) (VrA.dp K _ v7), shW, shW, _, rfl, ?_⟩
      rw [eqW]
      exact iteF (nx H5 (k.dr.same (s34.trans s5)))
    case s2 =>
      obtain ⟨k, st⟩ := hm
      unfold A1 at st
      subst st
      obtain ⟨zs, hzs⟩ := k.dr.dr
      refine ⟨.ref pp, rfl, .ref pd, rfl, pd, zs, 28, rfl, hzs, by decide, fun r ys r0' r1 _ => ?_⟩
      have k1 := k.to (k.dr.draw ys) rfl
      generalize upd H2 pd (.lst (ys.map V.int)) = G at k1
      have plG := k1.pl.up k1.dr
      obtain ⟨nm, hnm, pn⟩ := plG.get r0' r1
      refine ⟨pp, _, r, .str nm, rfl, rfl, SqL.of plG.at_, hnm, ?_⟩
      have hDG := k1.hD
      obtain ⟨u0, ur, ex, eu⟩ : ∃ u0 ur, xs = u0 :: ur ∧ u0 = .str s0 := by
        have z := hDG.vr
        rw [e0] at z
        cases z with
        | cons z1 z2 =>
          cases z1
          exact ⟨_, _, rfl, rfl⟩
      subst eu
      refine ⟨.ref a, rfl, a, xs, 0, .str s0, rfl, rfl, SqT.of hDG.at_, by rw [ex]; exact at0 _ _, by show 2 ≤ sizeLine; decide, fun q2 nq2 => ?_⟩
      have s3 : Same G (upd G q2 (.lst ([("take" : Str), "call"].map V.str))) := same_upd nq2
      have e3 : upd G q2 (.lst ([("take" : Str), "call"].map V.str)) q2 = some (.lst ([("take" : Str), "call"].map V.str)) := upd_same
      refine ⟨q2, _, rfl, .inl (SqL.of e3), rfl, rfl, _, rfl, ?_⟩
      have k2 := k1.to (k1.dr.same s3) rfl
      generalize upd G q2 (.lst ([("take" : Str), "call"].map V.str)) = G2 at k2
      refine ite2 (fun _ => ?_) (fun _ => ⟨k2, nm, none, pn, rfl⟩)
      have hD2 := k2.hD
      refine ⟨.ref a, rfl, ?_⟩
      rcases own_of hd with ⟨e1, e2, na⟩ | ⟨r3, g, e1, e2, e3, e4, e5⟩
      · refine ⟨.str (guardOf ds), rfl, rfl, _, rfl, ifN (fun _ => ?_) (fun z => absurd (by rw [e2]) z)⟩
        refine ⟨nm, a, xs, rfl, k2.to k2.dr rfl, pn, hD2.at_, by rw [e1]; exact hD2.vr, fun H' d' => ⟨k2.to d' rfl, nm, _, pn, rfl⟩⟩
      · have ng : guardOf ds ≠ "" := fun z => by
          rw [e5] at z
          rw [z] at e3
          revert e3
          decide +kernel
        refine ⟨.str (guardOf ds), rfl, rfl, _, rfl, ifN (fun z => absurd (by injection z) ng) (fun _ => ?_)⟩
        have hv := hD2.vr
        rw [e1] at hv
        obtain ⟨us, vs2, ex2, v1, v2⟩ := hv.split
        have lv := v2.len
        refine ⟨.ref a, rfl, 2, rfl, -2, rfl, a, xs, rfl, hD2.at_, fun p6 H6 s6 hp6 ho => ?_⟩
        have ec : cutV xs none (some (-2)) = us := by
          rw [ex2]
          exact cut_butn us vs2 2 lv (by decide)
        rw [ec] at hp6
        refine ⟨nm, p6, us, rfl, k2.to (k2.dr.same s6) rfl, pn, hp6, by rw [e4]; exact v1.same s6, fun H' d' => ⟨k2.to d' rfl, nm, _, pn, rfl⟩⟩
    case s1 =>
      obtain ⟨k, st⟩ := hm
      unfold A1 at st
      subst st
      have hD2 := k.hD
      refine ⟨.ref a, rfl, a, xs, ds, rfl, ⟨hD2.at_, hD2.vr, pts, by omega⟩, fun H3 s3 => ⟨_, rfl, rfl, _, rfl, ifN (fun _ => ?_) (fun z => absurd rfl z)⟩⟩
      have hD3 := hD2.up s3
      refine ⟨.ref a, rfl, a, xs, ds, rfl, hD3.at_, hD3.vr, liL, guard_str hd, _, rfl, rfl, _, rfl, ifN (fun _ => ?_) (fun z => absurd rfl z)⟩
      refine ⟨_, rfl, joinW (wordsOf ds), rfl, by omega, hD3.pd_, fun _ q4 H4 s4 v4 => ?_, fun h => by rw [bu, hd] at h; cases h⟩
      rw [bu] at v4
      refine ⟨.ref a, rfl, by show 2 ≤ sizeLine; decide, fun l nl => ?_⟩
      have s5 : Same H4 (upd H4 l (.lst [V.ref a, V.str ""])) := same_upd nl
      have e5 : upd H4 l (.lst [V.ref a, V.str ""]) l = some (.lst [V.ref a, V.str ""]) := upd_same
      have v5 := v4.same s5
      have hD5 := (hD3.up s4).up s5
      have d5 := ((k.dr.same s3).same s4).same s5
      generalize upd H4 l (.lst [V.ref a, V.str ""]) = G at s5 e5 v5 hD5 d5
      refine ⟨_, .list [.tuple ds, .str ""], v5.dp K, .lst (SqL.of e5) (.cons (.tup (SqT.of hD5.at_) (VrA.dp K ds hD5.vr)) (.cons (.str _) .nil)), shA, shA, _, rfl, ?_⟩
      rw [eqA]
      exact iteF ⟨k.to d5 rfl, rfl⟩
    · -- the text, the own guard
      refine ⟨.ref a, rfl, a, xs, ds, rfl, ⟨hD.at_, hD.vr, pts, by omega⟩, fun H1 s1 => ?_⟩
      have hD1 := hD.up s1
      have dr1 := dr0.same s1
      refine ⟨.ref a, rfl, 2, rfl, -2, rfl, 1, rfl, -1, rfl, a, xs, rfl, hD1.at_, fun p H2 s2 hp ho => ⟨by show 1 ≤ sizeLine; decide, fun t nt => ?_⟩⟩
      have s3 : Same H2 (upd H2 t (.tup [V.str "as"])) := same_upd nt
      have e3 : upd H2 t (.tup [V.str "as"]) t = some (.tup [V.str "as"]) := upd_same
      have hp3 := s3 _ _ hp
      have hDG := (hD1.up s2).up s3
      have drG := (dr1.same s2).same s3
      generalize upd H2 t (.tup [V.str "as"]) = G at s3 e3 hp3 hDG drG
      have shAs : SeqAt.shaped (.tuple [.str "as"]) = true := by decide +kernel
      have lx := hDG.vr.len
      by_cases h2 : 2 ≤ ds.length
      · obtain ⟨r, x, y, er⟩ := two_last h2
        have hv := hDG.vr
        rw [er] at hv
        obtain ⟨us, vs2, ex, v1, v2⟩ := hv.split
        cases v2 with
        | @cons ux _ _ _ vx v2 =>
        cases v2 with
        | @cons uy _ _ _ vy v2 =>
        cases v2
        rw [ex, cut_mid1] at hp3
        have spx : Sps 3 [x] := fun d hd2 => by
          rw [List.mem_singleton.mp hd2]
          exact sp3 x (by rw [er]; simp)
        have ee : PyData.eqv (.tuple [x]) (.tuple [.str "as"]) = isAs x := by
          unfold isAs
          simp [PyData.eqv, PyData.eqvAll]
        refine ⟨.tuple [x], .tuple [.str "as"], .tup (SqT.of hp3) (.cons (vx.dp K) .nil), .tup (SqT.of e3) (.cons (.str _) .nil), (sps_tup spx (by decide)).1, shAs, _, rfl, ?_⟩
        rw [ee]
        rcases own_of hd with ⟨o1, o2, na⟩ | ⟨r3, g, o1, o2, o3, o4, o5⟩
        · rw [na r x y er]
          exact iteF ⟨⟨drG, pl, hD, rfl⟩, by unfold A1; rw [o2]; rfl⟩
        · have o1' := o1
          rw [er] at o1'
          have e9 := List.append_inj_right' o1' (by rfl)
          injection e9 with e9 e10
          injection e10 with e10 _
          subst e9
          subst e10
          cases vy
          have ia : isAs (.str "as") = true := by decide +kernel
          rw [ia]
          have i1 : atI xs (-1) = some (V.str g) := by
            rw [ex]
            exact at_back us [ux, V.str g] 1 (by decide) (by show 1 ≤ 2; decide)
          exact iteT ⟨.ref a, rfl, 1, rfl, a, xs, _, _, rfl, rfl, SqT.of hDG.at_, i1, ⟨drG, pl, hD, rfl⟩, by unfold A1; rw [o5]; rfl⟩
      · rw [cut_mid0 (by omega)] at hp3
        have ee : PyData.eqv (.tuple []) (.tuple [.str "as"]) = false := by decide +kernel
        refine ⟨.tuple [], .tuple [.str "as"], .tup (SqT.of hp3) .nil, .tup (SqT.of e3) (.cons (.str _) .nil), by decide +kernel, shAs, _, rfl, ?_⟩
        rw [ee]
        exact iteF ⟨⟨drG, pl, hD, rfl⟩, by unfold A1; rw [guardOf_short (by omega)]; rfl⟩
end
end K10
namespace K10
open PySem PySem.Spec PyProof.Rows L2
abbrev sLaw : Stmt := top 35
theorem scLaw : FnScope ["_law_script", "_law_draws_here", "_law_pool_here", "_law_turn", "_law_deed", "_law_good"] ["_law_script"] (defScope sLaw) := ⟨rfl, rfl, rfl, by decide +kernel, rfl, by decide +kernel, by decide +kernel⟩
theorem FnOk.ex {P : Program} {w : World} {K : PySem.W.Frag} {mg : Str → Option Value} {base : Heap} {CX : CXT} {k : Nat} {f : Addr} {fd : FuncData} {ps : List Str} {ι : Type} {sp : ι → Sp} (h : ∀ i, FnOk P w K mg base CX k f fd ps (sp i)) :
    FnOk P w K mg base CX k f fd ps (fun vs H Q E => ∃ i, sp i vs H Q E) :=
  ⟨fun vs H Q E ⟨i, q⟩ => (h i).len vs H Q E q, fun A outer s H args us vs Q E hr he hb hv ⟨i, q⟩ => (h i).run A outer s H args us vs Q E hr he hb hv q⟩
section
variable {P : Program} {w : World} {K : PySem.W.Frag} {mg : Str → Option Value} {base : Heap} {aR : Addr}
def spLaw (K : PySem.W.Frag) : Sp := fun vs H Q _ => ∃ (a : Addr) (ns : List Int), vs = [.ref a] ∧ SqL K H a (ns.map V.int) ∧ ∀ H', Q (.bl true) H'
theorem ok_law {f fDs fPo fDr fLd fD fA fTk fLt : Addr} {fd fdDs fdPo fdDr fdLd fdD fdA fdTk fdLt : FuncData} (F : FnP K "law" sLaw f fd)
    (FDs : FnP K "_law_draws" sDraws fDs fdDs) (gDs : mg "_law_draws" = some (.ref fDs)) (GDs : FnOk P w K mg base CX0 1 fDs fdDs ["_law_script"] (spDraws K))
    (FPo : FnP K "_law_pool" sPool fPo fdPo) (gPo : mg "_law_pool" = some (.ref fPo)) (GPo : ∀ pd, FnOk P w K mg base CX0 2 fPo fdPo ["_law_draws_here"] (spPool pd))
    (FDr : FnP K "_law_drawn" sDrawn fDr fdDr) (gDr : mg "_law_drawn" = some (.ref fDr)) (GDr : ∀ i : Addr × Addr, FnOk P w K mg base CX0 2 fDr fdDr ["_law_draws_here", "_law_pool_here"] (spDrawn i.1 i.2))
    (FLd : FnP K "_law_is_deed" sLDd fLd fdLd) (gLd : mg "_law_is_deed" = some (.ref fLd)) (GLd : ∀ pd, FnOk P w K mg base CX0 3 fLd fdLd ["_law_value_here"] (spLDd pd))
    (FD : FnP K "is_deed" sDeed fD fdD) (gD : mg "is_deed" = some (.ref fD)) (GD : ∀ pd, FnOk P w K mg base CX0 3 fD fdD ["value"] (spDeed pd))
    (FA : FnP K "_law_asks" sAsks fA fdA) (gA : mg "_law_asks" = some (.ref fA)) (GA : ∀ i : Addr × Addr, FnOk P w K mg base CX0 6 fA fdA ["_law_draws_here", "_law_pool_here", "_law_deed"] (spAsks i.1 i.2))
    (FTk : FnP K "_law_taken" sLTk fTk fdTk) (gTk : mg "_law_taken" = some (.ref fTk)) (GTk : ∀ pd, FnOk P w K mg base CX0 5 fTk fdTk ["_law_text_here"] (spTk pd))
    (FLt : FnP K "_law_text" sLTx fLt fdLt) (gLt : mg "_law_text" = some (.ref fLt)) (GLt : ∀ pd, FnOk P w K mg base CX0 1 fLt fdLt ["_law_deed"] (spText pd))
    (mr : mg "range" = none) :
    FnOk P w K mg base CX0 7 f fd ["_law_script"] (spLaw K) := by
  have GPo := FnOk.ex GPo
  have GDr := FnOk.ex GDr
  have GLd := FnOk.ex GLd
  have GD := FnOk.ex GD
  have GA := FnOk.ex GA
  have GTk := FnOk.ex GTk
  have GLt := FnOk.ex GLt
  have bDs : Binds K fdDs ["_law_script"] [] := FDs.bindsN fun _ _ _ _ _ _ us hl => match us, hl with | [_], _ => rfl
  have bPo : Binds K fdPo ["_law_draws_here"] [] := FPo.bindsN fun _ _ _ _ _ _ us hl => match us, hl with | [_], _ => rfl
  have bDr : Binds K fdDr ["_law_draws_here", "_law_pool_here"] [] := FDr.bindsN fun _ _ _ _ _ _ us hl => match us, hl with | [_, _], _ => rfl
  have bLd : Binds K fdLd ["_law_value_here"] [] := FLd.bindsN fun _ _ _ _ _ _ us hl => match us, hl with | [_], _ => rfl
  have bD : Binds K fdD ["value"] [] := FD.bindsN fun _ _ _ _ _ _ us hl => match us, hl with | [_], _ => rfl
  have bA : Binds K fdA ["_law_draws_here", "_law_pool_here", "_law_deed"] [] := FA.bindsN fun _ _ _ _ _ _ us hl => match us, hl with | [_, _, _], _ => rfl
  have bTk : Binds K fdTk ["_law_text_here"] [] := FTk.bindsN fun _ _ _ _ _ _ us hl => match us, hl with | [_], _ => rfl
  have bLt : Binds K fdLt ["_law_deed"] [] := FLt.bindsN fun _ _ _ _ _ _ us hl => match us, hl with | [_], _ => rfl
  refine F.ok scLaw (fun vs H Q E h => ?_) (fun cdv A outer s H vs Q E hr h => ?_)
  · obtain ⟨a, ns, rfl, _⟩ := h
    rfl
  · obtain ⟨a, ns, rfl, hS, q⟩ := h
    have hr1 := hr.mono (show 1 ≤ 6 by decide)
    have hr2 := hr.mono (show 2 ≤ 6 by decide)
    have hr3 := hr.mono (show 3 ≤ 6 by decide)
    have hr5 := hr.mono (show 5 ≤ 6 by decide)
    refine ⟨_, PSs.nox (pss_cons (ps_set (i := 1) scLaw.nd rfl (.inl rfl) (pe_call GDs hr1 (by rfl) gDs FDs.kp bDs .nil pass0 (pa_cons (pv 0) pa_nil)))
      (pss_cons (ps_set (i := 2) scLaw.nd rfl (.inl rfl) (pe_call GPo hr2 (by rfl) gPo FPo.kp bPo .nil pass0 (pa_cons (pv 1) pa_nil)))
      (pss_cons (ps_for PassesOwn.never rfl (pi_range1 rfl mr (pa_cons pe_int pa_nil)) (pg_name (i := 3) scLaw.nd rfl (.inl rfl))
        (pss_cons (ps_set (i := 4) scLaw.nd rfl (.inl rfl) (pe_call GDr hr2 (by rfl) gDr FDr.kp bDr .nil pass0 (pa_cons (pv 1) (pa_cons (pv 2) pa_nil))))
        (pss_cons (ps_set (i := 5) scLaw.nd rfl (.inl rfl) (pe_call GLd hr3 (by rfl) gLd FLd.kp bLd .nil pass0 (pa_cons (pv 4) pa_nil)))
        (pss_cons (ps_if (pt_cmpR op_ne (pe_call GD hr3 (by rfl) gD FD.kp bD .nil pass0 (pa_cons (pv 4) pa_nil)) (pv 5) (nomark _)) (pss_one (ps_ret pe_bl)) pss_nil)
        (pss_cons (ps_if (PW.pt (pw_and (pt_val (pv 5)) (pw_and1 (pt_not (pt_val (pe_call GA hr (by rfl) gA FA.kp bA .nil pass0 (pa_cons (pv 1) (pa_cons (pv 2) (pa_cons (pv 4) pa_nil))))))))) (pss_one (ps_ret pe_bl)) pss_nil)
        (pss_one (ps_if (PW.pt (pw_and (pt_not (pt_val (pv 5))) (pw_and1 (pt_cmpR (op_neD hr.units) (pe_call GTk hr5 (by rfl) gTk FTk.kp bTk .nil pass0 (pa_cons (pe_call GLt hr1 (by rfl) gLt FLt.kp bLt .nil pass0 (pa_cons (pv 4) pa_nil)) pa_nil)) (pe_lst (pa_cons pe_non (pa_cons pe_str pa_nil))) (nomark _))))) (pss_one (ps_ret pe_bl)) pss_nil)))))))
      (pss_one (ps_ret pe_bl))))), ?_⟩
    refine ⟨.ref a, rfl, a, ns, rfl, hS, fun H1 pd zs s1 n1 e1 _ => ?_⟩
    have dr1 : Dr H1 H1 pd := Dr.refl e1
    refine ⟨.ref pd, rfl, pd, rfl, dr1, fun H2 pp ms dr2 npp epp lpp okp => ?_⟩
    have pl2 : Pl pd pp H2 ms := ⟨epp, npp, lpp, okp⟩
    refine ⟨12, rfl, by decide, by decide, for_range (n := 12) (fun i σ H5 => ∃ (x0 x3 x4 x5 : Option V), σ = [x0, some (.ref pd), some (.ref pp), x3, x4, x5] ∧ Dr H2 H5 pd) ⟨_, _, _, _, rfl, dr2.self⟩ ?_ ?_⟩
    · rintro i σ H5 hi ⟨x0, x3, x4, x5, rfl, dr5⟩
      refine ⟨.ref pd, rfl, .ref pp, rfl, (pd, pp), ms, rfl, dr5.self, pl2.up dr5, fun H6 p ds d6 vd dw => ?_⟩
      have d26 := dr5.trans d6
      have g0 := gd_drw dw
      obtain ⟨liL, shD, wzD⟩ := g0.ok (by decide) ds rfl
      have on : ∀ {G : Hp}, Dr H2 G pd → ∃ o, G pd = some o := fun d => let ⟨ys, e⟩ := d.dr; ⟨_, e⟩
      refine ⟨.ref p, rfl, pd, .ref p, .tuple ds, rfl, vd, on d26, fun es e => ?_, fun H7 s7 => ?_⟩
      · injection e with e
        rw [← e]
        exact ⟨shD, wzD⟩
      have vd7 := vd.same s7
      have d27 := d26.same s7
      refine ⟨.ref p, rfl, pd, .ref p, .tuple ds, rfl, vd7, fun es e => ?_, fun H8 s8 => ?_⟩
      · injection e with e
        rw [← e]
        exact liL
      have vd8 := vd7.same s8
      have d28 := d27.same s8
      refine ⟨_, rfl, rfl, _, rfl, ifN (fun _ => ?_) (fun z => absurd rfl z)⟩
      have gd : isDeed (.tuple ds) = isDeedL ds := rfl
      rw [gd]
      obtain ⟨xs, ex, vx, np⟩ : ∃ xs, H8 p = some (.tup xs) ∧ VrA pd H8 xs ds ∧ p ≠ pd := by
        cases vd8 with
        | tu h1 h2 h3 => exact ⟨_, h1, h3, h2⟩
      have hD8 : DsH pd p xs ds H8 := ⟨ex, vx, on d28, np⟩
      refine ⟨_, rfl, _, rfl, ?_⟩
      cases hd : isDeedL ds with
      | true =>
        refine iteT ⟨.ref pd, rfl, .ref pp, rfl, .ref p, rfl, (pd, pp), p, ms, xs, ds, rfl, d28.self, pl2.up d28, hD8, dw, hd, fun H9 d9 => ⟨_, rfl, iteF ?_⟩⟩
        exact ⟨_, rfl, _, rfl, iteF (iteF ⟨_, _, _, _, rfl, d28.trans d9⟩)⟩
      | false =>
        refine iteF (iteF ⟨_, rfl, _, rfl, iteT ?_⟩)
        obtain ⟨bu, pts⟩ := drw_built dw
        have wz0 := (drw_wz dw).1
        have jl := joinW_len (wordsOf ds)
        refine ⟨.ref p, rfl, pd, p, xs, ds, rfl, ⟨ex, vx, pts, by omega⟩, fun H9 s9 => ?_⟩
        have d29 := d28.same s9
        refine ⟨pd, _, rfl, by omega, on d29, fun h => (by rw [bu, hd] at h; cases h), fun _ q4 H10 s10 v10 => ?_⟩
        refine ⟨by show 2 ≤ sizeLine; decide, fun l nl => ?_⟩
        have s5 : Same H10 (upd H10 l (.lst [V.non, V.str "form"])) := same_upd nl
        have e5 : upd H10 l (.lst [V.non, V.str "form"]) l = some (.lst [V.non, V.str "form"]) := upd_same
        refine ⟨.list [.none, .str "form"], .list [.none, .str "form"], (v10.same s5).dp K, .lst (SqL.of e5) (.cons .non (.cons (.str _) .nil)), by decide +kernel, by decide +kernel, _, rfl, ?_⟩
        have e6 : PyData.eqv (.list [.none, .str "form"]) (.list [.none, .str "form"]) = true := by decide +kernel
        rw [e6]
        exact iteF ⟨_, _, _, _, rfl, (d29.same s10).same s5⟩
    · rintro σ H5 ⟨x0, x3, x4, x5, rfl, dr5⟩
      exact q H5
end
end K10
set_option maxHeartbeats 0
namespace K10
open PySem PySem.Spec PyProof.Rows L2 NdefX
/-- the __init__ of the i-th statement of the top, a class -/
def ini (i : Nat) : Stmt := match top i with
  | .ClassDef (body := b) .. => b.headD (.Pass ⟨0, 0, 0, 0⟩)
  | s => s
section
variable {P : Program} {w : World} {K : PySem.W.Frag} {mg : Str → Option Value} {base : Heap} {C fI cc cda : Addr}
theorem units3 {A : Around} {env : Env} (h : A.units + 200 < cLine) : (A.deeper env).units < cLine := by
  show A.units + 3 < cLine
  omega
theorem units5 {A : Around} {env : Env} (h : A.units + 200 < cLine) : (A.deeper env).units + 2 < cLine := by
  show A.units + 3 + 2 < cLine
  omega
theorem i_BadPart (T : SupC P K mg C fI cc cda "BadPart.__init__" (defArgs (ini 2)) (defBody (ini 2)) (defScope (ini 2))) (hno : ∀ f ∈ (["rule"] : List Str), PySem.W.findIn K (.ref C) f = some none) :
    ∃ fd, FnOk P w K mg base CX0 1 fI fd (("self" : Str) :: ["rule"]) (spInit C ["rule"]) ∧ Binds K fd (("self" : Str) :: ["rule"]) [] :=
  init1 T (nscope_by (by decide +kernel)) (ar := ((defArgs (ini 2)).args.headD ⟨"", none, ⟨0, 0, 0, 0⟩⟩)) (by rfl) (by rfl) (by rfl) (fun _ _ _ _ _ _ us hl => match us, hl with | [_, _], _ => rfl) (fun _ => rfl) (fun _ => rfl) (fun A outer s H E hu => ⟨_, pe_joined (.cons pe_str (.cons (pe_fmtRA (units3 hu) (pv 1)) .nil)), fun σ H' R hv q => by
    obtain ⟨v1, e1, h1⟩ := hv 1 (by decide) (by decide)
    exact msg_ok (R := fun out H1 => R (.str out) H1) (fun x => q x) _ Str.empty (List.forall_mem_cons.mpr ⟨good_str (by decide +kernel), List.forall_mem_cons.mpr ⟨good_fmt e1 h1, List.forall_mem_nil _⟩⟩) (by show 0 + 100000 * 2 ≤ sizeLine; rw [sizeLine_eq]; decide)⟩) (by decide +kernel) (by decide +kernel) (hno _ (by decide +kernel))
end
abbrev PP : Program := PySem.Challenge.pw_handsroom_k10_deeds_read_and_written
/-! ### what is looked at -/
def clsB (K : PySem.W.Frag) (C : Addr) : Bool := match K.lookup C with
  | some ⟨.type "type", _, .cls cd, sl⟩ => (match cd.mro, sl.toList with
    | .ref C' :: bm, [_, _, _, _, some (.builtin n), _] => C' == C && n == "ValueError.__new__" && !cd.hasDel && cd.hasDict && PySem.HandSPX.refsVE bm
    | _, _ => false)
  | _ => false
theorem clsB_ok {K : PySem.W.Frag} {C : Addr} (q : clsB K C = true) : ∃ nm q N bs bm sn sub ab col dd k0 k1 k2 k3 k5, K.lookup C = some (excClassObj nm q C N bs bm true sn sub ab col dd k0 k1 k2 k3 k5 "ValueError.__new__") ∧ PySem.HandSPX.refsVE bm = true := by
  unfold clsB at q
  split at q
  · rename_i dd cd sl ho
    split at q
    · rename_i C' bm k0 k1 k2 k3 n k5 hm hs
      simp only [Bool.and_eq_true, beq_iff_eq, Bool.not_eq_true'] at q
      obtain ⟨⟨⟨⟨rfl, rfl⟩, hdel⟩, hd⟩, hb⟩ := q
      obtain ⟨nm, bs, mro, ns, qn, hdd, sn, sub, ab, col, del⟩ := cd
      dsimp only at hm hdel hd
      subst hm hdel hd
      have hsl : sl = #[k0, k1, k2, k3, some (.builtin "ValueError.__new__"), k5] := by
        obtain ⟨l⟩ := sl
        simp only at hs
        rw [hs]
      subst hsl
      exact ⟨nm, qn, ns, bs, bm, sn, sub, ab, col, dd, k0, k1, k2, k3, k5, ho, hb⟩
    · cases q
  · cases q
def cellB (K : PySem.W.Frag) (cc C : Addr) : Bool := match K.lookup cc with
  | some ⟨_, _, .cell (some (.ref D)), _⟩ => D == C
  | _ => false
theorem cellB_ok {K : PySem.W.Frag} {cc C : Addr} (q : cellB K cc C = true) : ∃ (cl : Value) (cld : Option Addr) (csl : Array (Option Value)), K.lookup cc = some ⟨cl, cld, .cell (some (.ref C)), csl⟩ := by
  unfold cellB at q
  split at q
  · rename_i cl cld D csl ho
    rw [← beq_iff_eq.mp q]
    exact ⟨cl, cld, csl, ho⟩
  · cases q
def fileB (K : PySem.W.Frag) (cda : Addr) : Bool := match K.lookup cda with
  | some ⟨_, _, .fields vs, _⟩ => (match (vs[2]? : Option Value) with
    | some (.str fl _) => (PP.main.file : Str) == fl
    | _ => false)
  | _ => false
theorem fileB_ok {K : PySem.W.Frag} {cda : Addr} (q : fileB K cda = true) : ∃ (ccl : Value) (cdd : Option Addr) (vs : Array Value) (ccs : Array (Option Value)) (fl : Str) (tf : Tok), K.lookup cda = some ⟨ccl, cdd, .fields vs, ccs⟩ ∧ vs[2]? = some (.str fl tf) ∧ ((PP.main.file : Str) == fl) = true := by
  unfold fileB at q
  split at q
  · rename_i ccl cdd vs ccs ho
    split at q
    · rename_i fl tf hv
      exact ⟨ccl, cdd, vs, ccs, fl, tf, ho, hv, q⟩
    · cases q
  · cases q
def cloB (K : PySem.W.Frag) (C : Addr) (qn : Str) (clo : List (Str × Addr)) (dfl cod : Value) : Bool := match clo, dfl, cod with
  | [(_, cc)], .none, .ref cda => PySem.W.codeIn K (.ref cda) qn && (cellB K cc C && fileB K cda)
  | _, _, _ => false
theorem cloB_ok {K : PySem.W.Frag} {C : Addr} {qn : Str} {clo : List (Str × Addr)} {dfl cod : Value} (h : cloB K C qn clo dfl cod = true) : ∃ n0 cc cda, clo = [(n0, cc)] ∧ dfl = .none ∧ cod = .ref cda ∧ PySem.W.codeIn K (.ref cda) qn = true ∧ cellB K cc C = true ∧ fileB K cda = true := by
  unfold cloB at h
  split at h
  · rename_i n0 cc cda
    obtain ⟨y1, y2⟩ := He.ba h
    obtain ⟨y3, y4⟩ := He.ba y2
    exact ⟨n0, cc, cda, rfl, rfl, rfl, y1, y3, y4⟩
  · cases h
def fnB (K : PySem.W.Frag) (C fI : Addr) : Bool := match K.lookup fI with
  | some ⟨_, _, .func fd, _⟩ => cloB K C fd.qualname fd.closure fd.defaults fd.code
  | _ => false
abbrev FnE : Type := Option (Str × Arguments × FuncBody × Scope × Addr × List Str × Addr)
def fnE (K : PySem.W.Frag) (x : Str) : FnE := match K.lookup (He.ma K (He.ga K x) "__init__") with
  | some ⟨_, _, .func fd, _⟩ => some (fd.qualname, fd.params, fd.body, fd.scope, fd.globals, fd.closure.map (·.1), fd.builtins)
  | _ => none
def valE (q : Str × Str × Nat) : FnE := some (q.2.1, defArgs (ini q.2.2), .stmts (defBody (ini q.2.2)), defScope (ini q.2.2), mainGlobals, ["__class__"], builtinsNs)
def nextB (K : PySem.W.Frag) (C : Addr) : Bool := match PySem.W.clsIn K C with
  | some cd => He.eqO (PySem.W.alongIn K "__init__" ((cd.mro.dropWhile (· != .ref C)).drop 1)) (some (some (.builtin "ValueError.__init__")))
  | none => false
theorem nextB_ok {K : PySem.W.Frag} {C : Addr} (q : nextB K C = true) : ∃ cd, PySem.W.clsIn K C = some cd ∧ PySem.W.alongIn K "__init__" ((cd.mro.dropWhile (· != .ref C)).drop 1) = some (some (.builtin "ValueError.__init__")) := by
  unfold nextB at q
  split at q
  · rename_i cd hc
    exact ⟨cd, hc, He.eqO_ok q⟩
  · cases q
def oxB (K : PySem.W.Frag) (C : Addr) : Bool := clsB K C && (He.eqO (PySem.W.findIn K (.ref C) "__setattr__") (some (some (.builtin "object.__setattr__"))) && (decide (PySem.W.subIn K (.ref C) (.type "BaseException") = some true) && (decide (PySem.W.typeIn K (.ref C) = some (.type "type")) && PySem.W.keepIn K (.ref C))))
theorem oxB_ok {K : PySem.W.Frag} {C : Addr} (q : oxB K C = true) : OexC K C := by
  obtain ⟨h1, q⟩ := He.ba q
  obtain ⟨h2, q⟩ := He.ba q
  obtain ⟨h3, q⟩ := He.ba q
  obtain ⟨h4, h5⟩ := He.ba q
  exact ⟨clsB_ok h1, He.eqO_ok h2, of_decide_eq_true h3, of_decide_eq_true h4, h5⟩
def ecB (K : PySem.W.Frag) (C : Addr) : Bool := xfB K C && (He.eqO (PySem.W.findIn K (.ref C) "__class__") (some (some (.builtin "object.__class__"))) && (decide (PySem.W.mroIn K C (.type "object") = some true) && (decide (PySem.W.mroIn K C (.ref C) = some true) && decide (PySem.W.subIn K (.ref C) (.type "ValueError") = some true))))
def gsB (K : PySem.W.Frag) : Bool := He.eqO (PySem.W.specialIn K (.builtin "object.__class__") "__get__") (some (some (.builtin "getset_descriptor.__get__"))) && (decide (PySem.W.takesIn K (.builtin "object.__class__") = some true) && He.eqO (PySem.W.nsIn K cStatics "thirdparty.any") (some none))
def exB (K : PySem.W.Frag) (C : Addr) (fns : List Str) : Bool := oxB K C && (ecB K C && (nextB K C && (He.eqO (PySem.W.findIn K (.ref C) "__init__") (some (some (.ref (He.ma K C "__init__")))) && (decide (PySem.W.typeIn K (.ref (He.ma K C "__init__")) = some (.type "function")) && (fnB K C (He.ma K C "__init__") && fns.all fun f => He.eqO (PySem.W.findIn K (.ref C) f) (some none))))))
def exAll (K : PySem.W.Frag) : Bool := gsB K && (exB K (He.ga K "BadPart") ["rule"] && (decide (PySem.W.exmOne K (.ref (He.ga K "BadPart")) (.ref (He.ga K "BadPart")) = some true) && (decide (PySem.W.kitOne K (.ref (He.ga K "BadPart")) (.ref (He.ga K "BadLine")) = some false) && (He.tupB K "RESERVED" (RES.map He.Dv.str) && He.valsB K (He.ga K "_LENGTHS") (LEN.map fun p => (p.1, He.Dv.int (p.2 : Nat)))))))
def fa : List He.Fa := [.glo "is_name", .glo "has_repeat", .glo "_without_guard", .glo "_is_call", .glo "is_deed", .glo "deed_words", .glo "deed_text", .glo "read_deed", .glo "guard_name", .glo "named", .glo "_law_draws", .glo "_law_next", .glo "_law_pool", .glo "_law_is_name", .glo "_law_read", .glo "_law_text", .glo "_law_is_deed", .glo "_law_drawn", .glo "_law_edited", .glo "_law_value", .glo "_law_taken", .glo "_law_asks", .glo "law", .glo "BadPart", .glo "BadLine", .glo "HandsError", .glo "RESERVED", .glo "_LENGTHS", .int "_MOST_CHARACTERS" 8, .str "_LETTERS" lets, .str "_DIGITS" digs, .free "isinstance", .free "str", .free "len", .free "all", .free "any", .free "tuple", .free "list", .free "bool", .free "range", .free "enumerate", .free "int", .free "abs", .free "super"]
def fn : List He.DefD := [⟨("is_name", none), "is_name", "is_name", defArgs sIs, defBody sIs, defScope sIs, [], []⟩, ⟨("has_repeat", none), "has_repeat", "has_repeat", defArgs sRep, defBody sRep, defScope sRep, [], []⟩, ⟨("_without_guard", none), "_without_guard", "_without_guard", defArgs sWg, defBody sWg, defScope sWg, [], []⟩, ⟨("_is_call", none), "_is_call", "_is_call", defArgs sCall, defBody sCall, defScope sCall, [], []⟩, ⟨("is_deed", none), "is_deed", "is_deed", defArgs sDeed, defBody sDeed, defScope sDeed, [], []⟩, ⟨("deed_words", none), "deed_words", "deed_words", defArgs sWords, defBody sWords, defScope sWords, [], []⟩, ⟨("deed_text", none), "deed_text", "deed_text", defArgs sText, defBody sText, defScope sText, [], []⟩, ⟨("read_deed", none), "read_deed", "read_deed", defArgs sRead, defBody sRead, defScope sRead, [], []⟩, ⟨("guard_name", none), "guard_name", "guard_name", defArgs sGuard, defBody sGuard, defScope sGuard, [], []⟩, ⟨("named", none), "named", "named", defArgs sNamed, defBody sNamed, defScope sNamed, [], []⟩, ⟨("_law_draws", none), "_law_draws", "_law_draws", defArgs sDraws, defBody sDraws, defScope sDraws, [], []⟩, ⟨("_law_next", none), "_law_next", "_law_next", defArgs sNext, defBody sNext, defScope sNext, [], []⟩, ⟨("_law_pool", none), "_law_pool", "_law_pool", defArgs sPool, defBody sPool, defScope sPool, [], []⟩, ⟨("_law_is_name", none), "_law_is_name", "_law_is_name", defArgs sLIs, defBody sLIs, defScope sLIs, [], []⟩, ⟨("_law_read", none), "_law_read", "_law_read", defArgs sLRd, defBody sLRd, defScope sLRd, [], []⟩, ⟨("_law_text", none), "_law_text", "_law_text", defArgs sLTx, defBody sLTx, defScope sLTx, [], []⟩, ⟨("_law_is_deed", none), "_law_is_deed", "_law_is_deed", defArgs sLDd, defBody sLDd, defScope sLDd, [], []⟩, ⟨("_law_drawn", none), "_law_drawn", "_law_drawn", defArgs sDrawn, defBody sDrawn, defScope sDrawn, [], []⟩, ⟨("_law_edited", none), "_law_edited", "_law_edited", defArgs sEdit, defBody sEdit, defScope sEdit, [], []⟩, ⟨("_law_value", none), "_law_value", "_law_value", defArgs sValue, defBody sValue, defScope sValue, [], []⟩, ⟨("_law_taken", none), "_law_taken", "_law_taken", defArgs sLTk, defBody sLTk, defScope sLTk, [], []⟩, ⟨("_law_asks", none), "_law_asks", "_law_asks", defArgs sAsks, defBody sAsks, defScope sAsks, [], []⟩, ⟨("law", none), "law", "law", defArgs sLaw, defBody sLaw, defScope sLaw, [], []⟩]
def ts : List He.Tab := [(fun K => He.ga K "_LENGTHS", LEN.map (·.1))]
def ecl : List (Str × Str × Nat) := [("BadPart", "BadPart.__init__", 2)]
abbrev AlE : Type := He.AlT × Bool × List FnE
def obsK (K : PySem.W.Frag) : AlE := (He.obsT fa fn ts K, exAll K, ecl.map fun q => fnE K q.1)
def obsE (g : Addr → Option Obj) : AlE := obsK (He.frG g (cStatics :: He.asD g 4))
def valA (w : World) : AlE := (He.valT fn ts w, true, ecl.map valE)
structure SaysE (w : World) (K : PySem.W.Frag) : Prop where
  t : He.SaysT fa fn ts w K
  ex : exAll K = true
  fe : (ecl.map fun q => fnE K q.1) = ecl.map valE
theorem SaysE.d {w : World} {K : PySem.W.Frag} (c : SaysE w K) : He.SaysD fa fn K := c.t.d
theorem saysE_of {w : World} {K : PySem.W.Frag} (e : obsK K = valA w) : SaysE w K :=
  ⟨congrArg (fun z : AlE => z.1) e, congrArg (fun z : AlE => z.2.1) e, congrArg (fun z : AlE => z.2.2) e⟩
def hookE : PySem.W.Hook where
  α := AlE
  obs := fun s => obsE s.heap.get?
  val := valA
  says := fun w h => ∃ K : PySem.W.Frag, K.In h ∧ SaysE w K
  of := fun _ _ e => ⟨_, He.frG_in, saysE_of e⟩
  keeps := fun _ _ _ ⟨K, hK, c⟩ k => ⟨K, PySem.W.Frag.In.keeps hK k, c⟩
theorem all_at {α : Type} {l : List α} {f : α → Bool} (h : l.all f = true) {j : Nat} {p : α} (e : l[j]? = some p) : f p = true := List.all_eq_true.mp h p (List.mem_of_getElem? e)
section
variable {K : PySem.W.Frag} {mg : Str → Option Value} {w : World} {base : Heap}
theorem sup_of (c : SaysE w K) (hs : mg "super" = none) :
    OexC K (He.ga K "BadPart") ∧ XfC K (He.ga K "BadPart") ∧ ExcC K (He.ga K "BadPart") ∧ (∀ f ∈ (["rule"] : List Str), PySem.W.findIn K (.ref (He.ga K "BadPart")) f = some none) ∧
      ∃ fI cc cda, SupC PP K mg (He.ga K "BadPart") fI cc cda "BadPart.__init__" (defArgs (ini 2)) (defBody (ini 2)) (defScope (ini 2)) := by
  obtain ⟨g, h⟩ := He.ba c.ex
  obtain ⟨h, _⟩ := He.ba h
  obtain ⟨g1, g⟩ := He.ba g
  obtain ⟨g2, g3⟩ := He.ba g
  obtain ⟨h1, h⟩ := He.ba h
  obtain ⟨h2, h⟩ := He.ba h
  obtain ⟨h3, h⟩ := He.ba h
  obtain ⟨h4, h⟩ := He.ba h
  obtain ⟨h5, h⟩ := He.ba h
  obtain ⟨h6, h7⟩ := He.ba h
  obtain ⟨x1, h2⟩ := He.ba h2
  obtain ⟨x2, h2⟩ := He.ba h2
  obtain ⟨x3, h2⟩ := He.ba h2
  obtain ⟨x4, x5⟩ := He.ba h2
  have O := oxB_ok h1
  have F := xfB_ok x1
  refine ⟨O, F, ⟨F.ga, F.gg, F.exC, F.hdC, He.eqO_ok x2, He.eqO_ok g1, of_decide_eq_true g2, of_decide_eq_true x3⟩, fun f hf => He.eqO_ok (List.all_eq_true.mp h7 f hf), ?_⟩
  have fe : (ecl.map fun q => fnE K q.1)[0]? = (ecl.map valE)[0]? := by rw [c.fe]
  have fe : fnE K "BadPart" = valE ("BadPart", "BadPart.__init__", 2) := Option.some.inj fe
  unfold fnB at h6
  unfold fnE at fe
  cases hk : K.lookup (He.ma K (He.ga K "BadPart") "__init__") with
  | none =>
    rw [hk] at h6
    cases h6
  | some o =>
    obtain ⟨oc, od, dt, osl⟩ := o
    rw [hk] at h6 fe
    cases dt with
    | func fd =>
      obtain ⟨nm, qn, pa, bo, sc, gl, clo, dfl, kwd, doc, pm, an, cod, ct, bl⟩ := fd
      have fe2 : (qn, pa, bo, sc, gl, clo.map (·.1), bl) = (("BadPart.__init__" : Str), defArgs (ini 2), FuncBody.stmts (defBody (ini 2)), defScope (ini 2), mainGlobals, [("__class__" : Str)], builtinsNs) := Option.some.inj fe
      simp only [Prod.mk.injEq] at fe2
      obtain ⟨rfl, rfl, rfl, rfl, rfl, ec, rfl⟩ := fe2
      obtain ⟨n0, cc, cda, rfl, rfl, rfl, y1, y3, y4⟩ := cloB_ok (show cloB K (He.ga K "BadPart") "BadPart.__init__" clo dfl cod = true from h6)
      have en : n0 = "__class__" := (List.cons.inj ec).1
      subst en
      exact ⟨_, cc, cda, ⟨O, He.eqO_ok h4, of_decide_eq_true h5, ⟨oc, od, osl, nm, kwd, doc, pm, ct, an, hk⟩, y1, cellB_ok y3, fileB_ok y4, hs, by decide +kernel, He.eqO_ok g3, nextB_ok h3, of_decide_eq_true x4, of_decide_eq_true x5⟩⟩
    | _ => cases h6
/-- a dict of texts: which texts are there -/
theorem find_keys {P : Params} (z : Str) : ∀ (l : List DictEntry) (ks : List Str), l.map He.keyOf = He.keysIn P ks → (l.find? (·.key.isStr z)).isSome = ks.any (· == z) ∧ l.any (·.refKey) = false
  | [], [], _ => ⟨rfl, rfl⟩
  | [], _ :: _, h => by cases h
  | e :: r, [], h => by cases h
  | e :: r, k :: ks, h => by
    have h1 : He.keyOf e :: r.map He.keyOf = some (k, PyData.keyHash P k) :: He.keysIn P ks := h
    injection h1 with h2 h3
    obtain ⟨i1, i2⟩ := find_keys z r ks h3
    unfold He.keyOf at h2
    split at h2
    · rename_i x t hq
      have h4 := Option.some.inj h2
      obtain ⟨h5, h6⟩ := Prod.mk.inj h4
      have e1 : e.key.isStr z = (k == z) := by
        rw [hq, ← h5]
        rfl
      have e2 : e.refKey = false := by
        unfold DictEntry.refKey
        rw [hq]
      refine ⟨?_, by rw [List.any_cons, e2, i2]; rfl⟩
      rw [List.find?_cons, List.any_cons, e1]
      cases (k == z) with
      | true => rfl
      | false => exact i1
    · cases h2
theorem ns_keys {a : Addr} {ks : List Str} (h : He.dicW K a = some (He.keysIn w.params ks)) (z : Str) : ∃ r, PySem.W.nsIn K a z = some r ∧ r.isSome = ks.any (· == z) := by
  unfold He.dicW at h
  cases q : K.lookup a with
  | none =>
    rw [q] at h
    cases h
  | some o =>
    obtain ⟨oc, od, dt, osl⟩ := o
    rw [q] at h
    cases oc with
    | type c =>
      cases od with
      | none =>
        cases dt with
        | dict es n =>
          have h1 : (match decide (c = "dict") && (osl.isEmpty && !(a == sysModules)) with
            | true => some (es.toList.map He.keyOf)
            | false => none) = some (He.keysIn w.params ks) := h
          cases y : decide (c = "dict") && (osl.isEmpty && !(a == sysModules)) with
          | false =>
            rw [y] at h1
            cases h1
          | true =>
            rw [y] at h1
            obtain ⟨i1, i2⟩ := find_keys z _ _ (Option.some.inj h1)
            unfold PySem.W.nsIn
            rw [q]
            show ∃ r, (match es.toList.find? (·.key.isStr z) with
              | some e => some (some e.val)
              | none => if es.toList.any (·.refKey) then none else some none) = some r ∧ _
            cases f : es.toList.find? (·.key.isStr z) with
            | some e =>
              rw [f] at i1
              exact ⟨some e.val, rfl, i1⟩
            | none =>
              rw [f] at i1
              rw [i2]
              exact ⟨none, rfl, i1⟩
        | _ => cases h
      | some b => cases dt <;> cases h
    | _ => cases od <;> cases dt <;> cases h
theorem look_some {z : Str} {k : Nat} : ∀ {l : List (Str × Nat)}, l.lookup z = some k → (z, k) ∈ l
  | [], h => by cases h
  | p :: l, h => by
    rw [List.lookup_cons] at h
    split at h
    · next hh =>
      have e := eq_of_beq hh
      injection h with h
      rw [e, ← h]
      exact List.mem_cons_self
    · exact List.mem_cons_of_mem _ (look_some h)
theorem look_any (z : Str) : ∀ l : List (Str × Nat), (l.lookup z).isSome = (l.map (·.1)).any (· == z)
  | [] => rfl
  | p :: l => by
    rw [List.lookup_cons, List.map_cons, List.any_cons, ← look_any z l]
    cases e : (z == p.1) with
    | true =>
      rw [eq_of_beq e, beq_self_eq_true]
      rfl
    | false =>
      have : (p.1 == z) = false := by
        cases f : (p.1 == z) with
        | false => rfl
        | true =>
          rw [eq_of_beq f, beq_self_eq_true] at e
          cases e
      rw [this]
      rfl
theorem len_of (c : SaysE w K) (g : mg "_LENGTHS" = some (.ref (He.ga K "_LENGTHS"))) : LenD K w mg (He.ga K "_LENGTHS") := by
  have e : (ts.map fun t => He.dicW K (t.1 K))[0]? = (ts.map fun t => some (He.keysIn w.params t.2))[0]? := by
    have := congrArg (fun z : He.AlT => z.2) c.t
    exact congrArg (fun z : List (Option (List (Option (Str × Int)))) => z[0]?) this
  have e : He.dicW K (He.ga K "_LENGTHS") = some (He.keysIn w.params (LEN.map (·.1))) := Option.some.inj e
  obtain ⟨_, h⟩ := He.ba c.ex
  obtain ⟨_, h⟩ := He.ba h
  obtain ⟨_, h⟩ := He.ba h
  obtain ⟨_, h⟩ := He.ba h
  obtain ⟨_, hv⟩ := He.ba h
  obtain ⟨es, n, KD⟩ := c.t.tab 0 (t := (fun K => He.ga K "_LENGTHS", LEN.map (·.1))) rfl
  refine ⟨g, ⟨es, n, KD⟩, fun z => ?_, fun z k hz => ?_⟩
  · obtain ⟨r, h1, h2⟩ := ns_keys e z
    exact ⟨r, h1, by rw [h2, look_any]⟩
  · obtain ⟨u, h1, h2⟩ := He.valsB_ok hv (q := (z, He.Dv.int (k : Nat))) (List.mem_map.mpr ⟨(z, k), look_some hz, rfl⟩)
    exact ⟨es, n, u, KD.at_, KD.lit, h1, h2⟩
end
end K10
namespace K10
open PySem PySem.Spec PyProof.Rows L2
abbrev RR : PySem.W.OpenRow := PySem.W.OpenLaw.row PySem.Challenge.rw_handsroom_k10_deeds_read_and_written
def n1 : List PySem.Str := ["HandsError", "BadPart", "BadLine", "has_repeat", "RESERVED", "_LETTERS", "_DIGITS", "_MOST_CHARACTERS", "is_name", "_LENGTHS", "_without_guard", "_is_call", "is_deed", "deed_words", "deed_text"]
def n2 : List PySem.Str := ["read_deed", "guard_name", "named", "_law_draws", "_law_next", "_law_pool", "_law_is_name", "_law_read", "_law_text", "_law_is_deed", "_law_drawn", "_law_edited", "_law_value", "_law_taken", "_law_asks"]
def names : List PySem.Str := n1 ++ n2
def ob (s : PySem.W.SharedT) : AlE := obsE (HandSHeadRun.getT s)
theorem ob_eq (s : PySem.W.SharedT) : ob s = hookE.obs s.abs := by
  have e : HandSHeadRun.getT s = s.abs.heap.get? := funext fun a => HandSHeadRun.getT_eq s a
  show obsE (HandSHeadRun.getT s) = obsE s.abs.heap.get?
  rw [e]
theorem run0 (w : World) : HandSHeadRun.RunEq RR (PySem.W.view RR.prog [35]) hookE ob 9000 names (w.withFollow "special-get-raises" false) := by
  intro os
  kernel_rfl
theorem run1 (w : World) : HandSHeadRun.RunEq RR (PySem.W.view RR.prog [35]) hookE ob 9000 names (w.withFollow "special-get-raises" true) := by
  intro os
  kernel_rfl
theorem run (w : World) : HandSHeadRun.RunEq RR (PySem.W.view RR.prog [35]) hookE ob 9000 names w :=
  PySem.W.byRow2 "special-get-raises" (P := fun w => HandSHeadRun.RunEq RR (PySem.W.view RR.prog [35]) hookE ob 9000 names w) run0 run1 w
end K10
namespace K10
open PySem PySem.Spec PyProof.Rows L2
theorem facts {w : World} {K : PySem.W.Frag} {h : Heap} {mg : Str → Option Value} {f : Addr} (X : K.In h) (G : h.Ns mainGlobals mg) (hfa : mg ("law" : Str) = some (.ref f)) (c : SaysE w K) :
    ∃ fd : FuncData, (∀ (s : Shared) (v : Value), BindsTo s fd ⟨[v], []⟩ [("_law_script", v)]) ∧ ∀ base : Heap, K.In base → base.Ns mainGlobals mg → FnOk PP w K mg base CX0 7 f fd ["_law_script"] (spLaw K) := by
  obtain ⟨fdI, FI⟩ := c.d.def_ 0 (d := ⟨("is_name", none), "is_name", "is_name", defArgs sIs, defBody sIs, defScope sIs, [], []⟩) rfl
  obtain ⟨fdRp, FRp⟩ := c.d.def_ 1 (d := ⟨("has_repeat", none), "has_repeat", "has_repeat", defArgs sRep, defBody sRep, defScope sRep, [], []⟩) rfl
  obtain ⟨fdG, FG⟩ := c.d.def_ 2 (d := ⟨("_without_guard", none), "_without_guard", "_without_guard", defArgs sWg, defBody sWg, defScope sWg, [], []⟩) rfl
  obtain ⟨fdC, FC⟩ := c.d.def_ 3 (d := ⟨("_is_call", none), "_is_call", "_is_call", defArgs sCall, defBody sCall, defScope sCall, [], []⟩) rfl
  obtain ⟨fdD, FD⟩ := c.d.def_ 4 (d := ⟨("is_deed", none), "is_deed", "is_deed", defArgs sDeed, defBody sDeed, defScope sDeed, [], []⟩) rfl
  obtain ⟨fdW, FW⟩ := c.d.def_ 5 (d := ⟨("deed_words", none), "deed_words", "deed_words", defArgs sWords, defBody sWords, defScope sWords, [], []⟩) rfl
  obtain ⟨fdT, FT⟩ := c.d.def_ 6 (d := ⟨("deed_text", none), "deed_text", "deed_text", defArgs sText, defBody sText, defScope sText, [], []⟩) rfl
  obtain ⟨fdRd, FRd⟩ := c.d.def_ 7 (d := ⟨("read_deed", none), "read_deed", "read_deed", defArgs sRead, defBody sRead, defScope sRead, [], []⟩) rfl
  obtain ⟨fdGn, FGn⟩ := c.d.def_ 8 (d := ⟨("guard_name", none), "guard_name", "guard_name", defArgs sGuard, defBody sGuard, defScope sGuard, [], []⟩) rfl
  obtain ⟨fdNm, FNm⟩ := c.d.def_ 9 (d := ⟨("named", none), "named", "named", defArgs sNamed, defBody sNamed, defScope sNamed, [], []⟩) rfl
  obtain ⟨fdDs, FDs⟩ := c.d.def_ 10 (d := ⟨("_law_draws", none), "_law_draws", "_law_draws", defArgs sDraws, defBody sDraws, defScope sDraws, [], []⟩) rfl
  obtain ⟨fdN, FN⟩ := c.d.def_ 11 (d := ⟨("_law_next", none), "_law_next", "_law_next", defArgs sNext, defBody sNext, defScope sNext, [], []⟩) rfl
  obtain ⟨fdPo, FPo⟩ := c.d.def_ 12 (d := ⟨("_law_pool", none), "_law_pool", "_law_pool", defArgs sPool, defBody sPool, defScope sPool, [], []⟩) rfl
  obtain ⟨fdLi, FLi⟩ := c.d.def_ 13 (d := ⟨("_law_is_name", none), "_law_is_name", "_law_is_name", defArgs sLIs, defBody sLIs, defScope sLIs, [], []⟩) rfl
  obtain ⟨fdLr, FLr⟩ := c.d.def_ 14 (d := ⟨("_law_read", none), "_law_read", "_law_read", defArgs sLRd, defBody sLRd, defScope sLRd, [], []⟩) rfl
  obtain ⟨fdLt, FLt⟩ := c.d.def_ 15 (d := ⟨("_law_text", none), "_law_text", "_law_text", defArgs sLTx, defBody sLTx, defScope sLTx, [], []⟩) rfl
  obtain ⟨fdLd, FLd⟩ := c.d.def_ 16 (d := ⟨("_law_is_deed", none), "_law_is_deed", "_law_is_deed", defArgs sLDd, defBody sLDd, defScope sLDd, [], []⟩) rfl
  obtain ⟨fdDr, FDr⟩ := c.d.def_ 17 (d := ⟨("_law_drawn", none), "_law_drawn", "_law_drawn", defArgs sDrawn, defBody sDrawn, defScope sDrawn, [], []⟩) rfl
  obtain ⟨fdE, FE⟩ := c.d.def_ 18 (d := ⟨("_law_edited", none), "_law_edited", "_law_edited", defArgs sEdit, defBody sEdit, defScope sEdit, [], []⟩) rfl
  obtain ⟨fdV, FV⟩ := c.d.def_ 19 (d := ⟨("_law_value", none), "_law_value", "_law_value", defArgs sValue, defBody sValue, defScope sValue, [], []⟩) rfl
  obtain ⟨fdTk, FTk⟩ := c.d.def_ 20 (d := ⟨("_law_taken", none), "_law_taken", "_law_taken", defArgs sLTk, defBody sLTk, defScope sLTk, [], []⟩) rfl
  obtain ⟨fdA, FA⟩ := c.d.def_ 21 (d := ⟨("_law_asks", none), "_law_asks", "_law_asks", defArgs sAsks, defBody sAsks, defScope sAsks, [], []⟩) rfl
  obtain ⟨fdL, FL⟩ := c.d.def_ 22 (d := ⟨("law", none), "law", "law", defArgs sLaw, defBody sLaw, defScope sLaw, [], []⟩) rfl
  have gI := (He.glo_ok X G (c.d.fact 0 (f := .glo "is_name") rfl))
  have gRp := (He.glo_ok X G (c.d.fact 1 (f := .glo "has_repeat") rfl))
  have gG := (He.glo_ok X G (c.d.fact 2 (f := .glo "_without_guard") rfl))
  have gC := (He.glo_ok X G (c.d.fact 3 (f := .glo "_is_call") rfl))
  have gD := (He.glo_ok X G (c.d.fact 4 (f := .glo "is_deed") rfl))
  have gW := (He.glo_ok X G (c.d.fact 5 (f := .glo "deed_words") rfl))
  have gT := (He.glo_ok X G (c.d.fact 6 (f := .glo "deed_text") rfl))
  have gRd := (He.glo_ok X G (c.d.fact 7 (f := .glo "read_deed") rfl))
  have gGn := (He.glo_ok X G (c.d.fact 8 (f := .glo "guard_name") rfl))
  have gNm := (He.glo_ok X G (c.d.fact 9 (f := .glo "named") rfl))
  have gDs := (He.glo_ok X G (c.d.fact 10 (f := .glo "_law_draws") rfl))
  have gN := (He.glo_ok X G (c.d.fact 11 (f := .glo "_law_next") rfl))
  have gPo := (He.glo_ok X G (c.d.fact 12 (f := .glo "_law_pool") rfl))
  have gLi := (He.glo_ok X G (c.d.fact 13 (f := .glo "_law_is_name") rfl))
  have gLr := (He.glo_ok X G (c.d.fact 14 (f := .glo "_law_read") rfl))
  have gLt := (He.glo_ok X G (c.d.fact 15 (f := .glo "_law_text") rfl))
  have gLd := (He.glo_ok X G (c.d.fact 16 (f := .glo "_law_is_deed") rfl))
  have gDr := (He.glo_ok X G (c.d.fact 17 (f := .glo "_law_drawn") rfl))
  have gE := (He.glo_ok X G (c.d.fact 18 (f := .glo "_law_edited") rfl))
  have gV := (He.glo_ok X G (c.d.fact 19 (f := .glo "_law_value") rfl))
  have gTk := (He.glo_ok X G (c.d.fact 20 (f := .glo "_law_taken") rfl))
  have gA := (He.glo_ok X G (c.d.fact 21 (f := .glo "_law_asks") rfl))
  have e := hfa.symm.trans (He.glo_ok X G (c.d.fact 22 (f := .glo "law") rfl))
  cases e
  have b := FunD.bindsA (ps := ["_law_script"]) FL fun _ _ _ _ _ _ us hl => match us, hl with | [_], _ => rfl
  obtain ⟨tm, hm⟩ := He.int_ok X G (c.d.fact 28 (f := .int "_MOST_CHARACTERS" 8) rfl)
  obtain ⟨tl, hl⟩ := He.str_ok X G (c.d.fact 29 (f := .str "_LETTERS" lets) rfl)
  obtain ⟨td, hd⟩ := He.str_ok X G (c.d.fact 30 (f := .str "_DIGITS" digs) rfl)
  have m_isinstance := (He.free_ok X G (c.d.fact 31 (f := .free "isinstance") rfl))
  have m_str := (He.free_ok X G (c.d.fact 32 (f := .free "str") rfl))
  have m_len := (He.free_ok X G (c.d.fact 33 (f := .free "len") rfl))
  have m_all := (He.free_ok X G (c.d.fact 34 (f := .free "all") rfl))
  have m_any := (He.free_ok X G (c.d.fact 35 (f := .free "any") rfl))
  have m_tuple := (He.free_ok X G (c.d.fact 36 (f := .free "tuple") rfl))
  have m_list := (He.free_ok X G (c.d.fact 37 (f := .free "list") rfl))
  have m_bool := (He.free_ok X G (c.d.fact 38 (f := .free "bool") rfl))
  have m_range := (He.free_ok X G (c.d.fact 39 (f := .free "range") rfl))
  have m_enumerate := (He.free_ok X G (c.d.fact 40 (f := .free "enumerate") rfl))
  have m_int := (He.free_ok X G (c.d.fact 41 (f := .free "int") rfl))
  have m_abs := (He.free_ok X G (c.d.fact 42 (f := .free "abs") rfl))
  have m_super := (He.free_ok X G (c.d.fact 43 (f := .free "super") rfl))
  obtain ⟨_, z⟩ := He.ba c.ex
  obtain ⟨_, z⟩ := He.ba z
  obtain ⟨zE, z⟩ := He.ba z
  obtain ⟨zK, z⟩ := He.ba z
  obtain ⟨zR, _⟩ := He.ba z
  have NM : Nm K mg (He.ga K "RESERVED") := ⟨m_isinstance, m_str, m_len, m_all, ⟨tm, hm⟩, ⟨tl, hl⟩, ⟨td, hd⟩, (He.glo_ok X G (c.d.fact 26 (f := .glo "RESERVED") rfl)), fun H => He.tupB_ok zR H⟩
  have LD := len_of c (He.glo_ok X G (c.d.fact 27 (f := .glo "_LENGTHS") rfl))
  obtain ⟨O, XF, EC, no, fB, cc, cda, T⟩ := sup_of c m_super
  refine ⟨fdL, fun s v => b s [v] rfl, fun base _ _ => ?_⟩
  obtain ⟨fdB, GB, BB⟩ := i_BadPart (w := w) (base := base) T no
  have B : ErC PP w K mg base "BadPart" (He.ga K "BadPart") ["rule"] := ⟨(He.glo_ok X G (c.d.fact 23 (f := .glo "BadPart") rfl)), O, ⟨fB, fdB, _, T.iC, T.tI, GB, BB⟩, XF, no, EC⟩
  have gBL := (He.glo_ok X G (c.d.fact 24 (f := .glo "BadLine") rfl))
  have kD := fun pd => ok_deed (P := PP) (w := w) (base := base) (pd := pd) FD FI gI FG gG FC gC FRp gRp NM m_tuple m_enumerate m_any LD
  have kTx := fun pd => ok_text (P := PP) (w := w) (base := base) (pd := pd) FT FW gW m_isinstance m_tuple
  have kGn := fun pd => ok_guard (P := PP) (w := w) (base := base) (pd := pd) FGn m_len
  have kNm := fun pd => ok_named (P := PP) (w := w) (base := base) (pd := pd) FNm FI gI FG gG NM
  have kRd := fun pd => ok_read (P := PP) (w := w) (base := base) (pd := pd) FRd FD gD (kD pd) B m_len m_tuple
  have kLr := fun pd => ok_lread (P := PP) (w := w) (base := base) (pd := pd) FLr FLi gLi NM m_tuple m_enumerate
  have kLt := fun pd => ok_ltext (P := PP) (w := w) (base := base) (pd := pd) FLt m_isinstance m_tuple m_list
  have kLd := fun pd => ok_ldeed (P := PP) (w := w) (base := base) (pd := pd) FLd FLr gLr (kLr pd) NM m_tuple m_list m_enumerate
  have kTk := fun pd => ok_tk (P := PP) (w := w) (base := base) (pd := pd) FTk FRd gRd (kRd pd) B gBL (of_decide_eq_true zE) (of_decide_eq_true zK) m_isinstance m_int
  have kPo := fun pd => ok_pool (P := PP) (w := w) (base := base) (pd := pd) FPo FN gN m_len m_int m_range
  have kDr := fun (i : Addr × Addr) => ok_drawn (P := PP) (w := w) (base := base) (pd := i.1) (pp := i.2) FDr FN gN m_len m_int m_range
  have kE := fun (i : Addr × Addr) => ok_edit (P := PP) (w := w) (base := base) (pd := i.1) (pp := i.2) FE FN gN m_len m_int
  have kV := fun pd => ok_value (P := PP) (w := w) (base := base) (pd := pd) FV FN gN m_len m_int m_list
  have kDs := ok_draws (P := PP) (w := w) (base := base) FDs m_enumerate m_abs m_int m_range m_len
  have kA := fun (i : Addr × Addr) => ok_asks (P := PP) (w := w) (base := base) (pd := i.1) (pp := i.2) FA FLt gLt (kLt i.1) FT gT (kTx i.1) FGn gGn (kGn i.1) FTk gTk (kTk i.1) FN gN FNm gNm (kNm i.1) FV gV (kV i.1) FD gD (kD i.1) FLd gLd (kLd i.1) FE gE (kE i) FLr gLr (kLr i.1) m_len m_int m_isinstance m_bool m_range m_tuple
  exact ok_law FL FDs gDs kDs FPo gPo kPo FDr gDr kDr FLd gLd kLd FD gD kD FA gA kA FTk gTk kTk FLt gLt kLt m_range
end K10
open PySem PySem.W PySem.Calls PyProof.Rows
theorem PySem.Challenge.cw_handsroom_k10_deeds_read_and_written_holds : PySem.Challenge.rw_handsroom_k10_deeds_read_and_written.Holds := by
  w_on; o_law
  refine HandSHeadRun.head_any (r := OpenLaw.row PySem.Challenge.rw_handsroom_k10_deeds_read_and_written) (q := view (OpenLaw.row PySem.Challenge.rw_handsroom_k10_deeds_read_and_written).prog [35]) (H := K10.hookE) (ob := K10.ob) (M := 9000) (loose := K10.names) (d := HandSHeadRun.topDef (OpenLaw.row PySem.Challenge.rw_handsroom_k10_deeds_read_and_written).prog 35) (kwd := []) K10.ob_eq
    (by kernel_rfl) (fun s => by kernel_rfl) K10.run (by kernel_rfl) (by kernel_rfl) (by kernel_rfl) (by rfl) (by first | assumption | decide +kernel) (by decide +kernel) ⟨rfl, rfl, rfl, rfl, rfl, by decide +kernel⟩ ?hw ?hc
  case hw => w_witness2
  case hc =>
    refine L2.walk_ofE (l := PySem.Challenge.rw_handsroom_k10_deeds_read_and_written) (n := 63) (k := 7) (x := "_law_script") (CX := L2.CX0) rfl (by decide) (by kernel_rfl) ⟨rfl, by decide, by decide⟩ ?F (fun _ _ _ _ z => z)
    intro w mg fa h Y G hmg0
    obtain ⟨K, KX, c⟩ := Y
    have hmg : mg ("law" : PySem.Str) = some (.ref fa) := by
      have e : (HandSHeadRun.topDef (OpenLaw.row PySem.Challenge.rw_handsroom_k10_deeds_read_and_written).prog 35).name = ("law" : PySem.Str) := by kernel_rfl
      rw [← e]
      exact hmg0
    obtain ⟨fd, hb, hF⟩ := K10.facts (w := w) KX G hmg c
    exact ⟨K, fd, K10.spLaw K, KX, hb, fun H a ns hl _ hS => ⟨a, ns, rfl, hS, fun _ => rfl⟩, hF⟩
