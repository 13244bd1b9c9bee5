import PyProof.Rows.All
import Wide.All
import OpenK.AllK
import Wide.FinOn
import PyProof.EqAt
import PyProof.EqKinds
import PyProof.TupleCall
import KE.KExcSuper
import HandS.ForMost
import HandS.Exc
import HandS.ExcInit
import HandS.ExcSuper
import HandS.ExcField
import HandS.ExcIs
import HandS.Nested
import HandS.ClsMeth
import HandS.FStr
import HandS.IsInst
import HandS.Defaults
import HandS.Text
import HandS.Iter
import HandS.Walk
import HandS.TupAny
import HandS.Conv
import KE.GoesMore
import PyProof.Draws
import PyProof.EnumMake
import PyProof.AutoSeq1
import HandS.WordsExc
import HandS.ExcOwn
import HandS.More
import HandS.Star
import HandS.OwnEq
import HandS.Deep
import HandS.Codes
import PyProof.StrLawsRepr
import KE.KStateDown
import Lean
import HandS.Head0
import HandS.Head1
import HandS.Head2
import HandS.HeadEnd
import HandS.HeadHook4
import PySem.Challenge.RW_handsroom_k01_hall_parts
set_option Elab.async false
set_option linter.all false
set_option maxRecDepth 100000
set_option maxHeartbeats 4000000
namespace PySem
namespace ErrX
open Sem
section
variable {prog : Program} {w : World} {A : Around} {E : Value → Shared → Prop} {s : Shared} {a : Addr} {o : Obj} {items : Array Value} {n : Nat} {ts : List Str}
/-- repr of a tuple, whatever stands on the stack -/
theorem call_tuple_repr_any {Q : Value → Shared → Prop} (hTy : s.TypeIs (.ref a) "tuple") (ha : s.heap.get? a = some o) (hd : o.data = .seq items n) (hT : ReprAll prog w items.toList ts)
    (hQ : ∀ (y : Str) u tk, y.length ≤ 100000 → Q (.str y u) { s with toks := tk }) (hsz : (tupleText ts).length ≤ 100000) :
    wpAny (model prog w) A (call (.builtin "tuple.__repr__") [.ref a]) Q E s := by
  refine wpAny_call (codeAny_call_builtin_own (Code.quiet_builtin _ (by decide +kernel)) F.entry_tuple_repr (F.slot_tuple_repr.check _ _ _ _ _ _ _ _ hTy (F.args_tuple_repr_1 _) ?_))
  show wpOwn _ _ _ (Builtin.tupleReprAt 0 ⟨[.ref a], []⟩) _ _ _
  rw [tuple_repr_tree, tupleReprUnderWay_eq]
  refine wpOwn_of_wpAny (wpAny_bind (wpAny_bind (wpAny_stack_any fun st => wpAny_pure ?_)))
  cases st.tail.any (tupGuardF (.ref a)) with
  | true =>
    show wpAny _ _ (do rule "tuple.repr.in-itself"; retStr "(...)") _ _ _
    refine wpAny_bind (wpAny_rule ?_)
    refine wpAny_bind (wpAny_mkStr (wpAny_pure ?_) (by decide +kernel))
    exact hQ _ _ _ (by decide +kernel)
  | false =>
    show wpAny _ _ (tupleReprRest 0 (.ref a)) _ _ _
    exact wpAny_tupleReprRest ha hd hT (fun u tk => hQ _ u tk hsz) (by rw [sizeLine_eq]; omega)
theorem pyReprObj_tuple_any {Q : Value → Shared → Prop} (hTy : s.TypeIs (.ref a) "tuple") (hu : A.units < cLine) (ha : s.heap.get? a = some o) (hd : o.data = .seq items n) (hT : ReprAll prog w items.toList ts)
    (hQ : ∀ (y : Str) u tk, y.length ≤ 100000 → Q (.str y u) { s with toks := tk }) (hsz : (tupleText ts).length ≤ 100000) : wpAny (model prog w) A (pyReprObj (.ref a)) Q E s := by
  unfold pyReprObj
  refine wpAny_bind (wpAny_cRoomFor hu ?_)
  refine wpAny_bind (wpAny_specialOf (name := Str.ofString "__repr__") hTy F.slot_tuple_repr.lookup ?_)
  refine wpAny_bind (m := callSpecialIfBound? (.ref a) (Str.ofString "__repr__")) (wpAny_callSpecialIfBound?_slotG (name := Str.ofString "__repr__") hTy F.slot_tuple_repr
    (call_tuple_repr_any hTy ha hd hT (fun y u tk hy => ?_) hsz))
  exact wpAny_bind (wpAny_isInstance (T := "str") (b := true) rfl isSubtype_str_str (wpAny_pure (hQ y u tk hy)))
end
end ErrX
end PySem

namespace L2
open PySem PySem.Spec PyProof.Rows
/-- a text or an int whose repr is short -/
def Sho (v : V) : Prop := (∃ y : Str, v = .str y ∧ (reprText y).length ≤ 1000 ∧ y.length ≤ 1000) ∨ ∃ i : Int, v = .int i ∧ i.natAbs.log2 < 1920
theorem sho_len {i : Int} (h : i.natAbs.log2 < 1920) : (Str.ofString (toString i)).length ≤ 1921 := int_text_len_1921 h
theorem tupT_len (ts : List Str) : (tupleText ts).length ≤ piled ts + 4 := by
  unfold tupleText
  rw [strLen_append, strLen_append]
  have e1 : ((("(" : String) : Str)).length = 1 := rfl
  have e3 : (((if ts.length == 1 then ",)" else ")" : String) : Str)).length ≤ 2 := by split <;> decide
  rw [e1]
  by_cases h : ts = []
  · subst h
    have e2 : (Str.join ", " []).length = 0 := rfl
    rw [e2]
    omega
  · have := join_length_add ts h
    omega
theorem sho_all {P : Program} {w : World} : ∀ {xs : List V} {us : List Value}, Vals xs us → (∀ v ∈ xs, Sho v) → ∃ ts, ReprAll P w us ts ∧ piled ts ≤ 2000 * xs.length
  | _, _, .nil, _ => ⟨[], .nil, by simp [piled]⟩
  | v :: xs, _ :: us, .cons r rs, h => by
    obtain ⟨ts, h1, h2⟩ := sho_all rs fun u hu => h u (List.mem_cons_of_mem _ hu)
    rcases h v List.mem_cons_self with ⟨y, rfl, hy, _⟩ | ⟨i, rfl, hi⟩
    · obtain ⟨t, rfl⟩ := r
      refine ⟨_, .cons (ReprIs.str y t (by rw [sizeLine_eq]; omega)) h1, ?_⟩
      rw [piled_cons, List.length_cons]
      omega
    · obtain ⟨t, rfl⟩ := r
      refine ⟨_, .cons (ReprIs.int t hi) h1, ?_⟩
      have := sho_len hi
      rw [piled_cons, List.length_cons]
      omega
section
variable {X : Cx}
def tFmtRA (te : TE) : TE := fun σ H Q => te σ H fun x H1 => (Sho x ∨ ∃ p xs, x = .ref p ∧ H1 p = some (.tup xs) ∧ xs.length ≤ 10 ∧ ∀ v ∈ xs, Sho v) ∧ ∀ y : Str, y.length ≤ 100000 → Q (.str y) H1
theorem pe_fmtRA {e : Expr} {te : TE} {pos : Pos} (hu : X.A.units < cLine) (he : PE X e te) : PE X (.FormattedValue e 114 none pos) (tFmtRA te) := by
  refine ⟨fun pins s σ H Q I h => ?_⟩
  refine wpAny_FormattedValue_repr (thn (he.run pins s σ H _ I h) fun v s1 hv => ?_)
  obtain ⟨x, H1, I1, r1, hs, q⟩ := hv
  have sl : (100000 : Nat) ≤ sizeLine := by rw [sizeLine_eq]; omega
  rcases hs with (⟨y, rfl, hz, _⟩ | ⟨i, rfl, hz⟩) | ⟨p, xs, rfl, hp, hl, hx⟩
  · obtain ⟨t, rfl⟩ := r1
    have hz2 : (reprText y).length ≤ sizeLine := by omega
    exact pyReprObj_str (wpAny_formatField_str ⟨.str (reprText y), H1, I1.tok _, ⟨_, rfl⟩, q _ (by omega)⟩ ⟨.str (reprText y), H1, I1.tok _, ⟨_, rfl⟩, q _ (by omega)⟩ hz2) hz2
  · obtain ⟨t, rfl⟩ := r1
    have h3 := sho_len hz
    exact pyReprObj_int hz (wpAny_formatField_str ⟨.str (toString i), H1, I1.tok _, ⟨_, rfl⟩, q _ (by omega)⟩ ⟨.str (toString i), H1, I1.tok _, ⟨_, rfl⟩, q _ (by omega)⟩ (int_text_fits hz))
  · cases r1
    obtain ⟨_, its, rv, o, ho, hc, n, hd⟩ := I1.hok p _ hp
    obtain ⟨ts, h1, h2⟩ := sho_all (P := X.prog) (w := X.w) rv hx
    have h3 := tupT_len ts
    refine ErrX.pyReprObj_tuple_any ⟨o, ho, hc⟩ hu ho hd h1 (fun y u tk hy => ?_) (by omega)
    exact wpAny_formatField_str ⟨.str y, H1, I1.tok _, ⟨_, rfl⟩, q y hy⟩ ⟨.str y, H1, I1.tok _, ⟨_, rfl⟩, q y hy⟩ (by omega)
/-- {x}: a short text, an int, or a tuple of such -/
def tFmtA (te : TE) : TE := fun σ H Q => te σ H fun x H1 => (Sho x ∨ ∃ p xs, x = .ref p ∧ H1 p = some (.tup xs) ∧ xs.length ≤ 10 ∧ ∀ v ∈ xs, Sho v) ∧ ∀ y : Str, y.length ≤ 100000 → Q (.str y) H1
theorem pe_fmtA {e : Expr} {te : TE} {pos : Pos} (hu : X.A.units + 2 < cLine) (he : PE X e te) : PE X (.FormattedValue e (-1) none pos) (tFmtA te) := by
  refine ⟨fun pins s σ H Q I h => ?_⟩
  refine wpAny_FormattedValue_plain (thn (he.run pins s σ H _ I h) fun v s1 hv => ?_)
  obtain ⟨x, H1, I1, r1, hs, q⟩ := hv
  have sl : (100000 : Nat) ≤ sizeLine := by rw [sizeLine_eq]; omega
  rcases hs with (⟨y, rfl, _, hz⟩ | ⟨i, rfl, hz⟩) | ⟨p, xs, rfl, hp, hl, hx⟩
  · obtain ⟨t, rfl⟩ := r1
    exact wpAny_formatField_str ⟨.str y, H1, I1, ⟨t, rfl⟩, q _ (by omega)⟩ ⟨.str y, H1, I1.tok _, ⟨_, rfl⟩, q _ (by omega)⟩ (by omega)
  · obtain ⟨t, rfl⟩ := r1
    have h3 := sho_len hz
    exact wpAny_formatField_int hz ⟨.str (toString i), H1, I1.tok _, ⟨_, rfl⟩, q _ (by omega)⟩
  · cases r1
    obtain ⟨_, its, rv, o, ho, hc, n, hd⟩ := I1.hok p _ hp
    obtain ⟨ts, h1, h2⟩ := sho_all (P := X.prog) (w := X.w) rv hx
    have h3 := tupT_len ts
    exact wpAny_formatField_slot (fun _ _ => nofun) hu ⟨o, ho, hc⟩ F.slot_tuple_format F.slot_tuple_str F.slot_tuple_repr
      (ErrX.call_tuple_repr_any ⟨o, ho, hc⟩ ho hd h1 (fun y u tk hy => ⟨y, u, rfl, .str y, H1, I1.tok _, ⟨_, rfl⟩, q y hy⟩) (by omega))
end
end L2

namespace PySem
namespace ErrX
open PySem.W PySem.Calls PyProof.Rows
section
variable {prog : Program} {w : World} {A : Around} {E : Value → Shared → Prop} {h : Heap} {g : Array GenState} {d : Drawn} {t : Nat} {os : OsState}
variable {nm q : Str} {C N : Addr} {bs bm : List Value} {hdct : Bool} {sn : List Str} {sub : List Value} {ab : Bool} {col : Option Bool} {dd : Option Addr} {k0 k1 k2 k3 k5 : Option Value}
/-- the bound ValueError.__init__ called: the args are laid anew -/
theorem call_mw {u e t0 : Addr} {rest : List Value} {Q : Value → Shared → Prop}
    (hC : h.get? C = some (excClassObj nm q C N bs bm hdct sn sub ab col dd k0 k1 k2 k3 k5 "ValueError.__new__")) (he : h.get? e = some (HandSPX.excO C t0)) (hu : h.get? u = some (kxs_mw "ValueError.__init__" e)) (hrest : rest.length ≤ sizeLine)
    (hq : ∀ h' t1, (∀ b o, b ≠ e → h.get? b = some o → h'.get? b = some o) → h'.get? e = some (HandSPX.excO C t1) → Q .none ⟨h', g, d, t, os⟩) :
    wpAny (model prog w) A (call (.ref u) rest) Q E ⟨h, g, d, t, os⟩ := by
  refine wpAny_call (codeAny_of_tree ?_)
  show wpAny _ A.in1 (callAny (.ref u) ⟨rest, []⟩) _ _ _
  simp only [callAny]
  refine wpAny_bind (wpAny_load hu ?_)
  simp only [kxs_mw, show (Value.type "method-wrapper" == Value.type "method" || Value.type "method-wrapper" == Value.type "builtin_function_or_method" || Value.type "method-wrapper" == Value.type "method-wrapper") = true by decide, if_true]
  refine KFB.if_so (by decide) ?_
  refine wpAny_bind (check_bound_init F.excBase_ValueError.toExcCallFacts hC he rfl ?_)
  refine wpAny_bind (wpAny_pure (wpAny_pure ?_))
  refine ⟨plainId_quiet F.excBase_ValueError.init.plain _, codeAny_builtin F.excBase_ValueError.initEntry ?_⟩
  rw [Around.under_plainId F.excBase_ValueError.init.plain _]
  wp_walk
  refine hq _ h.objs.size (fun b o hb ho => ?_) ?_
  · rw [Heap.get?_update_other _ _ (Ne.symm hb)]
    exact Heap.get?_push_of_some _ ho
  · rw [Heap.get?_update_self _ (Heap.get?_push_of_some _ he) rfl]
    rfl
end
end ErrX
end PySem
namespace L2
open PySem PySem.Spec PyProof.Rows NdefX
/-- what the written part says of an own error class whose __init__ begins with super().__init__(..) -/
structure SupC (P : Program) (K : PySem.W.Frag) (mg : Str → Option Value) (C fI cc cda : Addr) (qual : Str) (params : Arguments) (body : List Stmt) (scope : Scope) : Prop where
  ox : OexC K C
  iC : PySem.W.findIn K (.ref C) "__init__" = some (some (.ref fI))
  tI : PySem.W.typeIn K (.ref fI) = some (.type "function")
  fn : ∃ (oc : Value) (od : Option Addr) (osl : Array (Option Value)) (nm : Str) (kV doc pm ct : Value) (an : Option Addr), K.lookup fI = some ⟨oc, od, .func (PySem.W.fnX nm qual params body scope [("__class__", cc)] .none kV doc pm an (.ref cda) ct), osl⟩
  code : PySem.W.codeIn K (.ref cda) qual = true
  cell : ∃ (cl : Value) (cld : Option Addr) (csl : Array (Option Value)), K.lookup cc = some ⟨cl, cld, .cell (some (.ref C)), csl⟩
  file : ∃ (ccl : Value) (cdd : Option Addr) (vs : Array Value) (ccs : Array (Option Value)) (fl : Str) (tf : Tok), K.lookup cda = some ⟨ccl, cdd, .fields vs, ccs⟩ ∧ vs[2]? = some (.str fl tf) ∧ ((P.main.file : Str) == fl) = true
  sup : mg "super" = none
  top : (P.main.scope.names.lookup ("super" : Str)).isSome = false
  op : PySem.W.nsIn K cStatics "thirdparty.any" = some none
  next : ∃ cd, PySem.W.clsIn K C = some cd ∧ PySem.W.alongIn K "__init__" ((cd.mro.dropWhile (· != .ref C)).drop 1) = some (some (.builtin "ValueError.__init__"))
  self : PySem.W.mroIn K C (.ref C) = some true
  subV : PySem.W.subIn K (.ref C) (.type "ValueError") = some true
theorem boot_super : bootBuiltins "super" = some (.type "super") := by decide +kernel
theorem sup_ok {P : Program} {w : World} {K : PySem.W.Frag} {mg : Str → Option Value} {base : Heap} {C fI cc cda : Addr} {qual : Str} {params : Arguments} {scope : Scope} {k : Nat} {N ps : List Str} {sp : Sp} {e : Expr} {rest : List Stmt} {p0 p1 p2 p3 p4 : Pos} {ar : Arg}
    (T : SupC P K mg C fI cc cda qual params (.Expr (.Call (.Attribute (.Call (.Name "super" p0) [] [] p1) "__init__" p2) [e] [] p3) p4 :: rest) scope) (S : NScope N ps ["__class__"] scope)
    (hps : ps[0]? = some ar.arg) (hpar : (params.posonlyargs ++ params.args).head? = some ar) (hks : scope.names.lookup ("super" : Str) = some NameKind.globalImplicit)
    (hbind : ∀ (nm : Str) (kV doc pm ct : Value) (an : Option Addr) (us : List Value), us.length = ps.length → bindArgs (PySem.W.fnX nm qual params (.Expr (.Call (.Attribute (.Call (.Name "super" p0) [] [] p1) "__init__" p2) [e] [] p3) p4 :: rest) scope [("__class__", cc)] .none kV doc pm an (.ref cda) ct) ⟨us, []⟩ = pure (ps.zip us))
    {pl : Env → Sem Bool} (hev : ∀ env : Env, eval (.Call (.Attribute (.Call (.Name "super" p0) [] [] p1) "__init__" p2) [e] [] p3) env = (do
      let ov ← attributeBase (.Call (.Name "super" p0) [] [] p1) "__init__" env (eval (.Call (.Name "super" p0) [] [] p1) env)
      standAt p2.atName
      let (f, first) ← holding [ov] (getMethod ov "__init__" (pl env))
      callWith p3 f first (backTo p3 (starEach [e] env)) []))
    (hse : ∀ env : Env, starEach [e] env = (false, eval e env) :: starEach [] env)
    (len : ∀ vs H Q E, sp vs H Q E → vs.length = ps.length)
    (hbody : ∀ (A : Around) (outer : List Env) (s : Shared) (H : Hp) (vs : List V) (Q : VK) (E : XK), Room k (A.deeper (envF ⟨"__init__", qual, params, rest, scope, [("__class__", cc)], cda⟩ fI s.heap.objs.size)) → sp vs H Q E →
      ∃ (a : Addr) (vr : List V) (te : TE) (ts : TS), vs = .ref a :: vr ∧ H a = some (exo a C none) ∧
        PE (ncx CX0 P w K mg base N ⟨"__init__", qual, params, rest, scope, [("__class__", cc)], cda⟩ fI A outer s H E) e te ∧ PSs (ncx CX0 P w K mg base N ⟨"__init__", qual, params, rest, scope, [("__class__", cc)], cda⟩ fI A outer s H E) rest ts ∧
        te (startF N vs [some (.ref C)]) H fun _ H1 => H1 a = some (exo a C none) ∧ ts { nx := fun _ H' => Q .non H', rt := Q } (startF N vs [some (.ref C)]) H1) :
    ∃ fd, FnOk P w K mg base CX0 (k + 1) fI fd ps sp ∧ Binds K fd ps [] := by
  obtain ⟨oc, od, osl, nm, kV, doc, pm, ct, an, lk⟩ := T.fn
  obtain ⟨cl, cld, csl, lcell⟩ := T.cell
  obtain ⟨ccl, cdd, cvs, ccs, fl, tf, lcode, hvs, hfile⟩ := T.file
  obtain ⟨cdC, hcd, hal⟩ := T.next
  refine ⟨_, ⟨len, fun A outer s H args us vs Q E hr e0 hb r hsp => ?_⟩, .all (hbind nm kV doc pm ct an)⟩
  have hl := len _ _ _ _ hsp
  have KX : K.In s.heap := e0.mod.kin.keeps fun b o e => (e0.bs b o e).1
  have lim : s.heap.NoLimit := e0.mod.nolimit.keeps fun b o e => (e0.bs b o e).1
  refine PySem.ks_codeAny_call_defAt hr.depth (KX _ _ lk) rfl lim (PySem.W.codeRec_of KX T.code) rfl hb S.nocell (fun x hx => S.par _ (List.of_mem_zip hx).1) (fun h₁ hns kp => ?_) S.co S.gen S.kind
  let F : NF := ⟨"__init__", qual, params, rest, scope, [("__class__", cc)], cda⟩
  have kbase : ∀ {b : Addr} {o : Obj}, K.lookup b = some o → H b = none := fun {b o} q => (e0.bs b o (e0.mod.kin _ _ q)).2
  have CA : CellsAt F.cl ["__class__"] [some (.ref C)] s.heap H := by
    refine ⟨rfl, fun y c q => ?_, fun x y c q1 q2 => ?_, fun i y q => ?_⟩
    · have q2 : y = "__class__" ∧ c = cc := by
        by_cases hy : y = ("__class__" : Str)
        · subst hy
          have q3 : some cc = some c := q
          exact ⟨rfl, (Option.some.inj q3).symm⟩
        · have hy2 : (y == ("__class__" : Str)) = false := by simpa using hy
          have q3 : (match y == ("__class__" : Str) with | true => some cc | false => none) = some c := q
          rw [hy2] at q3
          cases q3
      rw [q2.2]
      exact ⟨kbase lcell, _, _, KX _ _ lcell, rfl⟩
    · have one : ∀ {y : Str}, List.lookup y [(("__class__" : Str), cc)] = some c → y = "__class__" := fun {y} q => by
        by_cases hy : y = ("__class__" : Str)
        · exact hy
        · have hy2 : (y == ("__class__" : Str)) = false := by simpa using hy
          have q3 : (match y == ("__class__" : Str) with | true => some cc | false => none) = some c := q
          rw [hy2] at q3
          cases q3
      rw [one q1, one q2]
    · cases i with
      | zero =>
        have q2 : ("__class__" : Str) = y := Option.some.inj q
        rw [← q2]
        refine ⟨cc, rfl, fun v hv => ?_⟩
        have hv2 : V.ref C = v := Option.some.inj (Option.some.inj hv)
        rw [← hv2]
        exact ⟨.ref C, rfl, _, KX _ _ lcell, rfl⟩
      | succ i =>
        have q2 : (none : Option Str) = some y := by
          rw [← q]
          simp
        cases q2
  have I : Inv (ncx CX0 P w K mg base N F fI A outer s H E) [] (startF N vs [some (.ref C)]) H { s with heap := h₁, toks := s.toks + (ps.zip us).length } := inv_startN S hr.hd e0 hl r CA hns kp
  obtain ⟨a, vr, te, ts, rfl, ha, he, hs, hq⟩ := hbody A outer s H vs Q E (hr.deeper _) hsp
  obtain ⟨t1, ho⟩ := exo_at I.hok ha
  show PySem.wpAt (model P w) (A.deeper (envF F fI s.heap.objs.size)) (.func _ (envF F fI s.heap.objs.size)) (execs _ (envF F fI s.heap.objs.size)) _ _ _
  have hint : interactive (envF F fI s.heap.objs.size) = false := by
    unfold interactive
    rw [show (envF F fI s.heap.objs.size).scope.kind = ScopeKind.function from S.kind]
    rfl
  refine PySem.ks_wpAt_execs_cons (PySem.ks_wpAt_Expr_any (PySem.ks_wpAt_MethodCall (pl := pl (envF F fI s.heap.objs.size)) ?_ (hev _)) hint rfl)
  have hg0 := kp _ _ (KX _ _ lk)
  have hg1 := kp _ _ (KX _ _ lcode)
  have hkc : (envF F fI s.heap.objs.size).kindOf "__class__" = some NameKind.free := S.frk _ List.mem_cons_self
  refine PySem.ks_wpAt_super_base (env := envF F fI s.heap.objs.size) (f := fI) (cc := cda) (oc := ⟨ccl, cdd, .fields cvs, ccs⟩) (hks := hks) (hkc := hkc) (hat := by decide +kernel) (hfu := rfl) (hf := hg0) (hfd := rfl) (hp := hpar) (hco := rfl) (hcc := hg1) (hoc := rfl) (hvs := hvs) (hfile := hfile) (htop := T.top) ?_
  -- super
  obtain ⟨mb, b1, b2⟩ := I.mod.blt
  refine PySem.W.ks_loadName_global (x := "super") S.kind hks (Calls.loadGlobal_builtin (mg := mg) (mb := mb) (v := .type "super") (I.mod.glob.keeps I.bk) T.sup (b1.keeps I.bk) ((b2 _ (by decide +kernel)).trans boot_super) ⟨rfl, ?_⟩)
  have hcc : h₁.IsCell cc (some (.ref C)) := ⟨(⟨cl, cld, .cell (some (.ref C)), csl⟩ : Obj), kp _ _ (KX _ _ lcell), rfl⟩
  refine wpAny_loadName_free (name := "__class__") (c := cc) (v := .ref C) S.kind hkc rfl hcc ?_
  have hx0 : (ps.zip us).reverse.lookup ar.arg = some (Value.ref a) := by
    have ndP : ps.Nodup := by
      have q := S.nd.sublist (List.take_sublist (ps.length + [("__class__" : Str)].length) N)
      rw [S.pre] at q
      exact (List.nodup_append.mp q).1
    obtain ⟨u, hu, rv⟩ := r.get (i := 0) (x := V.ref a) rfl
    have e1 : u = Value.ref a := rv
    rw [e1] at hu
    exact zip_look ndP hps hu
  refine wpAny_loadName_local (v := Value.ref a) S.kind (S.par _ (List.mem_of_getElem? hps)) hns hx0 ?_
  have KX1 : K.In h₁ := fun b o q => kp _ _ (KX _ _ q)
  obtain ⟨oC, hC1, hC2⟩ : ∃ oC, h₁.get? C = some oC ∧ oC.data = .cls cdC := by
    unfold PySem.W.clsIn at hcd
    split at hcd
    · rename_i c d cd' sl q
      cases hcd
      exact ⟨_, KX1 _ _ q, rfl⟩
    · cases hcd
  refine ks_wpAny_isType_cls hC1 hC2 ⟨rfl, ?_⟩
  have hne : a ≠ C := fun z => by
    rw [z] at ho
    have e1 := hC1.symm.trans ho
    cases e1
    cases hC2
  refine ks_wpAny_call_super hC1 hC2 ho rfl (fun c q => by cases q) (PySem.W.looks_mroIn KX1 T.self) (fun h2 so2 k2 => ?_)
  have I2 := ClX.pin_new (t' := s.toks + (ps.zip us).length) I k2 (Nat.le_refl _) so2 (fun v q => by cases q)
  have KX2 : K.In h2 := fun b o q => k2 _ _ (KX1 _ _ q)
  have hI : PySem.W.Looks (model P w) h2 (isInstance (.ref a) (.type "ValueError")) true := by
    have J : PySem.W.InstAt h2 a _ C none := ⟨k2 _ _ ho, rfl, rfl, trivial⟩
    exact J.type.andThen (PySem.W.looks_subIn KX2 T.subV)
  -- .__init__
  refine PySem.W.kxs_getMethod PySem.W.kxs_ValueError so2 (PySem.W.looks_opaque KX2 T.op) (l₀ := cdC.mro) (fun A Q E s k q => wpAny_bind ((PySem.W.looks_clsIn KX2 hcd) A _ E s k (wpAny_pure q))) rfl KX2 hal hI hne (by decide +kernel) ?_
  have I3 := ClX.pin_new (t' := s.toks + (ps.zip us).length + 1) I2 (fun b u q => Heap.get?_push_of_some _ q) (Nat.le_refl _) (Heap.get?_push_size _ rfl) (o := PySem.W.kxs_mw "ValueError.__init__" a) (fun v q => by cases q)
  -- the argument, the call
  have hpl : ((backTo p3 (starEach [e] (envF F fI s.heap.objs.size)))).any (·.1) = false := by
    rw [hse]
    rfl
  refine PySem.W.kxs_callWith (i := "ValueError.__init__") (x := a) (u := h2.objs.size) hpl ?_
  rw [hse]
  refine Calls.evalArgs_plain (Calls.spliced_cons (thn (he.run _ _ _ _ _ I3 hq) fun u4 s4 hv4 => Calls.spliced_nil ?_))
  obtain ⟨v4, H4, I4, r4, ha4, hq4⟩ := hv4
  have hmw := ClX.pin_at I4
  refine ⟨hmw, ?_⟩
  obtain ⟨t4, ho4⟩ := exo_at I4.hok ha4
  obtain ⟨nm', q', N', bs, bm, sn, sub, ab, col, dd, k0, k1, k2', k3, k5, hC, hbm⟩ := T.ox.cls
  have I4' := ClX.unpin (ClX.unpin I4)
  obtain ⟨hp, g, d, t, os⟩ := s4
  refine ErrX.call_mw (C := C) (I4'.kIn _ _ hC) ho4 hmw (by rw [sizeLine_eq]; exact (by decide : 1 ≤ 16777216)) (fun h5 t5 k5' hx5 => ?_)
  have J := I4'.write (t' := t) (x := a) (e := a) (o := exo a C none) (by rw [ha4]; exact True.intro) (.inl rfl) k5' ⟨_, hx5⟩ (exo_ok hx5)
  have eu : upd H4 a (exo a C none) = H4 := by
    funext b
    by_cases hb : b = a
    · rw [hb, upd_same, ha4]
    · rw [upd_ne hb]
  rw [eu] at J
  -- the rest
  refine PySem.wpAt_of_wpAny ?_
  refine wpAny_mono (hs.run [] _ _ _ _ J hq4) (fun fl s' hs => ?_) fun e s' hs => hs
  have fin : ∀ {σ' : L2.St} {H' : Hp} {v : V} {u : Value}, Inv (ncx CX0 P w K mg base N F fI A outer s H E) [] σ' H' s' → L2.RelV v u → Q v H' → CE outer P w H s Q u s' :=
    fun {σ' H' v u} J rv q => ⟨v, H', J.os, J.bare, J.base, J.hok, rv, q⟩
  cases fl with
  | ret u =>
    obtain ⟨v, σ', H', J, rv, q⟩ := hs
    exact fin J rv q
  | next =>
    obtain ⟨σ', H', J, q⟩ := hs
    exact fin (v := V.non) (u := Value.none) J rfl q
  | brk =>
    obtain ⟨_, _, _, q⟩ := hs
    exact False.elim q
  | cont =>
    obtain ⟨_, _, _, q⟩ := hs
    exact False.elim q
end L2
namespace PySem.W
open PySem PySem.Spec PySem.Calls PyProof.Rows
section
variable {prog : Program} {w : World} {A : Around} {E : Value → Shared → Prop} {s : Shared} {K : Frag} {x D : Addr} {ox : Obj}
theorem findObj_dataA {C : Addr} {od : Option Obj} {name : Str} {a g : Value} (hc : (clsIn K C).isSome = true) (ha : findIn K (.ref C) name = some (some a)) (hg : specialIn K a "__get__" = some (some g)) (ht : takesIn K a = some true) : findObj K C od name = some (.bind g a) := by
  obtain ⟨cd, hc⟩ := Option.isSome_iff_exists.mp hc
  unfold findObj
  rw [hc, Option.bind_some, ha, Option.bind_some]
  simp [hg, ht]
theorem kin_classEA {od : Option Obj} {Q : Option Value → Shared → Prop} (hga : findIn K (.ref D) "__getattribute__" = some (some (.builtin "BaseException.__getattribute__"))) (hgt : findIn K (.ref D) "__getattr__" = some none) (hsub : subIn K (.ref D) (.type "BaseException") = some true)
    (hdct : hasDictIn K D = true) (ha : findIn K (.ref D) "__class__" = some (some (.builtin "object.__class__")))
    (hn : specialIn K (.builtin "object.__class__") "__get__" = some (some (.builtin "getset_descriptor.__get__"))) (htk : takesIn K (.builtin "object.__class__") = some true) (hm : mroIn K D (.type "object") = some true)
    (X : K.In s.heap) (I : InstAt s.heap x ox D od) (h : Q (some (.ref D)) { s with toks := s.toks + 1 }) : wpAny (model prog w) A (getAttr? (.ref x) "__class__") Q E s := by
  have hf : findObj K D od "__class__" = some (.bind (.builtin "getset_descriptor.__get__") (.builtin "object.__class__")) := findObj_dataA (by obtain ⟨cd, hc, _⟩ := any_some hdct; rw [hc]; rfl) ha hn htk
  obtain ⟨hp, g, d, t, os⟩ := s
  have L0 := I.type (M := model prog w)
  have L1 := looks_findIn (M := model prog w) X hga
  have L2 := looks_findIn (M := model prog w) X hgt
  have L3 := looks_find (M := model prog w) X I hf
  have sub : Looks (model prog w) hp (isInstance (.ref x) (.type "BaseException")) true := L0.andThen (looks_subIn X hsub)
  have hx0 : (false && onTheHeap (Value.builtin "BaseException.__getattribute__")) = false := rfl
  have hx2 : (Value.builtin "BaseException.__getattribute__" == Value.builtin "object.__getattribute__") = false := by decide +kernel
  have hx1 : (onTheHeap (Value.ref D) && Value.builtin "BaseException.__getattribute__" == Value.builtin "object.__getattribute__") = false := by rw [hx2]; rfl
  unfold getAttr? getAttrBy? getAttrBy
  refine wpAny_bind (wpAny_mkText (wpAny_bind (wpAny_attempt (wpAny_holding (wpAny_bind (L0.at (wpAny_bind (L1.at ?_))))))))
  show wpAny _ _ (if (onTheHeap (Value.ref D) && Value.builtin "BaseException.__getattribute__" == Value.builtin "object.__getattribute__") = true then _ else _) _ _ _
  rw [hx1, if_neg Bool.false_ne_true]
  unfold getAttrByItsOwn hookBefore
  refine wpAny_bind ?_
  rw [if_pos (show onTheHeap (Value.ref D) = true from rfl)]
  refine L2.at ?_
  refine wpAny_bind (wpAny_attempt (wpAny_holding ?_))
  unfold callGetattribute
  rw [hx0, if_neg Bool.false_ne_true]
  unfold boundAndCalled
  rw [PySem.F.excAttr_ValueError.ga.bind (.ref x)]
  refine wpAny_bind (wpAny_pure ?_)
  show wpAny _ _ (call (.builtin "BaseException.__getattribute__") [.ref x, .str "__class__" t]) _ _ _
  refine wpAny_call (codeAny_call_builtin PySem.F.excAttr_ValueError.ga.plain PySem.F.entry_bexc_ga ?_)
  refine @check_slot (model prog w) _ _ ⟨hp, g, d, t + 1, os⟩ "BaseException.__getattribute__" "BaseException" "__getattribute__" (.ref x) [.str "__class__" t] [] _ (by decide +kernel) (by decide +kernel) sub (PySem.F.args_bexc_ga (.ref x) (.str "__class__" t)) ?_
  unfold Builtin.«object.__getattribute__»
  refine wpAny_bind (wpAny_of_eq (a := ((Value.ref x : Value), [Value.str "__class__" t])) (by first | rfl | (simp only [slotArgs]; rfl)) ?_)
  refine wpAny_bind (wpAny_pure (wpAny_bind (L0.at (wpAny_bind (L3.at ?_)))))
  show wpAny _ _ (holding [Value.builtin "object.__class__"] (call (.builtin "getset_descriptor.__get__") [.builtin "object.__class__", .ref x, .ref D]) >>= ret) _ _ _
  refine wpAny_bind (wpAny_holding (wpAny_call (class_get (s := ⟨hp, g, d, t + 1, os⟩) (ox := ox) (od := od) X I hm ?_)))
  refine wpAny_pure ?_
  show wpAny _ _ (handedOut (.ref D)) _ _ _
  rw [handedOut_of (v := .ref D) rfl]
  first
    | exact wpAny_pure (wpAny_pure h)
    | exact wpAny_pure h
    | exact wpAny_pure (wpAny_bind (wpAny_pure (wpAny_pure h)))
theorem kitx_excA {od : Option Obj} (hga : findIn K (.ref D) "__getattribute__" = some (some (.builtin "BaseException.__getattribute__"))) (hgt : findIn K (.ref D) "__getattr__" = some none) (hsub : subIn K (.ref D) (.type "BaseException") = some true) (hdct : hasDictIn K D = true) (ha : findIn K (.ref D) "__class__" = some (some (.builtin "object.__class__")))
    (hn : specialIn K (.builtin "object.__class__") "__get__" = some (some (.builtin "getset_descriptor.__get__"))) (htk : takesIn K (.builtin "object.__class__") = some true) (hm : mroIn K D (.type "object") = some true) :
    KitX K (.ref x) (.ref D) (fun h => InstAt h x ox D od) where
  ty := fun _ _ _ I => I.type
  it := fun _ _ X _ => by
    obtain ⟨cdD, hcD, _⟩ := any_some hdct
    unfold clsIn at hcD
    split at hcD
    · rename_i c' d' cd' sl' ho
      intro A' Q' E' s' k q
      unfold isType loadHead
      exact wpAny_bind (wpAny_loadPart (k _ _ (X _ _ ho)) (wpAny_pure q))
    · cases hcD
  ne := fun h tp dd its n sl X htp => by
    obtain ⟨cdD, hcD, _⟩ := any_some hdct
    refine Bool.eq_false_iff.mpr fun q => ?_
    have e : D = tp := Value.ref.inj (beq_iff_eq.mp q)
    subst e
    unfold clsIn at hcD
    split at hcD
    · rename_i c' d' cd' sl' ho
      have z := (X _ _ ho).symm.trans htp
      cases z
    · cases hcD
  ca := fun X I k => kin_classEA hga hgt hsub hdct ha hn htk hm X I k
end
end PySem.W

namespace L2
open PySem PySem.Spec PyProof.Rows
/-- C(e, ..) as a value: C's own __init__ keeping sp -/
def tMkV (C : Addr) (sp : Sp) (ta : TA) : TE := fun σ H Q => ta σ H fun vs H1 => vs.length ≤ 1000 ∧ ∀ a, H1 a = none → sp (.ref a :: vs) (upd H1 a (exo a C none)) (fun v H2 => v = .non ∧ Q (.ref a) H2) (fun _ _ _ => False)
section
variable {X : Cx} {e : Expr} {es : List Expr} {te : TE} {ta : TA} {p pos : Pos}
theorem run_mkv {CX : CXT} {C fI : Addr} {k : Nat} {fd : FuncData} {ps : List Str} {sp : Sp} {pins : List (Addr × Obj)} {σ : St} {H1 : Hp} {s1 : Shared} {us : List Value} {vs : List V} {Q : VK} (T : OexC X.K C) (iC : PySem.W.findIn X.K (.ref C) "__init__" = some (some (.ref fI))) (tI : PySem.W.typeIn X.K (.ref fI) = some (.type "function"))
    (F1 : FnOk X.prog X.w X.K X.mg X.base CX k fI fd ps sp) (hr : Room (k + 1) X.A) (hb : Binds X.K fd ps []) (hx : Passes CX X (fun _ _ _ => False)) (I1 : Inv X pins σ H1 s1) (r1 : Vals vs us) (hz : vs.length ≤ 1000)
    (q1 : ∀ a, H1 a = none → sp (.ref a :: vs) (upd H1 a (exo a C none)) (fun v H2 => v = .non ∧ Q (.ref a) H2) (fun _ _ _ => False)) :
    wpAny (model X.prog X.w) X.A (call (.ref C) us) (EP X pins σ Q) X.xe s1 := by
  obtain ⟨nm, q, N, bs, bm, sn, sub, ab, col, dd, k0, k1, k2, k3, k5, hC, hbm⟩ := T.cls
  obtain ⟨hp, g, dr, tk, os⟩ := s1
  have hsz : hp.objs.size ≤ hp.objs.size + 1 := Nat.le_succ _
  have hn : H1 (hp.objs.size + 1) = none := I1.hok.fresh hsz
  have hq := q1 (hp.objs.size + 1) hn
  have kk : ∀ b o, hp.get? b = some o → ((hp.push (PySem.W.kdv_tup us)).push (PySem.HandSPX.excO C hp.objs.size)).get? b = some o := fun b o e => Heap.get?_push_of_some _ (Heap.get?_push_of_some _ e)
  have hget : ((hp.push (PySem.W.kdv_tup us)).push (PySem.HandSPX.excO C hp.objs.size)).get? (hp.objs.size + 1) = some (PySem.HandSPX.excO C hp.objs.size) := by heap_get
  have I2 : Inv X pins σ (upd H1 (hp.objs.size + 1) (exo (hp.objs.size + 1) C none)) ⟨(hp.push (PySem.W.kdv_tup us)).push (PySem.HandSPX.excO C hp.objs.size), g, dr, tk, os⟩ :=
    I1.laid (t' := tk) (a := hp.objs.size + 1) (o := exo (hp.objs.size + 1) C none) (h' := (hp.push (PySem.W.kdv_tup us)).push (PySem.HandSPX.excO C hp.objs.size)) kk hsz (exo_ok hget)
  have r2 : Vals (V.ref (hp.objs.size + 1) :: vs) (Value.ref (hp.objs.size + 1) :: us) := .cons rfl r1
  have hl : (Value.ref (hp.objs.size + 1) :: us).length = ps.length := by
    have e := r2.length
    rw [F1.len _ _ _ _ hq] at e
    exact e.symm
  have hus : us.length ≤ sizeLine := by
    rw [← Paired.length r1, sizeLine_eq]
    omega
  refine wpAny_call (PySem.HandSPX.call_own F.excBase_ValueError (fun Y => PySem.HandSPX.refsVE_contains Y bm hbm) (I1.kIn _ _ hC) (PySem.W.looks_findIn I1.kIn iC) (fun self => PySem.W.bind_fn I1.kIn self tI) hus
    (codeAny_mono (F1.run _ X.stack _ _ ⟨Value.ref (hp.objs.size + 1) :: us, []⟩ (Value.ref (hp.objs.size + 1) :: us) _ _ (fun _ _ _ => False) (hr.make C us []) (I2.env0.make C us []) (by
      have z := hb ⟨(hp.push (PySem.W.kdv_tup us)).push (PySem.HandSPX.excO C hp.objs.size), g, dr, tk, os⟩ (Value.ref (hp.objs.size + 1) :: us) I2.kIn (by rw [List.append_nil]; exact hl)
      rw [List.append_nil] at z
      exact z) r2 hq) fun r s' hq' => ?_))
  cases r with
  | error er => exact hx pins σ _ _ er s' I2 hq'
  | ok fl =>
    cases fl with
    | ret u =>
      obtain ⟨v, H2, os2, bare2, un2, hok2, rv, ev, q2⟩ := hq'
      subst ev
      exact ⟨rv, .ref (hp.objs.size + 1), _, I2.call' (ch := []) os2 un2 hok2 bare2 (fun b z => absurd z (by simp)), rfl, q2⟩
    | next => exact False.elim hq'
    | brk => exact False.elim hq'
    | cont => exact False.elim hq'
theorem pe_mkv {CX : CXT} {x : Str} {C fI : Addr} {k : Nat} {fd : FuncData} {ps : List Str} {sp : Sp} (T : OexC X.K C) (iC : PySem.W.findIn X.K (.ref C) "__init__" = some (some (.ref fI))) (tI : PySem.W.typeIn X.K (.ref fI) = some (.type "function"))
    (F1 : FnOk X.prog X.w X.K X.mg X.base CX k fI fd ps sp) (hr : Room (k + 1) X.A) (hb : Binds X.K fd ps []) (hx : Passes CX X (fun _ _ _ => False)) (hg : Gl X x) (hm : X.mg x = some (.ref C)) (ha : PA X (e :: es) ta)
    (hdb : (x == ("__debug__" : Str)) = false := by decide) (he : starEach (e :: es) X.env = (false, eval e X.env) :: starEach es X.env := by rfl) (hpl : (backTo pos (starEach es X.env)).any (·.1) = false := by rfl) :
    PE X (.Call (.Name x p) (e :: es) [] pos) (tMkV C sp ta) := by
  refine ⟨fun pins s σ H Q I h => ?_⟩
  refine wpAny_Call_Name_kw (ld_glob I hg hm ?_ hdb)
  refine PySem.W.callWith_K (h₀ := X.base) I.ok.mod.kin T.kC (thn (ha.run pos pins s σ H _ I h) fun us s1 ⟨vs, H1, I1, r1, hz, q1⟩ => ⟨I1.kIn, ?_⟩) he hpl
  exact run_mkv T iC tI F1 hr hb hx I1 r1 hz q1
theorem pe_mkv0 {CX : CXT} {x : Str} {C fI : Addr} {k : Nat} {fd : FuncData} {ps : List Str} {sp : Sp} (T : OexC X.K C) (iC : PySem.W.findIn X.K (.ref C) "__init__" = some (some (.ref fI))) (tI : PySem.W.typeIn X.K (.ref fI) = some (.type "function"))
    (F1 : FnOk X.prog X.w X.K X.mg X.base CX k fI fd ps sp) (hr : Room (k + 1) X.A) (hb : Binds X.K fd ps []) (hx : Passes CX X (fun _ _ _ => False)) (hg : Gl X x) (hm : X.mg x = some (.ref C))
    (hdb : (x == ("__debug__" : Str)) = false := by decide) : PE X (.Call (.Name x p) [] [] pos) (tMkV C sp tNil) := by
  refine ⟨fun pins s σ H Q I h => ?_⟩
  refine wpAny_Call_Name_kw (ld_glob I hg hm ?_ hdb)
  obtain ⟨hz, q1⟩ := h
  exact PySem.W.callWith_K0 I.kIn T.kC (run_mkv T iC tI F1 hr hb hx I .nil hz q1)
/-- e.f, e an exception that is a value -/
def tXv (K : PySem.W.Frag) (f : Str) (te : TE) : TE := fun σ H Q => te σ H fun x H1 => ∃ (a C d : Addr) (fs : List (Str × V)) (v : V), x = .ref a ∧ XfC K C ∧ PySem.W.findIn K (.ref C) f = some none ∧ H1 a = some (exo a C (some d)) ∧ H1 d = some (exd d fs) ∧ fs.lookup f = some v ∧ Q v H1
theorem pe_xv {f : Str} (he : PE X e te) (hb : attributeBase e f X.env (eval e X.env) = eval e X.env := by rfl) : PE X (.Attribute e f pos) (tXv X.K f te) := by
  refine ⟨fun pins s σ H Q I h => ?_⟩
  refine attr_of hb (thn (he.run pins s σ H _ I h) fun u s1 hh => ?_)
  obtain ⟨x, H1, I1, rx, a, C, d, fs, v, ex, T, hno, ea, ed, l, q⟩ := hh
  subst ex
  obtain rfl : u = Value.ref a := rx
  obtain ⟨t1, ho⟩ := exo_at I1.hok ea
  obtain ⟨mA, hns, hr⟩ := exd_at I1.hok ed
  obtain ⟨od, hod, hl⟩ := lookIn_ns hns
  obtain ⟨u, hu, ru⟩ := RelO.some_of (v := v) (o := mA f) (by rw [← l]; exact hr f)
  have J : PySem.W.InstAt s1.heap a _ C (some od) := ⟨ho, rfl, rfl, hod⟩
  exact HandSPX.exc_get I1.kIn J T.ga T.gg T.exC (PySem.W.findObj_own T.hdC hno rfl (by rw [hl, hu])) (handed_of ru) ⟨v, H1, I1.tok _, ru, q⟩
/-- isinstance(e, C), e an exception that is a value -/
def rIsV (K : PySem.W.Frag) : List V → Hp → VK → Prop := fun xs H Q => ∃ (a D : Addr) (dd : Option Addr) (c : V) (cv : Value) (b : Bool), xs = [.ref a, c] ∧ H a = some (exo a D dd) ∧ (∀ d, dd = some d → ∃ fs, H d = some (exd d fs)) ∧ ExcC K D ∧ (∀ u, RelV c u → u = cv) ∧ PySem.W.kitOne K (.ref D) cv = some b ∧ Q (.bl b) H
theorem call_isV : CallR X (.builtin "isinstance") (rIsV X.K) := by
  intro pins s σ H xs us Q I r h
  obtain ⟨a, D, dd, c, cv, b, rfl, ea, hd, C, hcv, e, q⟩ := h
  cases r with
  | cons rx rr =>
    cases rr with
    | cons rt rr =>
      cases rr
      cases rx
      have ec := hcv _ rt
      subst ec
      obtain ⟨t1, ho⟩ := exo_at I.hok ea
      have J : ∃ od, PySem.W.InstAt s.heap a { cls := .ref D, dict := dd, data := .fields #[.ref t1, .none, .none, .none, .bool false, .none] } D od := by
        cases dd with
        | none => exact ⟨none, ho, rfl, rfl, trivial⟩
        | some d =>
          obtain ⟨fs, hfs⟩ := hd d rfl
          obtain ⟨mA, hns, _⟩ := exd_at I.hok hfs
          obtain ⟨od, hod, _⟩ := lookIn_ns hns
          exact ⟨some od, ho, rfl, rfl, hod⟩
      obtain ⟨od, J⟩ := J
      exact PySem.W.kia_one (PySem.W.kitx_excA C.hg C.hk C.hs C.hd C.ha C.hn C.ht C.hm) I.kIn J e (fun z => nomatch z) fun tk => ⟨.bl b, H, I.kept (t' := tk) fun _ _ z => z, rfl, q⟩
end
end L2
namespace K01
open PySem PySem.Spec PyProof.Rows L2
def top (i : Nat) : Stmt := PySem.Challenge.pw_handsroom_k01_hall_parts.main.body.getD i (.Pass ⟨0, 0, 0, 0⟩)
abbrev FnP (K : PySem.W.Frag) (x : Str) (st : Stmt) (f : Addr) (fd : FuncData) : Prop := FunD K x x (defArgs st) (defBody st) (defScope st) [] [] f fd
abbrev sDraws : Stmt := top 22
abbrev sNext : Stmt := top 23
theorem scD : FnScope ["_law_script", "_law_draws_here", "_law_place", "_law_cell", "_law_number", "_law_turn", "_law_mixed"] ["_law_script"] (defScope sDraws) := ⟨rfl, rfl, rfl, by decide +kernel, rfl, by decide +kernel, by decide +kernel⟩
theorem scN : FnScope ["_law_draws_here", "_law_many"] ["_law_draws_here", "_law_many"] (defScope sNext) := ⟨rfl, rfl, rfl, by decide +kernel, rfl, by decide +kernel, by decide +kernel⟩
theorem upd_self {H : Hp} {p : Addr} {o : HO} (h : H p = some o) : upd H p o = H := by
  funext b
  by_cases e : b = p
  · rw [e, upd_same, h]
  · rw [upd_ne e]
theorem for_enum {K : PySem.W.Frag} {a : Addr} {xs : List V} {g : TG} {tb : TS} {D : Ends} {σ : L2.St} {H : Hp} (Pv : Nat → L2.St → Hp → Prop) (h0 : Pv 0 σ H) (hl : ∀ i σ H, i ≤ xs.length → Pv i σ H → SqL K H a xs)
    (hs : ∀ (i : Nat) x σ H T, xs[i]? = some x → Pv i σ H → H T = none → g (.ref T) σ (upd H T (.tup [.int (i : Nat), x])) fun σ2 H2 => tb { D with nx := Pv (i + 1), ct := Pv (i + 1), bk := D.nx } σ2 H2) (hd : ∀ σ H, Pv xs.length σ H → D.nx σ H) :
    ∃ W : Nat → Nat → L2.St → Hp → Prop, (∃ m, W 0 m σ H) ∧ ∀ i m σ H, W i m σ H →
      ((Ite K a).stop i H ∧ D.nx σ H) ∨ ((Ite K a).go i H ∧ ∃ N : L2.St → Hp → Prop, (∀ σ' H', N σ' H' → ∃ m', m' < m ∧ W (i + 1) m' σ' H') ∧ ∀ x H', (Ite K a).yld i H x H' → g x σ H' fun σ2 H2 => tb { D with nx := N, ct := N, bk := D.nx } σ2 H2) := by
  refine ⟨fun i m σ H => m = xs.length - i ∧ i ≤ xs.length ∧ Pv i σ H, ⟨xs.length, by simp, Nat.zero_le _, h0⟩, ?_⟩
  rintro i m σ H ⟨rfl, hi, p⟩
  have q := hl i σ H hi p
  by_cases hlt : i < xs.length
  · refine .inr ⟨⟨xs, xs[i], q, by simp [hlt]⟩, Pv (i + 1), fun σ' H' p' => ⟨xs.length - (i + 1), by omega, rfl, hlt, p'⟩, fun x H' y => ?_⟩
    obtain ⟨T, z, rfl, nT, rfl, f⟩ := y
    exact hs i z σ H T (f xs q) p nT
  · have e : i = xs.length := by omega
    subst e
    exact .inl ⟨⟨xs, q, Nat.le_refl _⟩, hd σ H p⟩
theorem same_upd {H : Hp} {p : Addr} {o : HO} (h : H p = none) : Same H (upd H p o) := fun b x e => by
  rw [upd_ne (ne_of_none e h)]
  exact e
/-- what stood stays while an object that was new is changed -/
theorem Same.put {H H3 : Hp} {p : Addr} {o : HO} (s : Same H H3) (h : H p = none) : Same H (upd H3 p o) := fun b x e => by
  rw [upd_ne (ne_of_none e h)]
  exact s b x e
section
variable {P : Program} {w : World} {K : PySem.W.Frag} {mg : Str → Option Value} {base : Heap}
/-! ### the next draw -/
def spNext : Sp := fun vs H Q _ => ∃ (p : Addr) (zs : List Int) (m : Int), vs = [.ref p, .int m] ∧ H p = some (.lst (zs.map V.int)) ∧ 0 < m ∧ ∀ (r : Int) (ys : List Int), 0 ≤ r → r < m → ys.length ≤ zs.length → Q (.int r) (upd H p (.lst (ys.map V.int)))
theorem ok_next {f : Addr} {fd : FuncData} (F : FnP K "_law_next" sNext f fd) (ml : mg "len" = none) (mi : mg "int" = none) : FnOk P w K mg base CX0 1 f fd ["_law_draws_here", "_law_many"] spNext := by
  refine F.ok scN (fun vs H Q E h => ?_) (fun cdv A outer s H vs Q E hr h => ?_)
  · obtain ⟨p, zs, m, rfl, _⟩ := h
    rfl
  · obtain ⟨p, zs, m, rfl, hp, hm, q⟩ := h
    refine ⟨_, PSs.nox (pss_cons (ps_if (pt_cmpR op_eq (pe_callB call_len_seq (by rfl) ml PySem.boot_len (pa_cons (pv 0) pa_nil)) pe_int (nomark _)) (pss_one (ps_ret pe_int)) pss_nil)
      (pss_one (ps_ret (pe_op op_modN (pe_callTy call_int1 (by rfl) mi (by decide +kernel) (pa_cons (pe_bm PySem.F.plainAttrs_list PySem.F.slot_list_pop PySem.F.type_list_pop mt_popAt (pv 0) (pa_cons pe_int pa_nil)) pa_nil)) (pv 1))))), ?_⟩
    refine ⟨.ref p, rfl, p, zs.map V.int, rfl, .inl (SqL.of hp), rfl, _, rfl, ite2 (fun e => ?_) (fun e => ?_)⟩
    · have z := q 0 zs (Int.le_refl _) hm (Nat.le_refl _)
      rw [upd_self hp] at z
      exact z
    · cases zs with
      | nil => exact absurd (decide_eq_true rfl) e
      | cons z zs =>
        refine ⟨.ref p, rfl, .inl ⟨rfl, _, SqL.of hp⟩, p, _, 0, 0, .int z, rfl, rfl, hp, by decide, by decide, ?_, rfl, .inl ⟨z, rfl, .int m, rfl, z, m, rfl, rfl, by omega, ?_⟩⟩
        · exact seqIndex?_zero (by rw [List.length_map, List.length_cons]; omega)
        · exact q _ zs (Int.fmod_nonneg_of_pos _ hm) (Int.fmod_lt_of_pos _ hm) (Nat.le_succ _)
/-! ### all draws -/
def spDraws (K : PySem.W.Frag) : Sp := fun vs H Q _ => ∃ (a : Addr) (ns : List Int), vs = [.ref a] ∧ SqL K H a (ns.map V.int) ∧ ∀ (H' : Hp) (p : Addr) (zs : List Int), Same H H' → H p = none → H' p = some (.lst (zs.map V.int)) → zs.length ≤ 600 → Q (.ref p) H'
theorem cut_ints (ns : List Int) (lo hi : Option Int) : ∃ ms : List Int, cutV (ns.map V.int) lo hi = ms.map V.int := by
  unfold cutV
  rw [← List.map_drop, ← List.map_take]
  exact ⟨_, rfl⟩
/-- the frame of _law_draws between two turns: the list at p holds the draws -/
def DrS (H : Hp) (a p c : Addr) (ms : List Int) (σ : L2.St) (H3 : Hp) : Prop :=
  ∃ (y2 y3 y4 y5 y6 : Option V) (zs : List Int), σ = [some (.ref a), some (.ref p), y2, y3, y4, y5, y6] ∧ Same H H3 ∧ H3 c = some (.lst (ms.map V.int)) ∧ H3 p = some (.lst (zs.map V.int)) ∧ zs.length ≤ 600
/-- .. within a turn: the number, the mixed number -/
def DrI (H : Hp) (a p c : Addr) (ms : List Int) (σ : L2.St) (H3 : Hp) : Prop :=
  ∃ (y2 y3 y5 y6 : Option V) (n : Int) (zs : List Int), σ = [some (.ref a), some (.ref p), y2, y3, some (.int n), y5, y6] ∧ Same H H3 ∧ H3 c = some (.lst (ms.map V.int)) ∧ H3 p = some (.lst (zs.map V.int)) ∧ zs.length ≤ 600
def DrJ (H : Hp) (a p c : Addr) (ms : List Int) (σ : L2.St) (H3 : Hp) : Prop :=
  ∃ (y2 y3 y5 : Option V) (n m : Int) (zs : List Int), σ = [some (.ref a), some (.ref p), y2, y3, some (.int n), y5, some (.int m)] ∧ Same H H3 ∧ H3 c = some (.lst (ms.map V.int)) ∧ H3 p = some (.lst (zs.map V.int)) ∧ zs.length ≤ 600
theorem map_snoc (zs : List Int) (v : Int) : zs.map V.int ++ [V.int v] = (zs ++ [v]).map V.int := by rw [List.map_append]; rfl
theorem app_ok {H H5 : Hp} {p c : Addr} {zs : List Int} {o : HO} (sm : Same H H5) (ec : H5 c = some o) (np : H p = none) (ncp : p ≠ c) (hl : zs.length < 600) (v : Int) :
    Same H (upd H5 p (.lst (zs.map V.int ++ [V.int v]))) ∧ upd H5 p (.lst (zs.map V.int ++ [V.int v])) c = some o ∧ upd H5 p (.lst (zs.map V.int ++ [V.int v])) p = some (.lst ((zs ++ [v]).map V.int)) ∧ (zs ++ [v]).length ≤ 600 := by
  refine ⟨Same.put sm np, ?_, ?_, ?_⟩
  · rw [upd_ne ncp.symm]
    exact ec
  · rw [upd_same, map_snoc]
  · rw [List.length_append, List.length_singleton]
    omega
theorem ok_draws {f : Addr} {fd : FuncData} (F : FnP K "_law_draws" sDraws f fd) (me : mg "enumerate" = none) (ma : mg "abs" = none) (mi : mg "int" = none) (mr : mg "range" = none) (ml : mg "len" = none) : FnOk P w K mg base CX0 1 f fd ["_law_script"] (spDraws K) := by
  refine F.ok scD (fun vs H Q E h => ?_) (fun cdv A outer s H vs Q E hr h => ?_)
  · obtain ⟨a, ns, rfl, _⟩ := h
    rfl
  · obtain ⟨a, ns, rfl, hS, q⟩ := h
    refine ⟨_, PSs.nox (pss_cons (ps_set (i := 1) scD.nd rfl (.inl rfl) (pe_lst pa_nil))
      (pss_cons (ps_for PassesOwn.never rfl (pi_enum (by rfl) me (pa_cons (pe_slice sl_list (pv 0) po_none (po_some pe_int)) pa_nil))
          (pg_tup rfl (pgs_cons (pg_name (i := 2) scD.nd rfl (.inl rfl)) (pgs_cons (pg_name (i := 3) scD.nd rfl (.inl rfl)) pgs_nil)))
        (pss_cons (ps_set (i := 4) scD.nd rfl (.inl rfl) (pe_op op_add (pe_op op_mul pe_int (pe_callB call_abs (by rfl) ma (by decide +kernel) (pa_cons (pv 3) pa_nil))) (pe_callTy call_int1 (by rfl) mi (by decide +kernel) (pa_cons (pe_cmpR op_lt (pv 3) pe_int (nomark _)) pa_nil))))
        (pss_one (ps_if (pt_cmpR op_ge (pv 4) (pe_op op_mul pe_int (pe_op op_pow pe_int pe_int)) (nomark _))
          (pss_one (ps_for PassesOwn.never rfl (pi_range1 rfl mr (pa_cons pe_int pa_nil)) (pg_name (i := 5) scD.nd rfl (.inl rfl))
            (pss_one (ps_if (PW.pt (pw_and (pt_cmpR op_gt (pv 4) pe_int (nomark _)) (pw_and1 (pt_cmpR op_lt (pe_callB call_len_seq (by rfl) ml PySem.boot_len (pa_cons (pv 1) pa_nil)) pe_int (nomark _)))))
              (pss_cons (ps_expr (pe_bm PySem.F.plainAttrs_list PySem.F.slot_list_append PySem.F.type_list_append mt_append (pv 1) (pa_cons (pe_op op_mod (pe_callTy call_int1 (by rfl) mi (by decide +kernel) (pa_cons (pv 4) pa_nil)) pe_int) pa_nil)))
                (pss_one (ps_set (i := 4) scD.nd rfl (.inl rfl) (pe_op op_fdiv (pv 4) pe_int)))) pss_nil))))
          (pss_cons (ps_set (i := 6) scD.nd rfl (.inl rfl) (pe_op op_mod (pe_callTy call_int1 (by rfl) mi (by decide +kernel) (pa_cons (pe_op op_add (pe_op op_add (pe_op op_mul (pv 4) pe_int) (pe_op op_mul (pv 2) pe_int)) pe_int) pa_nil)) pe_int))
            (pss_one (ps_for PassesOwn.never rfl (pi_range1 rfl mr (pa_cons pe_int pa_nil)) (pg_name (i := 5) scD.nd rfl (.inl rfl))
              (pss_cons (ps_set (i := 6) scD.nd rfl (.inl rfl) (pe_op op_mod (pe_callTy call_int1 (by rfl) mi (by decide +kernel) (pa_cons (pe_op op_add (pe_op op_add (pe_op op_mul (pv 6) pe_int) (pe_op op_mul (pv 4) pe_int)) (pv 5)) pa_nil)) pe_int))
              (pss_one (ps_if (pt_cmpR op_lt (pe_callB call_len_seq (by rfl) ml PySem.boot_len (pa_cons (pv 1) pa_nil)) pe_int (nomark _))
                (pss_one (ps_expr (pe_bm PySem.F.plainAttrs_list PySem.F.slot_list_append PySem.F.type_list_append mt_append (pv 1) (pa_cons (pe_op op_fdiv (pv 6) pe_int) pa_nil)))) pss_nil))))))))))
      (pss_one (ps_ret (pv 1))))), ?_⟩
    obtain ⟨ms, ems⟩ := cut_ints ns none (some 63)
    refine ⟨Nat.zero_le _, fun p np => ?_⟩
    have s1 : Same H (upd H p (.lst [])) := same_upd np
    refine ⟨.ref a, rfl, 63, rfl, a, ns.map V.int, rfl, s1.seq hS, fun c nc => ?_⟩
    have ncp : p ≠ c := fun e => by
      rw [← e, upd_same] at nc
      cases nc
    have nc0 : H c = none := s1.free nc
    rw [ems]
    refine ⟨c, ms.map V.int, rfl, SqL.of upd_same, for_enum (K := K) (a := c) (xs := ms.map V.int) (fun _ σ H3 => DrS H a p c ms σ H3) ⟨none, none, none, none, none, [], rfl, (Same.put s1 nc0), upd_same, ?_, by decide⟩ (fun i σ H3 _ ⟨_, _, _, _, _, _, _, _, ec, _⟩ => SqL.of ec) ?_ ?_⟩
    · rw [upd_ne ncp, upd_same]
      rfl
    · rintro i x σ H3 T hx ⟨y2, y3, y4, y5, y6, zs, rfl, sm, ec, ep, hz⟩ nT
      obtain ⟨z, rfl⟩ : ∃ z, x = V.int z := by
        rw [List.getElem?_map] at hx
        cases e : ms[i]? with
        | none =>
          rw [e] at hx
          cases hx
        | some z =>
          rw [e] at hx
          exact ⟨z, (Option.some.inj hx).symm⟩
      refine ⟨T, [.int (i : Nat), .int z], rfl, .inl (.inl upd_same), rfl, .int (i : Nat), [.int z], rfl, .int z, [], rfl, rfl, ?_⟩
      have sm4 : Same H (upd H3 T (.tup [.int (i : Nat), .int z])) := sm.trans (same_upd nT)
      have ec4 : (upd H3 T (.tup [.int (i : Nat), .int z])) c = some (.lst (ms.map V.int)) := by rw [upd_ne (ne_of_none ec nT)]; exact ec
      have ep4 : (upd H3 T (.tup [.int (i : Nat), .int z])) p = some (.lst (zs.map V.int)) := by rw [upd_ne (ne_of_none ep nT)]; exact ep
      generalize upd H3 T (.tup [.int (i : Nat), .int z]) = H4 at sm4 ec4 ep4
      refine ⟨.int z, rfl, z, rfl, 2, _, rfl, rfl, .inl ⟨by decide, by decide⟩, .int z, rfl, z, 0, rfl, rfl, .inr ⟨_, rfl, _, _, rfl, rfl, ?_⟩⟩
      refine ⟨_, rfl, 10, 18, rfl, rfl, ⟨by decide, by decide, by decide⟩, 2, _, rfl, rfl, .inl ⟨by decide, by decide⟩, _, _, rfl, rfl, _, rfl, ite2 (fun _ => ?_) (fun _ => ?_)⟩
      · -- for turn in range(60)
        refine ⟨60, rfl, by decide, by decide, for_range (n := 60) (fun _ σ H5 => DrI H a p c ms σ H5) ⟨_, _, _, _, _, zs, rfl, sm4, ec4, ep4, hz⟩ ?_ ?_⟩
        · rintro k σ H5 _ ⟨z2, z3, z5, z6, n5, zs5, rfl, sm5, ec5, ep5, hz5⟩
          refine ⟨.int n5, rfl, n5, 0, rfl, rfl, _, rfl, ite2 (fun _ => ?_) (fun _ => ?_)⟩
          · refine ⟨.ref p, rfl, p, _, rfl, .inl (SqL.of ep5), _, _, rfl, rfl, _, rfl, ite2 (fun hl => ?_) (fun _ => ?_)⟩
            · have hl5 : zs5.length < 600 := by
                have := of_decide_eq_true hl
                rw [List.length_map] at this
                omega
              refine ⟨.ref p, rfl, .inl ⟨rfl, _, SqL.of ep5⟩, .int n5, rfl, .inl ⟨n5, rfl, n5, 720, rfl, rfl, (by show (0 : Int) < 720; decide), p, _, _, rfl, rfl, ep5, small1000 (by rw [List.length_map]; omega), ?_⟩⟩
              refine ⟨.int n5, rfl, n5, 720, rfl, rfl, ⟨by decide, by decide⟩, z2, z3, _, z6, _, zs5 ++ [n5 % 720], rfl, app_ok sm5 ec5 np ncp hl5 _⟩
            · exact ⟨z2, z3, _, z6, n5, zs5, rfl, sm5, ec5, ep5, hz5⟩
          · exact ⟨z2, z3, _, z6, n5, zs5, rfl, sm5, ec5, ep5, hz5⟩
        · rintro σ H5 ⟨z2, z3, z5, z6, n5, zs5, rfl, sm5, ec5, ep5, hz5⟩
          exact ⟨_, _, _, _, _, zs5, rfl, sm5, ec5, ep5, hz5⟩
      · -- the mixed number, for turn in range(6)
        refine ⟨_, rfl, _, 48271, rfl, rfl, .inr ⟨by decide, by decide⟩, _, rfl, _, 7919, rfl, rfl, .inr ⟨by decide, by decide⟩, _, _, rfl, rfl, _, _, rfl, rfl, .inl ⟨_, rfl, _, 2147483647, rfl, rfl, (by show (0 : Int) < 2147483647; decide), ?_⟩⟩
        refine ⟨6, rfl, by decide, by decide, for_range (n := 6) (fun _ σ H5 => DrJ H a p c ms σ H5) ⟨_, _, _, _, _, zs, rfl, sm4, ec4, ep4, hz⟩ ?_ ?_⟩
        · rintro k σ H5 _ ⟨z2, z3, z5, n5, m5, zs5, rfl, sm5, ec5, ep5, hz5⟩
          refine ⟨_, rfl, _, 69621, rfl, rfl, .inr ⟨by decide, by decide⟩, _, rfl, _, 31, rfl, rfl, .inr ⟨by decide, by decide⟩, _, _, rfl, rfl, _, rfl, _, _, rfl, rfl, .inl ⟨_, rfl, _, 2147483629, rfl, rfl, (by show (0 : Int) < 2147483629; decide), ?_⟩⟩
          refine ⟨.ref p, rfl, p, _, rfl, .inl (SqL.of ep5), _, _, rfl, rfl, _, rfl, ite2 (fun hl => ?_) (fun _ => ?_)⟩
          · have hl5 : zs5.length < 600 := by
              have := of_decide_eq_true hl
              rw [List.length_map] at this
              omega
            refine ⟨.ref p, rfl, .inl ⟨rfl, _, SqL.of ep5⟩, _, rfl, _, 127, rfl, rfl, ⟨by decide, by decide⟩, p, _, _, rfl, rfl, ep5, small1000 (by rw [List.length_map]; omega), ?_⟩
            exact ⟨z2, z3, _, _, _, zs5 ++ [_], rfl, app_ok sm5 ec5 np ncp hl5 _⟩
          · exact ⟨z2, z3, _, _, _, zs5, rfl, sm5, ec5, ep5, hz5⟩
        · rintro σ H5 ⟨z2, z3, z5, n5, m5, zs5, rfl, sm5, ec5, ep5, hz5⟩
          exact ⟨_, _, _, _, _, zs5, rfl, sm5, ec5, ep5, hz5⟩
    · rintro σ H3 ⟨y2, y3, y4, y5, y6, zs, rfl, sm, ec, ep, hz⟩
      exact ⟨.ref p, rfl, q H3 p zs sm np ep hz⟩
end
end K01
namespace K01
open PySem PySem.Spec PyProof.Rows L2
abbrev sIs : Stmt := top 12
def lets : Str := "abcdefghijklmnopqrstuvwxyz"
def digs : Str := "0123456789"
def RES : List Str := ["lock", "kind", "body", "routine", "done", "do", "with", "block", "either", "or", "repeat", "close", "drop", "give", "skip", "make", "copy", "fetch", "read", "keep", "write", "put", "call", "take", "as"]
def okc (c : Nat) : Bool := decide (c ∈ lets.cps.toList) || decide (c ∈ digs.cps.toList)
def headOk (s : Str) : Bool := match s.cps[0]? with
  | some c => decide (c ∈ lets.cps.toList)
  | none => false
def isName (s : Str) : Bool := (decide (1 ≤ s.length) && decide (s.length ≤ 8)) && (headOk s && !inV (.str s) (RES.map V.str) && s.cps.toList.all okc)
theorem RES_flat : (RES.map V.str).all flatV = true := by decide +kernel
/-- a value that is_name is asked of, and what it answers -/
inductive Ask (H : Hp) : V → Bool → Prop where
  | str (s : Str) (h : s.length ≤ 1000) : Ask H (.str s) (isName s)
  | non : Ask H .non false
  | bl (k : Bool) : Ask H (.bl k) false
  | int (i : Int) : Ask H (.int i) false
  | lst (p : Addr) (xs : List V) (h : H p = some (.lst xs)) : Ask H (.ref p) false
  | tup (p : Addr) (xs : List V) (h : H p = some (.tup xs)) : Ask H (.ref p) false
/-- is it a text? -/
def strB : V → Bool
  | .str _ => true
  | _ => false
theorem ask_isi {K : PySem.W.Frag} {H : Hp} {v : V} {b : Bool} (a : Ask H v b) : ∃ t, TyX K H v t ∧ PySem.W.kitOne K t (.type "str") = some (strB v) := by
  cases a with
  | str s h => exact ⟨_, .base (.str s), kit_ty (a := "str") (b := "str") (r := true) (by decide +kernel)⟩
  | non => exact ⟨_, .base .non, kit_ty (r := false) (by decide +kernel)⟩
  | bl k => exact ⟨_, .base (.bl k), kit_ty (a := "bool") (b := "str") (r := false) (by decide +kernel)⟩
  | int i => exact ⟨_, .base (.int i), kit_ty (a := "int") (b := "str") (r := false) (by decide +kernel)⟩
  | lst p xs h => exact ⟨_, .base (.lst h), kit_ty (a := "list") (b := "str") (r := false) (by decide +kernel)⟩
  | tup p xs h => exact ⟨_, .base (.tup h), kit_ty (a := "tuple") (b := "str") (r := false) (by decide +kernel)⟩
theorem scI : FnScope ["value", "letter"] ["value"] (defScope sIs) := ⟨rfl, rfl, rfl, by decide +kernel, rfl, by decide +kernel, by decide +kernel⟩
/-- what the module's names hold -/
structure Nm (K : PySem.W.Frag) (mg : Str → Option Value) (aR : Addr) : Prop where
  isi : mg "isinstance" = none
  str : mg "str" = none
  len : mg "len" = none
  all : mg "all" = none
  most : ∃ t, mg "_MOST_CHARACTERS" = some (.int 8 t)
  lets : ∃ t, mg "_LETTERS" = some (.str K01.lets t)
  digs : ∃ t, mg "_DIGITS" = some (.str K01.digs t)
  res : mg "RESERVED" = some (.ref aR)
  resT : ∀ H : Hp, SqT K H aR (RES.map V.str)
theorem ifN {c A B : Prop} [Decidable c] (h1 : c → B) (h2 : ¬ c → A) : if (!decide c) = true then A else B := by
  by_cases h : c
  · rw [decide_eq_true h]
    exact iteF (h1 h)
  · rw [decide_eq_false h]
    exact iteT (h2 h)
theorem ifB {A B : Prop} {c : Bool} (h1 : c = true → A) (h2 : c = false → B) : if c = true then A else B := by
  cases c with
  | true => exact iteT (h1 rfl)
  | false => exact iteF (h2 rfl)
theorem first_cp {s : Str} (h : 1 ≤ s.length) : ∃ c, s.cps[0]? = some c := by
  have h2 : 0 < s.cps.size := h
  exact ⟨_, Array.getElem?_eq_getElem h2⟩
theorem isName_short {s : Str} (h : ¬ 1 ≤ s.length) : isName s = false := by
  unfold isName
  rw [decide_eq_false h]
  rfl
theorem isName_long {s : Str} (h : ¬ s.length ≤ 8) : isName s = false := by
  unfold isName
  rw [decide_eq_false h, Bool.and_false]
  rfl
theorem isName_head {s : Str} {c : Nat} (h : s.cps[0]? = some c) (hc : ¬ c ∈ lets.cps.toList) : isName s = false := by
  have e : headOk s = false := by
    unfold headOk
    rw [h]
    exact decide_eq_false hc
  unfold isName
  rw [e, Bool.false_and, Bool.false_and, Bool.and_false]
theorem isName_res {s : Str} (h : inV (.str s) (RES.map V.str) = true) : isName s = false := by
  unfold isName
  rw [h, Bool.not_true, Bool.and_false, Bool.false_and, Bool.and_false]
theorem isName_all {s : Str} {c : Nat} (h1 : 1 ≤ s.length) (h2 : s.length ≤ 8) (h : s.cps[0]? = some c) (hc : c ∈ lets.cps.toList) (hr : inV (.str s) (RES.map V.str) = false) : isName s = s.cps.toList.all okc := by
  have e : headOk s = true := by
    unfold headOk
    rw [h]
    exact decide_eq_true hc
  unfold isName
  rw [e, hr, decide_eq_true h1, decide_eq_true h2]
  rfl
theorem take_snoc {s : Str} {i c : Nat} (h : s.cps[i]? = some c) : s.cps.toList.take (i + 1) = s.cps.toList.take i ++ [c] := by
  have h2 : s.cps.toList[i]? = some c := by rw [Array.getElem?_toList]; exact h
  rw [List.take_add_one, h2]
  rfl
section
variable {P : Program} {w : World} {K : PySem.W.Frag} {mg : Str → Option Value} {base : Heap} {aR : Addr}
def spIs : Sp := fun vs H Q _ => ∃ (v : V) (b : Bool), vs = [v] ∧ Ask H v b ∧ ∀ H', Same H H' → Q (.bl b) H'
theorem ok_is {f : Addr} {fd : FuncData} (F : FnP K "is_name" sIs f fd) (N : Nm K mg aR) : FnOk P w K mg base CX0 1 f fd ["value"] spIs := by
  obtain ⟨tm, hm⟩ := N.most
  obtain ⟨tl, hl⟩ := N.lets
  obtain ⟨td, hd⟩ := N.digs
  refine F.ok scI (fun vs H Q E h => ?_) (fun cdv A outer s H vs Q E hr h => ?_)
  · obtain ⟨v, b, rfl, _⟩ := h
    rfl
  · obtain ⟨v, b, rfl, ask, q⟩ := h
    refine ⟨_, PSs.nox (pss_cons (ps_if (PW.pt (pw_or (pt_not (pt_val (pe_callB call_isi (by rfl) N.isi (by decide +kernel) (pa_cons (pv 0) (pa_cons (pe_bltn (v := .ty "str") (by rfl) N.str (by decide +kernel) rfl) pa_nil)))))
        (pw_or1 (pt_not (pt_chain op_le op_le pe_int (pe_callB call_len_str (by rfl) N.len PySem.boot_len (pa_cons (pv 0) pa_nil)) (pe_glob (v := .int 8) (by rfl) hm ⟨_, rfl⟩)))))) (pss_one (ps_ret pe_bl)) pss_nil)
      (pss_cons (ps_if (PW.pt (pw_or (pt_cmpR op_notIn_sign (pe_item_str (pv 0) pe_int (fun _ _ => rfl)) (pe_glob (v := .str lets) (by rfl) hl ⟨_, rfl⟩) rfl)
        (pw_or1 (pt_cmpR op_in_seq (pv 0) (pe_glob (v := .ref aR) (by rfl) N.res rfl) rfl)))) (pss_one (ps_ret pe_bl)) pss_nil)
      (pss_one (ps_ret (pe_callB (cr_all rfl) (by rfl) N.all (by decide +kernel) (pa_cons
        (pe_lc (own := [("letter", 1)]) (g := gName 1) (tt := tYes) rfl scI.nd (pi_str (pv 0)) (blkOk_by (N := ["value", "letter"]) (sc := defScope sIs) (by decide +kernel)) (fun _ _ _ _ _ => pg_name (i := 1) scI.nd rfl (.inl rfl)) (fun _ _ _ _ _ => pts_nil)
          (fun _ _ _ _ _ => pe_or (pe_cmpR op_in_sign (pv 1) (pe_glob (v := .str lets) (by rfl) hl ⟨_, rfl⟩) rfl) (pe_one (pe_cmpR op_in_sign (pv 1) (pe_glob (v := .str digs) (by rfl) hd ⟨_, rfl⟩) rfl)))) pa_nil)))))), ?_⟩
    obtain ⟨t, ty, kt⟩ := ask_isi (K := K) ask
    refine ⟨v, rfl, v, .ty "str", t, .type "str", strB v, rfl, .ty _, ty, kt, strB v, rfl, ?_⟩
    cases ask with
    | str s hs =>
      refine iteF ?_
      refine ⟨.str s, rfl, s, rfl, by rw [sizeLine_eq]; omega, 1, _, rfl, rfl, _, rfl, ite2 (fun h1 => ?_) (fun h1 => ?_)⟩
      · have h1 : 1 ≤ s.length := by
          have := of_decide_eq_true h1
          omega
        refine ⟨_, _, rfl, rfl, _, rfl, ifN (fun h2 => ?_) (fun h2 => ?_)⟩
        · have h2 : s.length ≤ 8 := by omega
          obtain ⟨c, hc⟩ := first_cp h1
          refine ⟨.str s, rfl, s, 0, c, rfl, rfl, by decide, by decide, by omega, hc, c, lets, rfl, rfl, _, rfl, ifN (fun h3 => ?_) (fun h3 => ?_)⟩
          · refine ⟨.str s, rfl, aR, RES.map V.str, rfl, .inr (N.resT _), rfl, RES_flat, _, rfl, ifB (fun h4 => ?_) (fun h4 => ?_)⟩
            · have z := q _ (Same.refl _)
              rw [isName_res h4] at z
              exact z
            · have e := isName_all h1 h2 hc h3 h4
              rw [e] at q
              refine ⟨.str s, rfl, s, rfl, fun D nD => lc_it walk_str (fun i H3 => Same H H3 ∧ H3 D = some (.lst (((s.cps.toList.take i).map okc).map V.bl))) ⟨same_upd nD, upd_same⟩ (fun _ _ _ _ => True.intro) ?_ ?_⟩
              · rintro i x H3 H4 hi ⟨sm, eD⟩ ⟨rfl, k, hk, rfl⟩
                refine ⟨rfl, iteT (B := Same H H4 ∧ H4 D = some (.lst (((s.cps.toList.take (i + 1)).map okc).map V.bl))) ?_⟩
                have fin : ∀ b : Bool, okc k = b → ∃ acc, H4 D = some (.lst acc) ∧ acc.length < sizeLine ∧ Same H (upd H4 D (.lst (acc ++ [V.bl b]))) ∧ upd H4 D (.lst (acc ++ [V.bl b])) D = some (.lst (((s.cps.toList.take (i + 1)).map okc).map V.bl)) := fun b hb => by
                  refine ⟨_, eD, small1000 ?_, Same.put sm nD, ?_⟩
                  · rw [List.length_map, List.length_map, List.length_take]
                    have : s.cps.toList.length ≤ 8 := h2
                    omega
                  · rw [upd_same, take_snoc hk, List.map_append, List.map_append, ← hb]
                    rfl
                refine ⟨.str ⟨#[k]⟩, rfl, k, lets, rfl, rfl, _, rfl, ite2 (fun h5 => ?_) (fun h5 => ?_)⟩
                · exact fin true (by unfold okc; rw [h5]; rfl)
                · refine ⟨.str ⟨#[k]⟩, rfl, k, digs, rfl, rfl, ?_⟩
                  exact fin _ (by unfold okc; rw [Bool.eq_false_iff.mpr h5]; rfl)
              · rintro H3 ⟨sm, eD⟩
                rw [show s.cps.toList.take s.cps.size = s.cps.toList from List.take_of_length_le (Nat.le_refl _)] at eD
                refine ⟨D, (s.cps.toList.map okc), rfl, SqL.of eD, ?_⟩
                rw [show (s.cps.toList.map okc).all id = s.cps.toList.all okc by rw [List.all_map]; rfl]
                exact q _ sm
          · have z := q _ (Same.refl _)
            rw [isName_head hc h3] at z
            exact z
        · have z := q _ (Same.refl _)
          rw [isName_long (by omega)] at z
          exact z
      · have z := q _ (Same.refl _)
        rw [isName_short (fun h => h1 (decide_eq_true (by omega)))] at z
        refine ⟨_, rfl, iteT z⟩
    | non => exact iteT (iteT (q _ (Same.refl _)))
    | bl k => exact iteT (iteT (q _ (Same.refl _)))
    | int i => exact iteT (iteT (q _ (Same.refl _)))
    | lst p xs h => exact iteT (iteT (q _ (Same.refl _)))
    | tup p xs h => exact iteT (iteT (q _ (Same.refl _)))
end
end K01
namespace K01
open PySem PySem.Spec PyProof.Rows L2
abbrev D := PyData
def nmD : D → Bool
  | .str s => isName s
  | _ => false
def isStr : D → Bool
  | .str _ => true
  | _ => false
def toStr : D → Str
  | .str s => s
  | _ => ""
def isAs (d : D) : Bool := PyData.eqv d (.str "as")
theorem isAs_str (s : Str) : isAs (.str s) = (s == "as") := by unfold isAs; simp [PyData.eqv]
theorem nm_str {d : D} (h : nmD d = true) : d = .str (toStr d) ∧ isName (toStr d) = true := by
  cases d with
  | str s => exact ⟨rfl, h⟩
  | _ => cases h
theorem strs_of : ∀ {ds : List D}, ds.all nmD = true → ds = (ds.map toStr).map PyData.str ∧ (ds.map toStr).all isName = true
  | [], _ => ⟨rfl, rfl⟩
  | d :: ds, h => by
    rw [List.all_cons, Bool.and_eq_true] at h
    obtain ⟨e1, e2⟩ := nm_str h.1
    obtain ⟨e3, e4⟩ := strs_of h.2
    refine ⟨?_, ?_⟩
    · rw [List.map_cons, List.map_cons, ← e1, ← e3]
    · rw [List.map_cons, List.all_cons, e2, e4]; rfl
theorem all_nm (ws : List Str) : (ws.map PyData.str).all nmD = ws.all isName := by
  rw [List.all_map]; rfl
theorem toStr_map : ∀ ws : List Str, (ws.map PyData.str).map toStr = ws
  | [] => rfl
  | w :: ws => by rw [List.map_cons, List.map_cons, toStr_map ws]; rfl
theorem as_not : isName "as" = false := by decide +kernel
theorem nm_ne {w : Str} (h : isName w = true) : w ≠ "as" := fun e => by
  rw [e, as_not] at h
  cases h
theorem nm_32 {w : Str} (h : isName w = true) : 32 ∉ w.cps.toList := fun hm => by
  unfold isName at h
  simp only [Bool.and_eq_true] at h
  have z := List.all_eq_true.mp h.2.2 32 hm
  revert z
  decide +kernel
/-! ### the last two of a list -/
theorem two_last {α : Type} {ds : List α} (h : 2 ≤ ds.length) : ∃ r a b, ds = r ++ [a, b] := by
  obtain ⟨b, r, e⟩ : ∃ b r, ds.reverse = b :: r := by
    cases e : ds.reverse with
    | nil =>
      have := congrArg List.length e
      rw [List.length_reverse, List.length_nil] at this
      omega
    | cons b r => exact ⟨b, r, rfl⟩
  cases r with
  | nil =>
    have := congrArg List.length e
    rw [List.length_reverse] at this
    simp at this
    omega
  | cons a r =>
    refine ⟨r.reverse, a, b, ?_⟩
    have := congrArg List.reverse e
    rw [List.reverse_reverse] at this
    rw [this]
    simp
def end2 {α : Type} (ds : List α) : Option (List α × α × α) := match ds.reverse with
  | b :: a :: r => some (r.reverse, a, b)
  | _ => none
theorem end2_app {α : Type} (r : List α) (a b : α) : end2 (r ++ [a, b]) = some (r, a, b) := by
  unfold end2
  have e : (r ++ [a, b]).reverse = b :: a :: r.reverse := by simp
  rw [e]
  simp
theorem end2_short {α : Type} {ds : List α} (h : ds.length < 2) : end2 ds = none := by
  unfold end2
  cases ds with
  | nil => rfl
  | cons d ds => cases ds with
    | nil => rfl
    | cons e ds => simp at h; omega
/-! ### the program's deeds -/
def wg (ds : List D) : List D := match end2 ds with
  | some (r, a, b) => if (decide (1 < r.length) && (isAs a && nmD b)) = true then r else ds
  | none => ds
theorem wg_app (r : List D) (a b : D) : wg (r ++ [a, b]) = if (decide (1 < r.length) && (isAs a && nmD b)) = true then r else r ++ [a, b] := by
  unfold wg
  rw [end2_app]
theorem wg_short {ds : List D} (h : ds.length ≤ 3) : wg ds = ds := by
  by_cases h2 : 2 ≤ ds.length
  · obtain ⟨r, a, b, rfl⟩ := two_last h2
    rw [wg_app, if_neg]
    have : ¬ 1 < r.length := by simp at h; omega
    simp [this]
  · unfold wg
    rw [end2_short (by omega)]
def flagAt (ws : List Str) (i : Nat) : Bool := match ws[i]? with
  | some w => inV (.str w) ((ws.take i).map V.str)
  | none => false
def hasRep (ws : List Str) : Bool := ((List.range ws.length).map (flagAt ws)).any id
def LEN : List (Str × Nat) := [("skip", 1), ("make", 2), ("copy", 3), ("read", 3), ("keep", 3), ("write", 3), ("put", 2)]
def isCall : List D → Bool
  | [_, n, .tuple ps] => nmD n && ps.all nmD
  | _ => false
def namesOf (w : Str) (r : List D) : List D := if w = "take" then (wg (.str w :: r)).drop 1 else r
def lenB (h : Str) (n : Nat) : Bool := match LEN.lookup h with
  | some k => decide (n = k)
  | none => false
def isDeedL : List D → Bool
  | .str w :: r => if w = "call" then isCall (wg (.str w :: r)) else
      ((namesOf w r).all nmD && (if w = "take" then decide ((namesOf w r).length = 1)
        else if w = "fetch" then decide (0 < (namesOf w r).length) && !hasRep (((namesOf w r).drop 1).map toStr)
        else lenB w (r.length + 1)))
  | _ => false
def isDeed : D → Bool
  | .tuple ds => isDeedL ds
  | _ => false
/-! ### words -/
def cut (ws : List Str) : List Str × List Str := match end2 ws with
  | some (r, a, b) => if r ≠ [] ∧ a = "as" then (r, [a, b]) else (ws, [])
  | none => (ws, [])
def build (ws : List Str) : List D := match (cut ws).1 with
  | h :: r => if h = "call" then .str h :: ((r.take 1).map PyData.str ++ (.tuple ((r.drop 1).map .str) :: (cut ws).2.map .str)) else (h :: (r ++ (cut ws).2)).map .str
  | [] => []
def lawForm (h : Str) (r t : List Str) : Option (List D) :=
  if h = "take" ∧ r.length = 1 then some ((h :: (r ++ t)).map .str)
  else if h = "call" ∧ 0 < r.length then some (.str h :: ((r.take 1).map PyData.str ++ (.tuple ((r.drop 1).map .str) :: t.map .str)))
  else if h = "fetch" ∧ 0 < r.length then (if hasRep (r.drop 1) = true then none else some ((h :: r).map .str))
  else if h = "skip" ∧ r.length = 0 then some [.str h]
  else if (h = "make" ∨ h = "put") ∧ r.length = 1 then some ((h :: r).map .str)
  else if (h = "copy" ∨ h = "read" ∨ h = "keep" ∨ h = "write") ∧ r.length = 2 then some ((h :: r).map .str)
  else none
def lawRead (ws : List Str) : Option (List D) := match (cut ws).1 with
  | h :: r => if (r ++ (cut ws).2.drop 1).all isName = true then (if (cut ws).2 ≠ [] ∧ ¬ (h = "take" ∨ h = "call") then none else lawForm h r (cut ws).2) else none
  | [] => none
theorem cut_cases (ws : List Str) : ((cut ws).2 = [] ∧ (cut ws).1 = ws) ∨ ∃ r g, r ≠ [] ∧ ws = r ++ [("as" : Str), g] ∧ (cut ws).1 = r ∧ (cut ws).2 = [("as" : Str), g] := by
  by_cases h2 : 2 ≤ ws.length
  · obtain ⟨r, a, b, rfl⟩ := two_last h2
    unfold cut
    rw [end2_app]
    by_cases h : r ≠ [] ∧ a = "as"
    · refine .inr ⟨r, b, h.1, by rw [h.2], ?_, ?_⟩
      · show (if r ≠ [] ∧ a = "as" then (r, [a, b]) else (r ++ [a, b], [])).1 = r
        rw [if_pos h]
      · show (if r ≠ [] ∧ a = "as" then (r, [a, b]) else (r ++ [a, b], [])).2 = _
        rw [if_pos h, h.2]
    · refine .inl ⟨?_, ?_⟩
      · show (if r ≠ [] ∧ a = "as" then (r, [a, b]) else (r ++ [a, b], [])).2 = []
        rw [if_neg h]
      · show (if r ≠ [] ∧ a = "as" then (r, [a, b]) else (r ++ [a, b], [])).1 = _
        rw [if_neg h]
  · unfold cut
    rw [end2_short (by omega)]
    exact .inl ⟨rfl, rfl⟩
theorem cut_as {r : List Str} (h : r ≠ []) (g : Str) : cut (r ++ [("as" : Str), g]) = (r, [("as" : Str), g]) := by
  unfold cut
  rw [end2_app]
  show (if r ≠ [] ∧ ("as" : Str) = "as" then (r, [("as" : Str), g]) else (r ++ [("as" : Str), g], [])) = _
  rw [if_pos ⟨h, rfl⟩]
theorem cut_no {h : Str} {r : List Str} (hr : ∀ w ∈ r, w ≠ "as") : cut (h :: r) = (h :: r, []) := by
  rcases cut_cases (h :: r) with ⟨e1, e2⟩ | ⟨r2, g, hne, e, _, _⟩
  · exact Prod.ext e2 e1
  · cases r2 with
    | nil => exact absurd rfl hne
    | cons k r2 =>
      rw [List.cons_append] at e
      injection e with _ e
      exact absurd rfl (hr "as" (by rw [e]; simp))
/-- tails: none, or as and a word -/
def Tl (t : List Str) : Prop := t = [] ∨ ∃ g, t = [("as" : Str), g]
theorem wg_t {h : D} {r : List D} {t : List Str} (ht : Tl t) (hr : t = [] → ∀ a ∈ r, isAs a = false) (hl : t ≠ [] → r ≠ []) :
    wg (h :: (r ++ t.map .str)) = if (t.drop 1).all isName = true then h :: r else h :: (r ++ t.map .str) := by
  rcases ht with rfl | ⟨g, rfl⟩
  · show wg (h :: (r ++ [])) = h :: r
    rw [List.append_nil]
    by_cases hl : (h :: r).length ≤ 3
    · exact wg_short hl
    · obtain ⟨r2, a, b, e⟩ := two_last (ds := h :: r) (by omega)
      rw [e, wg_app, if_neg]
      have ha : isAs a = false := by
        cases r2 with
        | nil =>
          have e9 := congrArg List.length e
          rw [List.nil_append] at e9
          simp only [List.length_cons, List.length_nil] at e9 hl
          omega
        | cons k r2 =>
          rw [List.cons_append] at e
          injection e with _ e
          exact hr rfl a (by rw [e]; simp)
      rw [ha]
      simp
  · have e : h :: (r ++ ([("as" : Str), g] : List Str).map .str) = (h :: r) ++ [.str "as", .str g] := rfl
    rw [e, wg_app]
    have h1 : 1 < (h :: r).length := by
      have := List.length_pos_iff.mpr (hl (by simp))
      rw [List.length_cons]
      omega
    have h2 : isAs (.str "as") = true := by rw [isAs_str]; rfl
    rw [h2, decide_eq_true h1]
    show (if (true && (true && isName g)) = true then _ else _) = if (([g] : List Str).all isName) = true then _ else _
    have e3 : ([g] : List Str).all isName = isName g := by simp
    rw [e3, Bool.true_and, Bool.true_and]
theorem asl {r : List Str} (h : r.all isName = true) : ∀ a ∈ r.map PyData.str, isAs a = false := by
  intro a ha
  obtain ⟨w, hw, rfl⟩ := List.mem_map.mp ha
  rw [isAs_str]
  exact beq_eq_false_iff_ne.mpr (nm_ne (List.all_eq_true.mp h w hw))
end K01
namespace EK
open PySem PySem.Spec PyProof.Rows L2
/-! ### enumerate(t), t a tuple -/
theorem new_enum_tup (tp : Addr) (ys : Array Value) :
    Meets (Builtin.«enumerate.__new__» ⟨[.type "enumerate", .ref tp], []⟩) (fun _ R s => s.heap.IsTuple tp ys ∧
      R (.ok (.ret (.ref (s.heap.push { cls := .type "tuple_iterator", data := .fields #[.ref tp, .int 0 0] }).objs.size)))
        { s with heap := (s.heap.push { cls := .type "tuple_iterator", data := .fields #[.ref tp, .int 0 0] }).push { cls := .type "enumerate", data := .fields #[.none, .bool false, .ref s.heap.objs.size, rawInt 0, .none, .none] } }) :=
  .of_wp fun prog w A R s h => by
    obtain ⟨hp, g, d, tk, os⟩ := s
    obtain ⟨ht, h⟩ := h
    have sub1 := sub_enumerate
    have it1 : ∀ {A' : Around} {E : Value → Shared → Prop} {Q : Value → Shared → Prop}, Q (.ref hp.objs.size) ⟨hp.push { cls := .type "tuple_iterator", data := .fields #[.ref tp, .int 0 0] }, g, d, tk, os⟩ → wpAny (model prog w) A' (pyIter (.ref tp)) Q E ⟨hp, g, d, tk, os⟩ :=
      fun q => wpAny_pyIter_tuple (s := ⟨hp, g, d, tk, os⟩) ht q
    wp_walk using it1
    refine wpAny_stack_any fun st => wpAny_pure ?_
    split
    · rename_i c _ _ _ _ _
      cases (c == Value.type "enumerate")
      · wp_walk using it1
        exact ⟨_, rfl, h⟩
      · wp_walk using it1
        exact ⟨_, rfl, h⟩
    · wp_walk using it1
      exact ⟨_, rfl, h⟩
theorem made_enum_tup {prog : Program} {w : World} {A : Around} {E : Value → Shared → Prop} {s : Shared} {tp : Addr} {ys : Array Value} {Q : Value → Shared → Prop} (ht : s.heap.IsTuple tp ys)
    (h : ∀ h', IsEnum h' (s.heap.objs.size + 1) s.heap.objs.size 0 .none → h'.IsTupleIter s.heap.objs.size tp 0 → h'.objs.size = s.heap.objs.size + 2 →
      (∀ b o, s.heap.get? b = some o → h'.get? b = some o) → Q (.ref (s.heap.objs.size + 1)) { s with heap := h' }) :
    wpAny (model prog w) A (call (.type "enumerate") [.ref tp]) Q E s := by
  refine callType_new F.called_enumerate (by decide) (F.typeCall_enumerate_1 _) (F.newCall_enumerate_1 _) (fun obj => F.args_object_init_2 obj _) F.entry_enumerate_new
    (new_enum_tup tp ys) ⟨ht, ?_⟩
  have z1 : (s.heap.push { cls := .type "tuple_iterator", data := .fields #[.ref tp, .int 0 0] }).objs.size = s.heap.objs.size + 1 := Heap.size_push ..
  show _ ∧ _
  rw [z1]
  have e1 : IsEnum ((s.heap.push { cls := .type "tuple_iterator", data := .fields #[.ref tp, .int 0 0] }).push
      { cls := .type "enumerate", data := .fields #[.none, .bool false, .ref s.heap.objs.size, rawInt 0, .none, .none] }) (s.heap.objs.size + 1) s.heap.objs.size 0 .none := by
    have y := Heap.get?_push_size (s.heap.push { cls := .type "tuple_iterator", data := .fields #[.ref tp, .int 0 0] })
      (o := { cls := .type "enumerate", data := .fields #[.none, .bool false, .ref s.heap.objs.size, rawInt 0, .none, .none] }) rfl
    rw [z1] at y
    exact y
  refine ⟨⟨_, e1, rfl⟩, h _ e1 ⟨_, Heap.get?_push_of_some _ (Heap.get?_push_size _ rfl), rfl, rfl⟩ (by rw [Heap.size_push, z1]) fun b o x => Heap.get?_push_of_some _ (Heap.get?_push_of_some _ x)⟩
/-- the tuple at a, each item in a new pair -/
def ItT (K : PySem.W.Frag) (a : Addr) : It :=
  ⟨fun i H => ∃ (xs : List V) (x : V), SqT K H a xs ∧ xs[i]? = some x, fun i H v H' => ∃ T x, v = .ref T ∧ H T = none ∧ H' = upd H T (.tup [.int (i : Nat), x]) ∧ ∀ xs, SqT K H a xs → xs[i]? = some x, fun i H => ∃ xs : List V, SqT K H a xs ∧ xs.length ≤ i⟩
theorem apart_enum {h : Heap} {a e it : Addr} {i : Int} {old : Value} {ys : Array Value} {n : Nat} (p : h.IsTuple a ys) (he : IsEnum h e it i old) (hit : h.IsTupleIter it a n) : a ≠ it ∧ a ≠ e := by
  obtain ⟨o, h1, h2, _⟩ := p
  obtain ⟨o2, k1, k2, _⟩ := hit
  refine ⟨?_, ?_⟩
  · rintro rfl
    rw [h1] at k1
    injection k1 with k1
    rw [k1, k2] at h2
    revert h2
    decide
  · rintro rfl
    have he : h.get? a = _ := he
    rw [h1] at he
    injection he with he
    rw [he] at h2
    revert h2
    show (Value.type "enumerate" = Value.type "tuple") → False
    decide
theorem end_enum_tup {prog : Program} {w : World} {A : Around} {E : Value → Shared → Prop} {s : Shared} {e it a : Addr} {i : Nat} {c : Int} {ys : Array Value} {old : Value} {Q : Option Value → Shared → Prop} (hd : A.handled = none)
    (he : IsEnum s.heap e it c old) (hi : s.heap.IsTupleIter it a i) (ha : s.heap.IsTuple a ys) (hn : ys[i]? = none) (q : ∀ h', Heap.ExtBut it s.heap h' → Q none { s with heap := h' }) : wpAny (model prog w) A (pyNext (.ref e)) Q E s := by
  have ty : s.TypeIs (.ref e) "enumerate" := ⟨_, he, rfl⟩
  unfold pyNext
  refine wpAny_bind (wpAny_attempt (wpAny_callSpecial?_slot (name := Str.ofString "__next__") ty F.slot_enumerate_next (wpAny_call_entry F.slot_enumerate_next ty F.entry_enumerate_next ?_ (F.args_enumerate_next_1 _))))
  show wpAny _ _ (field (.ref e) 2 >>= _) _ _ _
  refine wpAny_bind (wpAny_field he rfl (x := .ref it) rfl ?_)
  refine wpAny_bind (wpAny_nextOf_tuple_end hd hi ha hn fun h2 y eb ey => ?_)
  obtain ⟨o, ho, ec⟩ := ey
  refine wpAny_bind (wpAny_isInstance (T := "StopIteration") (b := true) ⟨o, ho, ec⟩ isSubtype_stop ?_)
  exact wpAny_pure (q _ eb)
theorem turn_ItT {P : Program} {w : World} {K : PySem.W.Frag} {elts : List Expr} {kk : Nat} {tpos : Pos} (a e it : Addr) :
    Turn P w K (.Tuple elts kk tpos) (ItT K a) [e, it] e (fun i h => (∃ old, IsEnum h e it ((i : Nat) : Int) old) ∧ h.IsTupleIter it a i ∧ e ≠ it) where
  mem := by simp
  obj := fun i h st b hb => by
    obtain ⟨⟨old, he⟩, ⟨o, ho, hc, hd⟩, _⟩ := st
    rcases (by simpa using hb : b = e ∨ b = it) with z | z
    · rw [z]; exact ⟨_, he, fun v q => nomatch q⟩
    · rw [z]; exact ⟨o, ho, fun v q => by rw [hd] at q; cases q⟩
  keep := fun i h h' st k => let ⟨⟨old, he⟩, hi, hne⟩ := st; ⟨⟨old, k e (by simp) _ he⟩, hi.at fun o q => k it (by simp) o q, hne⟩
  item := by
    intro X hP hw hK hc i pins s σ H E I hf st hg
    subst hP hw hK
    obtain ⟨⟨old, he⟩, hit, hne⟩ := st
    obtain ⟨xs, x, hq, hx⟩ := hg
    obtain ⟨its, rv, p, hz⟩ := I.tuple hq
    obtain ⟨u, hu, ru⟩ := rv.get hx
    have p2 : s.heap.IsTuple a its.toArray := p
    obtain ⟨a1, a2⟩ := apart_enum p2 he hit
    have hel : e < s.heap.objs.size := Heap.lt_size he
    have hil : it < s.heap.objs.size := by obtain ⟨_, q, _⟩ := hit; exact Heap.lt_size q
    have hlt : i < its.toArray.size := by
      rw [List.size_toArray]
      exact (List.getElem?_eq_some_iff.mp hu).1
    refine wpAny_pyNext_enum_itemD (Draws.tuple (A := X.A.in1) (I.ok.hd hc) it a a1 its.toArray) he ⟨hit, p2⟩ hlt hne (by simp [hne, Ne.symm a2]) fun u' h' tk hu' ho st' hT hsz hk => ?_
    obtain rfl : u = u' := by
      have : its[i]? = some u' := by simpa using hu'
      exact Option.some.inj (hu.symm.trans this)
    refine ⟨_, rfl, wpAny_letOwnedTupleGo_enum (s := { s with heap := h', toks := tk + 1 }) ho fun h'' he' sb => ?_⟩
    have hT2 : h''.get? s.heap.objs.size = some { cls := .type "tuple", data := .seq #[.int i tk, u] } := (sb.2 _ (Nat.ne_of_gt hel)).trans hT
    have new : ObjOk X.prog X.w (upd H s.heap.objs.size (.tup [.int (i : Nat), x])) h'' s.heap.objs.size (.tup [.int (i : Nat), x]) :=
      ⟨by show 2 ≤ sizeLine; decide, [.int i tk, u], .cons ⟨_, rfl⟩ (.cons ru .nil), ⟨_, hT2, rfl, _, rfl⟩⟩
    have I1 : Inv X pins σ (upd H s.heap.objs.size (.tup [.int (i : Nat), x])) { s with heap := h'', toks := tk + 1 } :=
      I.turnedNew (ch := [e, it]) (fun b ob hb q => (sb.2 b (fun z => hb (by simp [z]))).trans (hk b ob (fun z => hb (by simp [z])) (fun z => hb (by simp [z])) q)) hf (Nat.le_refl _) new
    refine ⟨.ref s.heap.objs.size, _, I1, rfl, ⟨_, x, rfl, I.hok.fresh (Nat.le_refl _), rfl, fun ys hy => ?_⟩, ⟨⟨u, ?_⟩, st'.1.at fun o q => (sb.2 it (Ne.symm hne)).trans q, hne⟩, fun b hb => ?_⟩
    · rw [I.tuple_inj hy hq]
      exact hx
    · rw [show ((i + 1 : Nat) : Int) = (i : Int) + 1 by omega]
      exact he'
    · have hb' : b < s.heap.objs.size := by
        rcases (by simpa using hb : b = e ∨ b = it) with z | z
        · rw [z]; exact hel
        · rw [z]; exact hil
      rw [upd_ne (Nat.ne_of_lt hb')]
      exact (hf b hb).1
  done := by
    intro X hP hw hK hc i pins s σ H E I hf st hg
    subst hP hw hK
    obtain ⟨⟨old, he⟩, hit, hne⟩ := st
    obtain ⟨xs, hq, hx⟩ := hg
    obtain ⟨its, rv, p, hz⟩ := I.tuple hq
    have p2 : s.heap.IsTuple a its.toArray := p
    obtain ⟨f0, f1, f2, f3, f4, f5⟩ := hf it (by simp)
    have hl := rv.length
    exact end_enum_tup (I.ok.hd hc) he hit p2 (by rw [← Array.getElem?_toList]; exact List.getElem?_eq_none (by show its.length ≤ i; omega)) fun h' eb => ⟨rfl, I.turned (t' := s.toks) (fun b o hb q => eb b o hb q) f0 f1 f3 f4 f5⟩
  self := fun A i s Q E st h => let ⟨⟨_, he⟩, _⟩ := st; wpAny_pyIter_enum he h
def iEnT (K : PySem.W.Frag) (ta : TA) : TI := fun σ H R => ta σ H fun vs H1 => ∃ a xs, vs = [.ref a] ∧ SqT K H1 a xs ∧ R (ItT K a) H1
theorem pi_enT {X : Cx} {e : Expr} {ta : TA} {p pos tpos : Pos} {elts : List Expr} {kk : Nat} (hg : Gl X "enumerate") (hm : X.mg "enumerate" = none) (ha : PA X [e] ta) (hs : starEach [e] X.env = [(false, eval e X.env)] := by rfl) :
    PI X (.Tuple elts kk tpos) (.Call (.Name "enumerate" p) [e] [] pos) (iEnT X.K ta) := by
  refine ⟨fun pins s σ H R I h => ?_⟩
  refine Call_ (ld_blt I hg hm boot_enumerate (PyProof.Rows.callWith_type1 (thn (ha.run pos pins s σ H _ I h) fun us s1 ⟨vs, H1, I1, r1, q1⟩ => ?_) hs rfl))
  obtain ⟨a, xs, rfl, hq, q⟩ := q1
  cases r1 with
  | cons r rr =>
    cases rr
    cases r
    obtain ⟨its, rv, p', hz⟩ := I1.tuple hq
    have p2 : s1.heap.IsTuple a its.toArray := p'
    refine made_enum_tup p2 fun h' he hit hsz hk => wpAny_pyIter_enum he ?_
    have I2 : Inv X pins σ H1 { s1 with heap := h' } := I1.kept (t' := s1.toks) hk
    refine ⟨s1.heap.objs.size + 1, [s1.heap.objs.size + 1, s1.heap.objs.size], _, _, H1, rfl, I2, turn_ItT a (s1.heap.objs.size + 1) s1.heap.objs.size, ⟨⟨.none, he⟩, hit, Nat.succ_ne_self _⟩, fun b hb => ?_, q⟩
    have hle : s1.heap.objs.size ≤ b := by
      rcases (by simpa using hb : b = s1.heap.objs.size + 1 ∨ b = s1.heap.objs.size) with z | z
      · rw [z]; exact Nat.le_add_right _ _
      · rw [z]; exact Nat.le_refl _
    exact I1.fpOk hle (I1.hok.fresh hle)
theorem walk_enT {K : PySem.W.Frag} {a : Addr} {xs : List V} : Walk (ItT K a) xs.length (fun H => SqT K H a xs) (YPair (fun i => some (.int (i : Nat))) (fun i => xs[i]?)) := by
  refine ⟨fun i _ hi q => ⟨xs, xs[i], q, by simp [hi]⟩, fun _ q => ⟨xs, q, Nat.le_refl _⟩, fun i H v H' _ q y => ?_⟩
  obtain ⟨T, x, h1, h2, h3, h4⟩ := y
  exact ⟨T, .int (i : Nat), x, h1, h2, h3, rfl, h4 xs q⟩
/-! ### list.extend(t), t a tuple -/
def rExtT : V → List V → Hp → VK → Prop := fun x vs H Q => ∃ l b xs zs, x = .ref l ∧ vs = [.ref b] ∧ H l = some (.lst xs) ∧ H b = some (.tup zs) ∧ xs.length + zs.length ≤ sizeLine ∧ Q .non (upd H l (.lst (xs ++ zs)))
theorem tuple_plain : True := True.intro
/-! ### t + u, t[lo:hi]: some tuple of the items -/
def rCatU (K : PySem.W.Frag) : R2 := fun x y H Q => ∃ a b xs ys, x = .ref a ∧ y = .ref b ∧ SqT K H a xs ∧ SqT K H b ys ∧ xs.length + ys.length ≤ sizeLine ∧ ∀ p H', Same H H' → SqT K H' p (xs ++ ys) → Q (.ref p) H'
theorem same_new {H : Hp} {p : Addr} {o : HO} (h : H p = none) : Same H (upd H p o) := fun b x e => by
  by_cases z : b = p
  · rw [z, h] at e
    cases e
  · rw [upd_ne z]
    exact e
theorem op_catU {X : Cx} : OpR X (binaryOp .Add) (rCatU X.K) := by
  intro pins s σ H x y v u Q I rx ry h
  obtain ⟨a, b, xs, ys, e1, e2, ha, hb, hz, q⟩ := h
  refine op_catA pins s σ H x y v u Q I rx ry ⟨a, b, xs, ys, e1, e2, ha, hb, hz, fun e => ?_, fun _ e => ?_, fun _ _ p np => ?_⟩
  · subst e
    exact q b H (Same.refl _) hb
  · subst e
    have z := q a H (Same.refl _) (by rw [List.append_nil]; exact ha)
    exact z
  · exact q p _ (same_new np) (SqT.of upd_same)
def rSlU (K : PySem.W.Frag) : V → Option Int → Option Int → Hp → VK → Prop := fun x lo hi H Q => ∃ a xs, x = .ref a ∧ SqT K H a xs ∧ ∀ p H', Same H H' → SqT K H' p (cutV xs lo hi) → Q (.ref p) H'
theorem sl_tupU {X : Cx} : SlR X (rSlU X.K) := by
  intro pins s σ H x v vl vu lo hi sl Q I rx hs pl pu h
  obtain ⟨a, xs, e, hx, q⟩ := h
  refine sl_tupA pins s σ H x v vl vu lo hi sl Q I rx hs pl pu ⟨a, xs, e, hx, fun z => ?_, fun _ p np => ?_⟩
  · have : cutV xs lo hi = xs := by
      unfold cutV
      rw [z.1, z.2, List.drop_zero, Nat.sub_zero, List.take_length]
    exact q a H (Same.refl _) (by rw [this]; exact hx)
  · exact q p _ (same_new np) (SqT.of upd_same)
/-! ### == of texts, or of data -/
def rEqU (K : PySem.W.Frag) : R2 := fun x y H Q => ∃ (d e : PyData), Dp K H x d ∧ Dp K H y e ∧ ((∃ a b, d = .str a ∧ e = .str b) ∨ (SeqAt.shaped d = true ∧ SeqAt.shaped e = true)) ∧ Q (.bl (PyData.eqv d e)) H
theorem op_eqU {X : Cx} (hu : X.A.units + 64 < cLine) : OpR X (compareOp .Eq) (rEqU X.K) := by
  intro pins s σ H x y v u Q I rx ry h
  obtain ⟨d, e, hd, he, hc, q⟩ := h
  rcases hc with ⟨a, b, rfl, rfl⟩ | ⟨sd, se⟩
  · cases hd
    cases he
    refine op_eq pins s σ H _ _ v u Q I rx ry ⟨rfl, ?_⟩
    rw [dec_str]
    simpa [PyData.eqv] using q
  · exact op_eqD hu pins s σ H x y v u Q I rx ry ⟨d, e, hd, he, sd, se, q⟩
end EK
namespace EK
open PySem PySem.Spec PyProof.Rows L2
section
open AutoSeq1
theorem ext_tup (l : Addr) (items : Array Value) (n : Nat) (b : Addr) (items2 : Array Value) (n2 : Nat) (dc : Option Addr) (sl : Array (Option Value)) (hs0 : ¬(!items.isEmpty && Builtin.List.listTooLong (items.size + items2.size)) = true) (hs1 : items.size ≤ sizeLine) (hs2 : items.size + items2.size ≤ sizeLine + 1) :
    Meets (Builtin.«list.extend» ⟨[.ref l, .ref b], []⟩) (fun _ R s => s.heap.get? l = some { cls := .type "list", dict := none, data := .seq items n, slots := #[] } ∧ s.heap.get? b = some { cls := .type "tuple", dict := dc, data := .seq items2 n2, slots := sl } ∧ R (.ok (.ret Value.none)) { s with heap := s.heap.update l (Obj.mapSeq fun x => x ++ items2), toks := s.toks }) :=
  .of_wp fun prog w A R s h => by
    obtain ⟨hp, g, d, tk, os⟩ := s
    obtain ⟨hl, hb, h⟩ := h
    have f1 := idx_int
    have f2 := AutoSeq1.sub_tuple_tuple
    have f3 := AutoSeq1.sub_list_list
    have f4 := AutoSeq1.sub_tuple_list
    have f5 := AutoSeq1.sub_list_tuple
    have hz' : (items ++ items2).size ≤ sizeLine + 1 := by rw [Array.size_append]; exact hs2
    wp_walk using (wpAny_updateSeq hl rfl (hz := hs1) (_hz' := hz')), wpAny_loadPart' hl, wpAny_loadPart' hb
    exact ⟨_, rfl, h⟩
end
theorem mt_extT {X : Cx} : MtM X "list.extend" rExtT := by
  intro pins s σ H x vs v us Q I rx rv h
  obtain ⟨l, b, xs, zs, rfl, rfl, hH, hB, hz, q⟩ := h
  cases rx
  obtain ⟨u, rfl, ru⟩ := rv.one
  cases ru
  obtain ⟨z, its, n, r, hl, e⟩ := I.lstM hH
  obtain ⟨its2, r2, ⟨⟨c2, dc, dt, sl⟩, e2, c3, n2, d3⟩, z2⟩ := I.tuple (SqT.of (K := X.K) hB)
  replace c3 : c2 = .type "tuple" := c3
  replace d3 : dt = .seq its2.toArray n2 := d3
  subst c3 d3
  have hl2 := r2.length
  have hsz : its.toArray.size + its2.toArray.size ≤ sizeLine := by rw [List.size_toArray, List.size_toArray]; omega
  have hlong : ¬ (!its.toArray.isEmpty && Builtin.List.listTooLong (its.toArray.size + its2.toArray.size)) = true := by
    rw [notLongL hsz, Bool.and_false]
    exact Bool.false_ne_true
  refine call_meets F.slot_list_extend ⟨_, e, rfl⟩ F.entry_list_extend (F.args_list_extend_2 _ _) (ext_tup l its.toArray n b its2.toArray n2 dc sl hlong (by rw [List.size_toArray]; omega) (by omega)) ⟨e, e2, ?_⟩
  refine ⟨.non, _, I.lset (its' := its ++ its2) hH e (by simp) (r.append r2) ?_, rfl, q⟩
  rw [List.length_append]
  omega
end EK
namespace K01
open PySem PySem.Spec PyProof.Rows L2
/-! ### values and data -/
mutual
inductive Vr (pd : Addr) (H : Hp) : V → D → Prop
  | no : Vr pd H .non .none
  | bo (b : Bool) : Vr pd H (.bl b) (.bool b)
  | num (i : Int) : Vr pd H (.int i) (.int i)
  | txt (x : Str) : Vr pd H (.str x) (.str x)
  | li {a : Addr} {xs : List V} {ds : List D} : H a = some (.lst xs) → a ≠ pd → VrA pd H xs ds → Vr pd H (.ref a) (.list ds)
  | tu {a : Addr} {xs : List V} {ds : List D} : H a = some (.tup xs) → a ≠ pd → VrA pd H xs ds → Vr pd H (.ref a) (.tuple ds)
inductive VrA (pd : Addr) (H : Hp) : List V → List D → Prop
  | nil : VrA pd H [] []
  | cons {v : V} {vs : List V} {d : D} {ds : List D} : Vr pd H v d → VrA pd H vs ds → VrA pd H (v :: vs) (d :: ds)
end
mutual
theorem Vr.dp {pd : Addr} {H : Hp} (K : PySem.W.Frag) : ∀ (d : D) {v : V}, Vr pd H v d → Dp K H v d
  | .none, _, h => by cases h; exact .non
  | .bool b, _, h => by cases h; exact .bl b
  | .int i, _, h => by cases h; exact .int i
  | .str x, _, h => by cases h; exact .str x
  | .list ds, _, h => by
    cases h with
    | li h1 _ h3 => exact .lst (SqL.of h1) (VrA.dp K ds h3)
  | .tuple ds, _, h => by
    cases h with
    | tu h1 _ h3 => exact .tup (SqT.of h1) (VrA.dp K ds h3)
  | .dict _, _, h => by cases h
theorem VrA.dp {pd : Addr} {H : Hp} (K : PySem.W.Frag) : ∀ (ds : List D) {vs : List V}, VrA pd H vs ds → DpAll K H vs ds
  | [], _, h => by cases h; exact .nil
  | d :: ds, _, h => by
    cases h with
    | cons h1 h2 => exact .cons (Vr.dp K d h1) (VrA.dp K ds h2)
end
mutual
theorem Vr.up {pd : Addr} {H H' : Hp} (k : ∀ b o, H b = some o → b ≠ pd → H' b = some o) : ∀ (d : D) {v : V}, Vr pd H v d → Vr pd H' v d
  | .none, _, h => by cases h; exact .no
  | .bool b, _, h => by cases h; exact .bo b
  | .int i, _, h => by cases h; exact .num i
  | .str x, _, h => by cases h; exact .txt x
  | .list ds, _, h => by
    cases h with
    | li h1 h2 h3 => exact .li (k _ _ h1 h2) h2 (VrA.up k ds h3)
  | .tuple ds, _, h => by
    cases h with
    | tu h1 h2 h3 => exact .tu (k _ _ h1 h2) h2 (VrA.up k ds h3)
  | .dict _, _, h => by cases h
theorem VrA.up {pd : Addr} {H H' : Hp} (k : ∀ b o, H b = some o → b ≠ pd → H' b = some o) : ∀ (ds : List D) {vs : List V}, VrA pd H vs ds → VrA pd H' vs ds
  | [], _, h => by cases h; exact .nil
  | d :: ds, _, h => by
    cases h with
    | cons h1 h2 => exact .cons (Vr.up k d h1) (VrA.up k ds h2)
end
variable {pd : Addr} {H H' : Hp}
theorem Vr.same (s : Same H H') {d : D} {v : V} (h : Vr pd H v d) : Vr pd H' v d := h.up (fun b o e _ => s b o e) d
theorem VrA.same (s : Same H H') {ds : List D} {vs : List V} (h : VrA pd H vs ds) : VrA pd H' vs ds := h.up (fun b o e _ => s b o e) ds
theorem VrA.len : ∀ {vs : List V} {ds : List D}, VrA pd H vs ds → vs.length = ds.length
  | _, [], h => by cases h; rfl
  | _, d :: ds, h => by
    cases h with
    | cons h1 h2 => rw [List.length_cons, List.length_cons, h2.len]
theorem VrA.get : ∀ {vs : List V} {ds : List D} {i : Nat} {v : V}, VrA pd H vs ds → vs[i]? = some v → ∃ d, ds[i]? = some d ∧ Vr pd H v d
  | _, [], i, v, h, e => by cases h; cases e
  | _, d :: ds, 0, v, h, e => by
    cases h with
    | cons h1 h2 =>
      cases e
      exact ⟨d, rfl, h1⟩
  | _, d :: ds, i + 1, v, h, e => by
    cases h with
    | cons h1 h2 => exact VrA.get (i := i) h2 e
theorem VrA.app : ∀ {vs us : List V} {ds es : List D}, VrA pd H vs ds → VrA pd H us es → VrA pd H (vs ++ us) (ds ++ es)
  | _, us, [], es, h, k => by cases h; exact k
  | _, us, d :: ds, es, h, k => by
    cases h with
    | cons h1 h2 => exact .cons h1 (VrA.app h2 k)
theorem VrA.split : ∀ {ds es : List D} {vs : List V}, VrA pd H vs (ds ++ es) → ∃ xs ys, vs = xs ++ ys ∧ VrA pd H xs ds ∧ VrA pd H ys es
  | [], es, vs, h => ⟨[], vs, rfl, .nil, h⟩
  | d :: ds, es, vs, h => by
    cases h with
    | cons h1 h2 =>
      obtain ⟨xs, ys, rfl, k1, k2⟩ := VrA.split h2
      exact ⟨_ :: xs, ys, rfl, .cons h1 k1, k2⟩
theorem VrA.take : ∀ {vs : List V} {ds : List D} (n : Nat), VrA pd H vs ds → VrA pd H (vs.take n) (ds.take n)
  | _, _, 0, h => by rw [List.take_zero, List.take_zero]; exact .nil
  | _, [], n + 1, h => by cases h; exact .nil
  | _, d :: ds, n + 1, h => by
    cases h with
    | cons h1 h2 => exact .cons h1 (VrA.take n h2)
theorem VrA.drop : ∀ {vs : List V} {ds : List D} (n : Nat), VrA pd H vs ds → VrA pd H (vs.drop n) (ds.drop n)
  | _, _, 0, h => h
  | _, [], n + 1, h => by cases h; exact .nil
  | _, d :: ds, n + 1, h => by
    cases h with
    | cons h1 h2 => exact VrA.drop n h2
theorem VrA.strs : ∀ (ws : List Str), VrA pd H (ws.map V.str) (ws.map PyData.str)
  | [] => .nil
  | w :: ws => .cons (.txt w) (VrA.strs ws)
theorem VrA.strs_inv : ∀ {ws : List Str} {vs : List V}, VrA pd H vs (ws.map PyData.str) → vs = ws.map V.str
  | [], _, h => by cases h; rfl
  | w :: ws, _, h => by
    cases h with
    | cons h1 h2 =>
      cases h1
      rw [VrA.strs_inv h2]
      rfl
def LiS (d : D) : Prop := ∀ s, d = .str s → s.length ≤ 1000
def Li (d : D) : Prop := LiS d ∧ ∀ ps, d = .tuple ps → ps.length ≤ 1000 ∧ ∀ p ∈ ps, LiS p
def LiW (ds : List D) : Prop := ds.length ≤ 1000 ∧ ∀ d ∈ ds, Li d
def LiL (ds : List D) : Prop := LiW ds ∧ ∀ r x y, ds = r ++ [x, y] → 1 < r.length → (∃ s, x = .str s) ∨ SeqAt.shaped x = true
theorem Vr.ask {v : V} {d : D} (h : Vr pd H v d) (l : LiS d) : Ask H v (nmD d) := by
  cases h with
  | no => exact .non
  | bo b => exact .bl b
  | num i => exact .int i
  | txt x => exact .str x (l x rfl)
  | li h1 h2 h3 => exact .lst _ _ h1
  | tu h1 h2 h3 => exact .tup _ _ h1
theorem sl1000 : (1000 : Nat) ≤ sizeLine := by rw [sizeLine_eq]; omega
theorem cut_from (xs : List V) (k : Nat) : cutV xs (some (k : Nat)) none = xs.drop k := by
  unfold cutV
  have e1 : HT.sIx xs.length xs.length none = xs.length := rfl
  have e2 : HT.sIx xs.length 0 (some ((k : Nat) : Int)) = min k xs.length := by
    unfold HT.sIx
    simp only
    rw [if_neg (by omega), Int.toNat_natCast]
  rw [e1, e2]
  by_cases h : k ≤ xs.length
  · rw [Nat.min_eq_left h]
    exact List.take_of_length_le (by rw [List.length_drop]; omega)
  · rw [Nat.min_eq_right (by omega), List.drop_length, List.drop_eq_nil_of_le (by omega), List.take_nil]
theorem cut_to (xs : List V) (k : Nat) : cutV xs none (some (k : Nat)) = xs.take k := by
  unfold cutV
  have e1 : HT.sIx xs.length 0 none = 0 := rfl
  have e2 : HT.sIx xs.length xs.length (some ((k : Nat) : Int)) = min k xs.length := by
    unfold HT.sIx
    simp only
    rw [if_neg (by omega), Int.toNat_natCast]
  rw [e1, e2, List.drop_zero, Nat.sub_zero]
  by_cases h : k ≤ xs.length
  · rw [Nat.min_eq_left h]
  · rw [Nat.min_eq_right (by omega), List.take_length, List.take_of_length_le (by omega)]
theorem cut_butn (xs ys : List V) (k : Nat) (hk : ys.length = k) (h0 : 0 < k) : cutV (xs ++ ys) none (some (-(k : Int))) = xs := by
  unfold cutV
  have e1 : HT.sIx (xs ++ ys).length 0 none = 0 := rfl
  have e2 : HT.sIx (xs ++ ys).length (xs ++ ys).length (some (-(k : Int))) = xs.length := by
    unfold HT.sIx
    simp only
    rw [if_pos (by omega), List.length_append]
    omega
  rw [e1, e2, List.drop_zero, Nat.sub_zero]
  exact List.take_left
theorem cut_lastn (xs ys : List V) (k : Nat) (hk : ys.length = k) (h0 : 0 < k) : cutV (xs ++ ys) (some (-(k : Int))) none = ys := by
  unfold cutV
  have e1 : HT.sIx (xs ++ ys).length (xs ++ ys).length none = (xs ++ ys).length := rfl
  have e2 : HT.sIx (xs ++ ys).length 0 (some (-(k : Int))) = xs.length := by
    unfold HT.sIx
    simp only
    rw [if_pos (by omega), List.length_append]
    omega
  rw [e1, e2, List.drop_left]
  exact List.take_of_length_le (by rw [List.length_append]; omega)
theorem at_back (xs ys : List V) (k : Nat) (h0 : 0 < k) (h1 : k ≤ ys.length) : atI (xs ++ ys) (-(k : Int)) = ys[ys.length - k]? := by
  unfold atI ixN
  rw [if_neg (by omega), if_pos (by rw [List.length_append]; omega)]
  show (xs ++ ys)[_]? = _
  rw [List.getElem?_append_right (by rw [List.length_append]; omega)]
  congr 1
  rw [List.length_append]
  omega
end K01
namespace K01
open PySem PySem.Spec PyProof.Rows L2
/-! ### t + u, t[lo:hi] of tuples that stand in the heap: old or new -/
def rCatH : R2 := fun x y H Q => ∃ a b xs ys, x = .ref a ∧ y = .ref b ∧ H a = some (.tup xs) ∧ H b = some (.tup ys) ∧ xs.length + ys.length ≤ sizeLine ∧ ∀ p H', Same H H' → H' p = some (.tup (xs ++ ys)) → (p = a ∨ p = b ∨ H p = none) → Q (.ref p) H'
theorem op_catH {X : Cx} : OpR X (binaryOp .Add) rCatH := by
  intro pins s σ H x y v u Q I rx ry h
  obtain ⟨a, b, xs, ys, e1, e2, ha, hb, hz, q⟩ := h
  refine op_catA pins s σ H x y v u Q I rx ry ⟨a, b, xs, ys, e1, e2, SqT.of ha, SqT.of hb, hz, fun e => ?_, fun _ e => ?_, fun _ _ p np => ?_⟩
  · subst e
    exact q b H (Same.refl _) hb (.inr (.inl rfl))
  · subst e
    exact q a H (Same.refl _) (by rw [List.append_nil]; exact ha) (.inl rfl)
  · exact q p _ (EK.same_new np) upd_same (.inr (.inr np))
def rSlH : V → Option Int → Option Int → Hp → VK → Prop := fun x lo hi H Q => ∃ a xs, x = .ref a ∧ H a = some (.tup xs) ∧ ∀ p H', Same H H' → H' p = some (.tup (cutV xs lo hi)) → (p = a ∨ H p = none) → Q (.ref p) H'
theorem sl_tupH {X : Cx} : SlR X rSlH := by
  intro pins s σ H x v vl vu lo hi sl Q I rx hs pl pu h
  obtain ⟨a, xs, e, hx, q⟩ := h
  refine sl_tupA pins s σ H x v vl vu lo hi sl Q I rx hs pl pu ⟨a, xs, e, SqT.of hx, fun z => ?_, fun _ p np => ?_⟩
  · have : cutV xs lo hi = xs := by
      unfold cutV
      rw [z.1, z.2, List.drop_zero, Nat.sub_zero, List.take_length]
    exact q a H (Same.refl _) (by rw [this]; exact hx) (.inl rfl)
  · exact q p _ (EK.same_new np) upd_same (.inr np)
abbrev sRep : Stmt := top 6
theorem scRep : FnScope ["values", "at", "value"] ["values"] (defScope sRep) := ⟨rfl, rfl, rfl, by decide +kernel, rfl, by decide +kernel, by decide +kernel⟩
section
variable {P : Program} {w : World} {K : PySem.W.Frag} {mg : Str → Option Value} {base : Heap} {aR pd : Addr}
theorem sqT {H H' : Hp} {a : Addr} {xs : List V} (e : Same H H') (h : SqT K H a xs) : SqT K H' a xs := by
  rcases h with h | h
  · rcases h with h | ⟨o, h⟩
    · exact .inl (.inl (e _ _ h))
    · exact .inl (.inr ⟨o, e _ _ h⟩)
  · exact .inr h
def spRep (K : PySem.W.Frag) : Sp := fun vs H Q _ => ∃ (a : Addr) (ws : List Str), vs = [.ref a] ∧ SqT K H a (ws.map V.str) ∧ ws.length ≤ 1000 ∧ ∀ H', Same H H' → Q (.bl (hasRep ws)) H'
theorem flags_take {ws : List Str} {i : Nat} (h : i < ws.length) : (List.range (i + 1)).map (flagAt ws) = (List.range i).map (flagAt ws) ++ [flagAt ws i] := by
  rw [List.range_succ, List.map_append]
  rfl
theorem ok_rep {f : Addr} {fd : FuncData} (F : FnP K "has_repeat" sRep f fd) (me : mg "enumerate" = none) (ma : mg "any" = none) : FnOk P w K mg base CX0 1 f fd ["values"] (spRep K) := by
  refine F.ok scRep (fun vs H Q E h => ?_) (fun cdv A outer s H vs Q E hr h => ?_)
  · obtain ⟨a, ws, rfl, _⟩ := h
    rfl
  · obtain ⟨a, ws, rfl, ha, hl, q⟩ := h
    refine ⟨_, PSs.nox (pss_one (ps_ret (pe_callB (cr_any rfl) (by rfl) ma (by decide +kernel) (pa_cons
      (pe_lc (own := [("at", 1), ("value", 2)]) (g := gTup K 2 (gCons (gName 1) (gCons (gName 2) gNil))) (tt := tYes) rfl scRep.nd (EK.pi_enT (by rfl) me (pa_cons (pv 0) pa_nil)) (blkOk_by (N := ["values", "at", "value"]) (sc := defScope sRep) (by decide +kernel))
        (fun _ _ _ _ _ => pg_tup rfl (pgs_cons (pg_name (i := 1) scRep.nd rfl (.inl rfl)) (pgs_cons (pg_name (i := 2) scRep.nd rfl (.inl rfl)) pgs_nil))) (fun _ _ _ _ _ => pts_nil)
        (fun _ _ _ _ _ => pe_cmpR (r := rIn K false) op_in_seq (pv 2) (pe_slice (r := EK.rSlU K) EK.sl_tupU (pv 0) po_none (po_some (pv 1))) rfl)) pa_nil)))), ?_⟩
    refine ⟨.ref a, rfl, a, ws.map V.str, rfl, ha, fun Dl nD => lc_it EK.walk_enT (fun i H3 => Same H H3 ∧ H3 Dl = some (.lst (((List.range i).map (flagAt ws)).map V.bl))) ⟨same_upd nD, upd_same⟩ (fun i H3 _ p => sqT (p.1) ha) ?_ ?_⟩
    · rintro i x H3 H4 hi ⟨sm, eD⟩ ⟨T, v1, v2, rfl, nT, rfl, e1, e2⟩
      rw [List.length_map] at hi
      cases e1
      have e3 : ws[i]? = some ws[i] := List.getElem?_eq_getElem hi
      have e2 : (ws.map V.str)[i]? = some v2 := e2
      rw [List.getElem?_map, e3] at e2
      cases e2
      have sm4 : Same H (upd H3 T (.tup [.int (i : Nat), V.str ws[i]])) := sm.trans (same_upd nT)
      refine ⟨T, _, rfl, SqT.of upd_same, rfl, .int (i : Nat), [.str ws[i]], rfl, .str ws[i], [], rfl, rfl, rfl, ?_⟩
      refine iteT (B := Same H (upd H3 T (.tup [.int (i : Nat), V.str ws[i]])) ∧ (upd H3 T (.tup [.int (i : Nat), V.str ws[i]])) Dl = some (.lst (((List.range (i + 1)).map (flagAt ws)).map V.bl))) ⟨.str ws[i], rfl, .ref a, rfl, .int (i : Nat), rfl, (i : Nat), rfl, a, ws.map V.str, rfl, sqT (sm4) ha, fun p H5 s5 hp => ?_⟩
      rw [cut_to] at hp
      refine ⟨p, _, rfl, .inr hp, rfl, by rw [← List.map_take, List.all_map]; exact List.all_eq_true.mpr fun _ _ => rfl, ?_⟩
      have eD5 : H5 Dl = some (.lst (((List.range i).map (flagAt ws)).map V.bl)) := s5 _ _ (by rw [upd_ne (ne_of_none eD nT)]; exact eD)
      have sm5 : Same H H5 := sm4.trans s5
      refine ⟨_, eD5, small1000 (by rw [List.length_map, List.length_map, List.length_range]; omega), Same.put sm5 nD, ?_⟩
      rw [upd_same, flags_take hi, List.map_append]
      have e6 : flagAt ws i = inV (.str ws[i]) ((ws.take i).map V.str) := by
        unfold flagAt
        rw [e3]
      rw [e6, List.map_take]
      rfl
    · rintro H3 ⟨sm, eD⟩
      rw [List.length_map] at eD
      exact ⟨Dl, _, rfl, SqL.of eD, q _ sm⟩
end
end K01
namespace L2
open PySem PySem.Spec PyProof.Rows NdefX
/-! ### messages -/
/-- a value that may stand in a message -/
def ShoA (H : Hp) (x : V) : Prop := Sho x ∨ ∃ p xs, x = .ref p ∧ H p = some (.tup xs) ∧ xs.length ≤ 10 ∧ ∀ v ∈ xs, Sho v
theorem ShoA.keep {H H' : Hp} {x : V} (h : ShoA H x) (k : ∀ p xs, H p = some (.tup xs) → H' p = some (.tup xs)) : ShoA H' x := by
  rcases h with h | ⟨p, xs, e, hp, r⟩
  · exact .inl h
  · exact .inr ⟨p, xs, e, k p xs hp, r⟩
/-- a part of a message: a short text, whatever it is -/
def GoodT (t : TE) (σ : L2.St) (H : Hp) : Prop := ∀ R : V → Hp → Prop, (∀ y : Str, y.length ≤ 100000 → R (.str y) H) → t σ H R
theorem good_str {x : Str} {σ : L2.St} {H : Hp} (h : x.length ≤ 100000) : GoodT (tC (.str x)) σ H := fun _ q => q x h
theorem good_fmt {i : Nat} {v : V} {σ : L2.St} {H : Hp} (e : σ[i]? = some (some v)) (h : ShoA H v) : GoodT (tFmtRA (tVar i)) σ H := fun _ q => ⟨v, e, h, q⟩
theorem good_fmtP {i : Nat} {v : V} {σ : L2.St} {H : Hp} (e : σ[i]? = some (some v)) (h : ShoA H v) : GoodT (tFmtA (tVar i)) σ H := fun _ q => ⟨v, e, h, q⟩
theorem msg_ok {σ : L2.St} {H : Hp} {R : Str → Hp → Prop} (q : ∀ x, R x H) : ∀ (ts : List TE) (acc : Str), (∀ t ∈ ts, GoodT t σ H) → acc.length + 100000 * ts.length ≤ sizeLine → tJs ts acc σ H R
  | [], acc, _, _ => q acc
  | t :: ts, acc, h, hl => by
    refine h t List.mem_cons_self _ fun y hy => ⟨y, rfl, ?_, ?_⟩
    · rw [List.length_cons] at hl
      rw [strLen_append]
      omega
    · refine msg_ok q ts _ (fun u hu => h u (List.mem_cons_of_mem _ hu)) ?_
      rw [List.length_cons] at hl
      rw [strLen_append]
      omega
/-! ### the promise of such an __init__ -/
/-- an exception of the class C with these fields (the last stored first) -/
def ExcAt (H0 H : Hp) (e C : Addr) (fs : List (Str × V)) : Prop := (fs = [] ∧ H e = some (exo e C none)) ∨ ∃ d, H0 d = none ∧ H e = some (exo e C (some d)) ∧ H d = some (exd d fs)
def spInit (C : Addr) (fn : List Str) : Sp := fun vs H Q _ => ∃ (a : Addr) (ws : List V), vs = .ref a :: ws ∧ ws.length = fn.length ∧ H a = some (exo a C none) ∧ (∀ v ∈ ws, ShoA H v) ∧
  ∀ H', (∀ b o, H b = some o → b ≠ a → H' b = some o) → ExcAt H H' a C (fn.zip ws).reverse → Q .non H'
theorem exo_ne_tup {H : Hp} {a C : Addr} {p : Addr} {xs : List V} (h : H a = some (exo a C none)) (hp : H p = some (.tup xs)) : p ≠ a := at_ne h hp exo_tup
section
variable {P : Program} {w : World} {K : PySem.W.Frag} {mg : Str → Option Value} {base : Heap} {C fI cc cda : Addr} {qual : Str} {params : Arguments} {scope : Scope} {e : Expr} {p0 p1 p2 p3 p4 q1 q2 q3 q4 r1 r2 r3 r4 : Pos} {ar : Arg} {f1 f2 : Str}
abbrev supC (e : Expr) (p0 p1 p2 p3 p4 : Pos) : Stmt := .Expr (.Call (.Attribute (.Call (.Name "super" p0) [] [] p1) "__init__" p2) [e] [] p3) p4
abbrev stoC (f : Str) (q1 q2 q3 q4 : Pos) : Stmt := .Assign [.Attribute (.Name "self" q1) f q2] (.Name f q3) q4
/-- what is asked of the message, in the frame of the __init__ -/
def MsgOk (P : Program) (w : World) (K : PySem.W.Frag) (mg : Str → Option Value) (base : Heap) (N : List Str) (F : NF) (fI : Addr) (e : Expr) (n : Nat) : Prop :=
  ∀ (A : Around) (outer : List Env) (s : Shared) (H : Hp) (E : XK), A.units + 200 < cLine → ∃ te, PE (ncx CX0 P w K mg base N F fI A outer s H E) e te ∧ ∀ (σ : L2.St) (H' : Hp) (R : V → Hp → Prop), (∀ i, 1 ≤ i → i ≤ n → ∃ v, σ[i]? = some (some v) ∧ ShoA H' v) → (∀ x, R (.str x) H') → te σ H' R
theorem init1 (T : SupC P K mg C fI cc cda qual params [supC e p0 p1 p2 p3 p4, stoC f1 q1 q2 q3 q4] scope) (S : NScope ["self", f1, "__class__"] ["self", f1] ["__class__"] scope)
    (har : ar.arg = "self") (hpar : (params.posonlyargs ++ params.args).head? = some ar) (hks : scope.names.lookup ("super" : Str) = some NameKind.globalImplicit)
    (hbind : ∀ (nm : Str) (kV doc pm ct : Value) (an : Option Addr) (us : List Value), us.length = 2 → bindArgs (PySem.W.fnX nm qual params [supC e p0 p1 p2 p3 p4, stoC f1 q1 q2 q3 q4] scope [("__class__", cc)] .none kV doc pm an (.ref cda) ct) ⟨us, []⟩ = pure ([("self" : Str), f1].zip us))
    {pl : Env → Sem Bool} (hev : ∀ env : Env, eval (.Call (.Attribute (.Call (.Name "super" p0) [] [] p1) "__init__" p2) [e] [] p3) env = (do
      let ov ← attributeBase (.Call (.Name "super" p0) [] [] p1) "__init__" env (eval (.Call (.Name "super" p0) [] [] p1) env)
      standAt p2.atName
      let (f, first) ← holding [ov] (getMethod ov "__init__" (pl env))
      callWith p3 f first (backTo p3 (starEach [e] env)) []))
    (hse : ∀ env : Env, starEach [e] env = (false, eval e env) :: starEach [] env)
    (hm : MsgOk P w K mg base ["self", f1, "__class__"] ⟨"__init__", qual, params, [stoC f1 q1 q2 q3 q4], scope, [("__class__", cc)], cda⟩ fI e 1)
    (hf : (f1 == ("__debug__" : Str)) = false) (hf2 : (f1 == ("__classdict__" : Str)) = false) (hno : PySem.W.findIn K (.ref C) f1 = some none) :
    ∃ fd, FnOk P w K mg base CX0 1 fI fd ["self", f1] (spInit C [f1]) ∧ Binds K fd ["self", f1] [] := by
  refine sup_ok (k := 0) (N := ["self", f1, "__class__"]) T S (by rw [har]; rfl) hpar hks (fun nm kV doc pm ct an us hl => hbind nm kV doc pm ct an us hl) hev hse (fun vs H Q E h => ?_) (fun A outer s H vs Q E hr h => ?_)
  · obtain ⟨a, ws, rfl, hl, _⟩ := h
    show ws.length + 1 = 2
    rw [hl]
    rfl
  · obtain ⟨a, ws, rfl, hl, ha, hs, q⟩ := h
    obtain ⟨v, rfl⟩ : ∃ v, ws = [v] := by
      cases ws with
      | nil => cases hl
      | cons v r =>
        cases r with
        | nil => exact ⟨v, rfl⟩
        | cons _ _ => cases hl
    obtain ⟨te, hte, hq⟩ := hm A outer s H E (by have := hr.un; show A.units + 200 < cLine; have z : (A.deeper (envF ⟨"__init__", qual, params, [stoC f1 q1 q2 q3 q4], scope, [("__class__", cc)], cda⟩ fI s.heap.objs.size)).units = A.units + 3 := rfl; omega)
    refine ⟨a, [v], te, _, rfl, ha, hte, pss_one (ps_ost (pv 0 (hv := .inl (S.par _ List.mem_cons_self))) (pe_var (i := 1) rfl (.inl (S.par _ (List.mem_cons_of_mem _ List.mem_cons_self))) hf hf2) rfl), ?_⟩
    refine hq _ _ _ (fun i h1 h2 => ?_) fun x => ⟨ha, ?_⟩
    · have e1 : i = 1 := by omega
      subst e1
      exact ⟨v, rfl, hs v List.mem_cons_self⟩
    · refine ⟨v, rfl, .ref a, rfl, a, C, rfl, T.ox, hno, .inl ⟨ha, fun dx nd ne => ?_⟩⟩
      refine q _ (fun b o hb hne => ?_) (.inr ⟨dx, nd, upd_same, ?_⟩)
      · rw [upd_ne hne, upd_ne (ne_of_none hb nd)]
        exact hb
      · rw [upd_ne ne, upd_same]
        rfl
theorem init2 (T : SupC P K mg C fI cc cda qual params [supC e p0 p1 p2 p3 p4, stoC f1 q1 q2 q3 q4, stoC f2 r1 r2 r3 r4] scope) (S : NScope ["self", f1, f2, "__class__"] ["self", f1, f2] ["__class__"] scope)
    (har : ar.arg = "self") (hpar : (params.posonlyargs ++ params.args).head? = some ar) (hks : scope.names.lookup ("super" : Str) = some NameKind.globalImplicit)
    (hbind : ∀ (nm : Str) (kV doc pm ct : Value) (an : Option Addr) (us : List Value), us.length = 3 → bindArgs (PySem.W.fnX nm qual params [supC e p0 p1 p2 p3 p4, stoC f1 q1 q2 q3 q4, stoC f2 r1 r2 r3 r4] scope [("__class__", cc)] .none kV doc pm an (.ref cda) ct) ⟨us, []⟩ = pure ([("self" : Str), f1, f2].zip us))
    {pl : Env → Sem Bool} (hev : ∀ env : Env, eval (.Call (.Attribute (.Call (.Name "super" p0) [] [] p1) "__init__" p2) [e] [] p3) env = (do
      let ov ← attributeBase (.Call (.Name "super" p0) [] [] p1) "__init__" env (eval (.Call (.Name "super" p0) [] [] p1) env)
      standAt p2.atName
      let (f, first) ← holding [ov] (getMethod ov "__init__" (pl env))
      callWith p3 f first (backTo p3 (starEach [e] env)) []))
    (hse : ∀ env : Env, starEach [e] env = (false, eval e env) :: starEach [] env)
    (hm : MsgOk P w K mg base ["self", f1, f2, "__class__"] ⟨"__init__", qual, params, [stoC f1 q1 q2 q3 q4, stoC f2 r1 r2 r3 r4], scope, [("__class__", cc)], cda⟩ fI e 2)
    (hf : (f1 == ("__debug__" : Str)) = false) (hf2 : (f1 == ("__classdict__" : Str)) = false) (hno : PySem.W.findIn K (.ref C) f1 = some none) (hg : (f2 == ("__debug__" : Str)) = false) (hg2 : (f2 == ("__classdict__" : Str)) = false) (hno2 : PySem.W.findIn K (.ref C) f2 = some none) :
    ∃ fd, FnOk P w K mg base CX0 1 fI fd ["self", f1, f2] (spInit C [f1, f2]) ∧ Binds K fd ["self", f1, f2] [] := by
  refine sup_ok (k := 0) (N := ["self", f1, f2, "__class__"]) T S (by rw [har]; rfl) hpar hks (fun nm kV doc pm ct an us hl => hbind nm kV doc pm ct an us hl) hev hse (fun vs H Q E h => ?_) (fun A outer s H vs Q E hr h => ?_)
  · obtain ⟨a, ws, rfl, hl, _⟩ := h
    show ws.length + 1 = 3
    rw [hl]
    rfl
  · obtain ⟨a, ws, rfl, hl, ha, hs, q⟩ := h
    obtain ⟨v, v2, rfl⟩ : ∃ v v2, ws = [v, v2] := by
      cases ws with
      | nil => cases hl
      | cons v r =>
        cases r with
        | nil => cases hl
        | cons v2 r =>
          cases r with
          | nil => exact ⟨v, v2, rfl⟩
          | cons _ _ => cases hl
    obtain ⟨te, hte, hq⟩ := hm A outer s H E (by have := hr.un; show A.units + 200 < cLine; have z : (A.deeper (envF ⟨"__init__", qual, params, [stoC f1 q1 q2 q3 q4, stoC f2 r1 r2 r3 r4], scope, [("__class__", cc)], cda⟩ fI s.heap.objs.size)).units = A.units + 3 := rfl; omega)
    refine ⟨a, [v, v2], te, _, rfl, ha, hte, pss_cons (ps_ost (pv 0 (hv := .inl (S.par _ List.mem_cons_self))) (pe_var (i := 1) rfl (.inl (S.par _ (List.mem_cons_of_mem _ List.mem_cons_self))) hf hf2) rfl)
      (pss_one (ps_ost (pv 0 (hv := .inl (S.par _ List.mem_cons_self))) (pe_var (i := 2) rfl (.inl (S.par _ (List.mem_cons_of_mem _ (List.mem_cons_of_mem _ List.mem_cons_self)))) hg hg2) rfl)), ?_⟩
    refine hq _ _ _ (fun i h1 h2 => ?_) fun x => ⟨ha, ?_⟩
    · have e1 : i = 1 ∨ i = 2 := by omega
      rcases e1 with rfl | rfl
      · exact ⟨v, rfl, hs v List.mem_cons_self⟩
      · exact ⟨v2, rfl, hs v2 (List.mem_cons_of_mem _ List.mem_cons_self)⟩
    · refine ⟨v, rfl, .ref a, rfl, a, C, rfl, T.ox, hno, .inl ⟨ha, fun dx nd ne => ?_⟩⟩
      refine ⟨v2, rfl, .ref a, rfl, a, C, rfl, T.ox, hno2, .inr ⟨dx, [(f1, v)], upd_same, by rw [upd_ne ne, upd_same], (by show 1 ≤ 900; decide), ?_⟩⟩
      refine q _ (fun b o hb hne => ?_) (.inr ⟨dx, nd, ?_, upd_same⟩)
      · rw [upd_ne (ne_of_none hb nd), upd_ne hne, upd_ne (ne_of_none hb nd)]
        exact hb
      · rw [upd_ne ne.symm, upd_same]
theorem init0 (T : SupC P K mg C fI cc cda qual params [supC e p0 p1 p2 p3 p4] scope) (S : NScope ["self", "__class__"] ["self"] ["__class__"] scope)
    (har : ar.arg = "self") (hpar : (params.posonlyargs ++ params.args).head? = some ar) (hks : scope.names.lookup ("super" : Str) = some NameKind.globalImplicit)
    (hbind : ∀ (nm : Str) (kV doc pm ct : Value) (an : Option Addr) (us : List Value), us.length = 1 → bindArgs (PySem.W.fnX nm qual params [supC e p0 p1 p2 p3 p4] scope [("__class__", cc)] .none kV doc pm an (.ref cda) ct) ⟨us, []⟩ = pure ([("self" : Str)].zip us))
    {pl : Env → Sem Bool} (hev : ∀ env : Env, eval (.Call (.Attribute (.Call (.Name "super" p0) [] [] p1) "__init__" p2) [e] [] p3) env = (do
      let ov ← attributeBase (.Call (.Name "super" p0) [] [] p1) "__init__" env (eval (.Call (.Name "super" p0) [] [] p1) env)
      standAt p2.atName
      let (f, first) ← holding [ov] (getMethod ov "__init__" (pl env))
      callWith p3 f first (backTo p3 (starEach [e] env)) []))
    (hse : ∀ env : Env, starEach [e] env = (false, eval e env) :: starEach [] env)
    (hm : MsgOk P w K mg base ["self", "__class__"] ⟨"__init__", qual, params, [], scope, [("__class__", cc)], cda⟩ fI e 0) :
    ∃ fd, FnOk P w K mg base CX0 1 fI fd ["self"] (spInit C []) ∧ Binds K fd ["self"] [] := by
  refine sup_ok (k := 0) (N := ["self", "__class__"]) T S (by rw [har]; rfl) hpar hks (fun nm kV doc pm ct an us hl => hbind nm kV doc pm ct an us hl) hev hse (fun vs H Q E h => ?_) (fun A outer s H vs Q E hr h => ?_)
  · obtain ⟨a, ws, rfl, hl, _⟩ := h
    show ws.length + 1 = 1
    rw [hl]
    rfl
  · obtain ⟨a, ws, rfl, hl, ha, hs, q⟩ := h
    obtain rfl : ws = [] := by
      cases ws with
      | nil => rfl
      | cons v r => cases hl
    obtain ⟨te, hte, hq⟩ := hm A outer s H E (by have := hr.un; show A.units + 200 < cLine; have z : (A.deeper (envF ⟨"__init__", qual, params, [], scope, [("__class__", cc)], cda⟩ fI s.heap.objs.size)).units = A.units + 3 := rfl; omega)
    refine ⟨a, [], te, _, rfl, ha, hte, pss_nil, ?_⟩
    exact hq _ _ _ (fun i h1 h2 => absurd h1 (by omega)) fun x => ⟨ha, q _ (fun b o hb _ => hb) (.inl ⟨rfl, ha⟩)⟩
end
end L2
namespace L2
open PySem PySem.Spec PyProof.Rows
/-! try .. except X as n .. and more clauses behind it that are never come to -/
def wAs1 (K : PySem.W.Frag) (c : Value) (i : Nat) (ts : Addr → Value → Option Addr → TS) (D : Ends) : WX := fun cls d σ H =>
  PySem.W.exmOne K cls c = some true ∧ ∀ a, H a = none → ts a cls d { nx := fun σ2 H2 => D.nx (σ2.set i none) H2, rt := D.rt, bk := fun σ2 H2 => D.bk (σ2.set i none) H2, ct := fun σ2 H2 => D.ct (σ2.set i none) H2 } (σ.set i (some (.ref a))) H
section
variable {X : Cx} {x n : Str} {c : Value} {i : Nat} {body suite : List Stmt} {hds : List ExceptHandler} {b₀ : Stmt} {np pos pos' : Pos} {tb : WX → TS} {ts : Addr → Value → Option Addr → TS}
theorem ps_try_as1 (hs : X.stack = X.env :: X.outer) (hf : X.env.frame = some X.env.locals) (hN : X.N.Nodup) (hi : X.N[i]? = some n) (hln : X.env.kindOf n = some .local) (hc : Names X x c)
    (hb : ∀ (W : WX) (pn : List (Addr × Obj)) (xe : Value → Shared → Prop), Takes (X.tr pn xe) W → PassesOwn (model X.prog X.w) X.A X.env xe → PSs (X.tr pn xe) body (tb W))
    (hsu : ∀ (a : Addr) (oe : Obj) (cls : Value) (d : Option Addr) (pn : List (Addr × Obj)), Zc cls d oe → (∃ vs, oe.data = .fields vs) → PSs (X.suite a ((a, oe) :: pn)) (b₀ :: suite) (ts a cls d)) :
    PS X (.Try body (.ExceptHandler (some (.Name x np)) (some n) (b₀ :: suite) pos' :: hds) [] [] pos) (fun D σ H => tb (wAs1 X.K c i ts D) D σ H) := by
  refine ⟨fun pins s σ H D I h => ?_⟩
  have ok := I.ok
  have hfr : X.A.frames = some (X.env :: X.outer) := by rw [ok.frames, hs]
  have hloc : Loc X.env.scope n := .inl hln
  refine wpAny_Try_except ?_
  refine wpAny_mono ((hb (wAs1 X.K c i ts D) (X.pn ++ pins) (fun e s₁ => wpAny (model X.prog X.w) X.A (noteFrame e X.env) (fun _ s₂ => wpAny (model X.prog X.w) X.A (setFlight e none) (fun _ s₃ =>
    wpAny (model X.prog X.w) X.A (handleBy e X.env (.ExceptHandler (some (.Name x np)) (some n) (b₀ :: suite) pos' :: hds)) (SP X pins D) X.xe s₃) X.xe s₂) X.xe s₁) (fun u s' xx => ?_) PassesOwn.looking).run [] s σ H D (I.toTry _) h) (fun f s1 hsp => ?_) (fun e s1 he => he)
  · -- the catch
    obtain ⟨a, B, sI, pins2, σ2, H2, cls, d, rfl, J', nb, up, air, na, os, ag, hb1, hyes⟩ := xx
    have J : Inv X pins σ2 H2 sI := J'.ofTry ok
    have sky' : Sky B (X.env :: X.outer) a (Zc cls d) X.env.locals s'.heap := by rw [← hs]; exact air
    show wpAny (model X.prog X.w) X.A (noteFrame (.ref a) X.env) _ _ _
    refine Sky.land Zc.steady hfr hf sky' fun h3 fy3 ux3 => ?_
    have K3 : Inv X pins σ2 H2 { s' with heap := h3 } := J.landed nb fy3.1 (up.trans ux3) os ag
    obtain ⟨ob3, ws3, ge3, gz3, gd3⟩ := fy3.there
    have outFr : ∀ {h : Heap} {o : Obj} {vs : Array Value}, h.FunFrames B (X.env :: X.outer) → h.get? a = some o → o.data = .fields vs → a ∉ frs (X.env :: X.outer) := fun {h o vs} ff e dd hm => by
      obtain ⟨_, o', e', hnf⟩ := ff.mem hm
      rw [e] at e'; cases e'
      exact hnf _ dd
    have nof := outFr fy3.2.2.1 ge3 gd3
    have nl0 : a ≠ X.env.locals := fun z => nof (List.mem_filterMap.mpr ⟨X.env, List.mem_cons_self, by rw [hf, z]⟩)
    have nf0 : a ∉ X.fs := fun hm => by
      obtain ⟨e, he, q⟩ := List.mem_filterMap.mp hm
      exact nof (List.mem_filterMap.mpr ⟨e, List.mem_cons_of_mem _ he, q⟩)
    have T3 := K3.suite ge3 gd3 na nl0 nf0
    refine wpAny_handleBy_cons (codeAny_handlers_test ?_) (by intro q; cases q)
    have ty0 : PySem.W.Looks (model X.prog X.w) h3 (typeOf (.ref a)) cls := fun A Q E s k q => wpAny_typeOf_ref (k _ _ ge3) (by rw [gz3.1]; exact q)
    have mt0 := PySem.W.exm_one (M := model X.prog X.w) (K3.kIn) ty0 hb1
    have test : ∀ {Q : Value → Shared → Prop} {E : Value → Shared → Prop}, Q c { s' with heap := h3 } → wpAny (model X.prog X.w) (X.A.mark (some (.ref a))) (eval (.Name x np) X.env) Q E { s' with heap := h3 } := fun {Q E} q => by
      obtain ⟨hg, hdbg, hm | ⟨hm, hv, hnn⟩⟩ := hc
      · exact ld_glob (X := X.suite a ((a, ob3) :: (X.pn ++ pins))) T3 hg hm q hdbg
      · exact ld_blt (X := X.suite a ((a, ob3) :: (X.pn ++ pins))) T3 hg hm hv q hnn hdbg
    refine test (mt0.here ?_)
    refine codeAny_handlers_suite_as ?_
    refine HandSPX.lands_againZ fy3 fun h4 fy4 ux4 => ?_
    have K4 : Inv X pins σ2 H2 { s' with heap := h4 } := J.landed nb fy4.1 ((up.trans ux3).trans ux4) os ag
    obtain ⟨ob4, ws4, ge4, gz4, gd4⟩ := fy4.there
    have T4 := K4.suite ge4 gd4 na nl0 nf0
    refine store_ok (X := X.suite a ((a, ob4) :: (X.pn ++ pins))) (v := .ref a) T4 hN hi hloc rfl (fun s5 S5 => ?_) (.inr hln)
    refine wpAny_mono ((hsu a ob4 cls d (X.pn ++ pins) gz4 ⟨_, gd4⟩).run [] s5 _ H2 _ S5 (hyes a na)) (fun f s6 hsp => ?_) (fun _ _ z => False.elim z)
    have fin6 : ∀ {σ6 : St} {H6 : Hp} {Q : Shared → Prop}, Inv (X.suite a ((a, ob4) :: (X.pn ++ pins))) [] σ6 H6 s6 → (∀ s7, Inv X pins (σ6.set i none) H6 s7 → Q s7) →
        wpAny (model X.prog X.w) X.A (do bindName X.env n .none; unbindBehindTheSuite X.env n pos') (fun _ s7 => Q s7) X.xe s6 := fun {σ6 H6 Q} S6 hq => gone_ok (S6.unsuite ok) hN hi hln hq
    cases f with
    | next =>
      obtain ⟨σ6, H6, S6, q6⟩ := hsp
      exact fin6 S6 fun s7 J7 => ⟨_, _, J7, q6⟩
    | brk =>
      obtain ⟨σ6, H6, S6, q6⟩ := hsp
      exact fin6 S6 fun s7 J7 => ⟨_, _, J7, q6⟩
    | cont =>
      obtain ⟨σ6, H6, S6, q6⟩ := hsp
      exact fin6 S6 fun s7 J7 => ⟨_, _, J7, q6⟩
    | ret u =>
      obtain ⟨v6, σ6, H6, S6, r6, q6⟩ := hsp
      exact fin6 S6 fun s7 J7 => ⟨_, _, _, J7, r6, q6⟩
  · cases f with
    | next =>
      obtain ⟨σ2, H2, J', q⟩ := hsp
      exact wpAny_execs_nil ⟨σ2, H2, J'.ofTry ok, q⟩
    | brk =>
      obtain ⟨σ2, H2, J', q⟩ := hsp
      exact ⟨σ2, H2, J'.ofTry ok, q⟩
    | cont =>
      obtain ⟨σ2, H2, J', q⟩ := hsp
      exact ⟨σ2, H2, J'.ofTry ok, q⟩
    | ret u =>
      obtain ⟨v, σ2, H2, J', r, q⟩ := hsp
      exact ⟨v, σ2, H2, J'.ofTry ok, r, q⟩
end
/-- isinstance(e, c), e the exception that the suite holds, with its fields -/
def rIsE2 (K : PySem.W.Frag) (cls : Value) (dd : Option Addr) (a : Addr) : List V → Hp → VK → Prop := fun xs H Q => ∃ (D d : Addr) (fs : List (Str × V)), cls = .ref D ∧ dd = some d ∧ H d = some (.xd fs) ∧ ExcC K D ∧ rIsE K D a xs H Q
theorem call_isE2 {X : Cx} {a : Addr} {cls : Value} {dd : Option Addr} {oe : Obj} {pn : List (Addr × Obj)} (hz : Zc cls dd oe) (hf : ∃ vs, oe.data = .fields vs) : CallR (X.suite a ((a, oe) :: pn)) (.builtin "isinstance") (rIsE2 X.K cls dd a) := by
  intro pins s σ H xs us Q I r h
  obtain ⟨D, d, fs, rfl, rfl, hd, C, c, cv, b, rfl, hcv, e, q⟩ := h
  cases r with
  | cons rx rr =>
    cases rr with
    | cons rt rr =>
      cases rr
      cases rx
      have ec := hcv _ rt
      subst ec
      obtain ⟨hget, _⟩ := I.pin (a, oe) (List.mem_append.mpr (.inl List.mem_cons_self))
      obtain ⟨vs, hv⟩ := hf
      obtain ⟨mA, hns, _⟩ := (show ObjOk X.prog X.w H s.heap d (.xd fs) from I.hok d _ hd)
      obtain ⟨od, hod, _⟩ := lookIn_ns hns
      have J : PySem.W.InstAt s.heap a oe D (some od) := by
        obtain ⟨oc, od', oda, osl⟩ := oe
        obtain ⟨h1, h2⟩ := hz
        dsimp only at h1 h2 hv
        subst h1 h2 hv
        exact ⟨hget, rfl, rfl, hod⟩
      exact PySem.W.kia_one (PySem.W.kitx_excA C.hg C.hk C.hs C.hd C.ha C.hn C.ht C.hm) I.kIn J e (fun z => nomatch z) fun tk => ⟨.bl b, H, I.kept (t' := tk) fun _ _ z => z, rfl, q⟩
end L2
namespace K01
open PySem PySem.Spec PyProof.Rows L2
theorem at0 {α : Type} (x : α) (xs : List α) : atI (x :: xs) 0 = some x := by
  unfold atI ixN
  rw [if_pos (by omega), if_pos (by rw [List.length_cons]; omega)]
  rfl
theorem imp {X : Cx} {st : List Stmt} {t t' : TS} (h : PSs X st t) (k : ∀ D σ H, t' D σ H → t D σ H) : PSs X st t' := ⟨fun pins s σ H D I hw => h.run pins s σ H D I (k D σ H hw)⟩
theorem not_pd {H : Hp} {pd p : Addr} (h : ∃ o, H pd = some o) (n : H p = none) : p ≠ pd := fun e => by
  obtain ⟨o, ho⟩ := h
  rw [e, ho] at n
  cases n
theorem inV_mem (h : Str) : ∀ ws : List Str, inV (.str h) (ws.map V.str) = decide (h ∈ ws)
  | [] => rfl
  | w :: ws => by
    have ih := inV_mem h ws
    show ((w == h) || inV (.str h) (ws.map V.str)) = _
    rw [ih, Bool.eq_iff_iff]
    simp only [Bool.or_eq_true, beq_iff_eq, decide_eq_true_eq, List.mem_cons]
    exact ⟨fun z => z.imp Eq.symm id, fun z => z.imp Eq.symm id⟩
theorem lay_strs {ws : List Str} (h : ∀ w ∈ ws, PyData.strOk w = true) : PyData.canLayAll0 (ws.map .str) = true := by
  induction ws with
  | nil => rfl
  | cons w ws ih =>
    rw [List.map_cons, PyData.canLayAll0, ih fun v hv => h v (List.mem_cons_of_mem _ hv)]
    show (PyData.strOk w && true) = true
    rw [h w List.mem_cons_self]
    rfl
theorem depth_strs : ∀ ws : List Str, PyData.depthAll (ws.map .str) ≤ 1
  | [] => by decide
  | w :: ws => by
    have := depth_strs ws
    simp only [List.map_cons, PyData.depthAll, PyData.depth]
    omega
theorem FnOk.ex {P : Program} {w : World} {K : PySem.W.Frag} {mg : Str → Option Value} {base : Heap} {CX : CXT} {k : Nat} {f : Addr} {fd : FuncData} {ps : List Str} {ι : Type} {sp : ι → Sp} (h : ∀ i, FnOk P w K mg base CX k f fd ps (sp i)) :
    FnOk P w K mg base CX k f fd ps (fun vs H Q E => ∃ i, sp i vs H Q E) :=
  ⟨fun vs H Q E ⟨i, q⟩ => (h i).len vs H Q E q, fun A outer s H args us vs Q E hr he hb hv ⟨i, q⟩ => (h i).run A outer s H args us vs Q E hr he hb hv q⟩
structure Dr (H H' : Hp) (pd : Addr) : Prop where
  but : ∀ b o, H b = some o → b ≠ pd → H' b = some o
  dr : ∃ ys : List Int, H' pd = some (.lst (ys.map V.int))
theorem Dr.draw {H H' : Hp} {pd : Addr} (d : Dr H H' pd) (ys : List Int) : Dr H (upd H' pd (.lst (ys.map V.int))) pd :=
  ⟨fun b o e n => by rw [upd_ne n]; exact d.but b o e n, ys, upd_same⟩
theorem Dr.new {H H' : Hp} {pd p : Addr} {o : HO} (d : Dr H H' pd) (n : H' p = none) : Dr H (upd H' p o) pd := by
  refine ⟨fun b x e nb => same_upd n b x (d.but b x e nb), ?_⟩
  obtain ⟨ys, hy⟩ := d.dr
  exact ⟨ys, same_upd n _ _ hy⟩
theorem Dr.ne {H H' : Hp} {pd p : Addr} (d : Dr H H' pd) (n : H' p = none) : p ≠ pd := fun e => by
  obtain ⟨ys, hy⟩ := d.dr
  rw [← e, n] at hy
  cases hy
theorem Dr.refl {H : Hp} {pd : Addr} {ys : List Int} (h : H pd = some (.lst (ys.map V.int))) : Dr H H pd := ⟨fun _ _ e _ => e, ys, h⟩
theorem Dr.self {H H' : Hp} {pd : Addr} (d : Dr H H' pd) : Dr H' H' pd := ⟨fun _ _ e _ => e, d.dr⟩
theorem Dr.trans {H H1 H2 : Hp} {pd : Addr} (d : Dr H H1 pd) (e : Dr H1 H2 pd) : Dr H H2 pd := ⟨fun b o h n => e.but b o (d.but b o h n) n, e.dr⟩
theorem at_in {xs : List V} {r : Int} {n : Nat} (h0 : 0 ≤ r) (h1 : r < n) (hn : n ≤ xs.length) : ∃ v, atI xs r = some v ∧ v ∈ xs := by
  have h2 : r.toNat < xs.length := by omega
  have e : r = (r.toNat : Int) := by omega
  have z : atI xs (r.toNat : Int) = some xs[r.toNat] := atI_nat (List.getElem?_eq_getElem h2)
  rw [← e] at z
  exact ⟨_, z, List.getElem_mem h2⟩
theorem at_cp {z : Str} {r : Int} {n : Nat} (h0 : 0 ≤ r) (h1 : r < n) (hn : n ≤ z.length) : ∃ c, atI z.cps.toList r = some c := by
  have h2 : r.toNat < z.cps.toList.length := by
    have : n ≤ z.cps.toList.length := hn
    omega
  have e : r = (r.toNat : Int) := by omega
  have q : atI z.cps.toList (r.toNat : Int) = some z.cps.toList[r.toNat] := atI_nat (List.getElem?_eq_getElem h2)
  rw [← e] at q
  exact ⟨_, q⟩

theorem Dr.same {H H1 H2 : Hp} {pd : Addr} (d : Dr H H1 pd) (s : Same H1 H2) : Dr H H2 pd := ⟨fun b o e n => s _ _ (d.but b o e n), let ⟨ys, h⟩ := d.dr; ⟨ys, s _ _ h⟩⟩
theorem cps_app (x y : Str) : (x ++ y).cps.toList = x.cps.toList ++ y.cps.toList := TL.tl_append x y
/-- an own error's class, raised and caught -/
structure ErC (P : Program) (w : World) (K : PySem.W.Frag) (mg : Str → Option Value) (base : Heap) (x : Str) (C : Addr) (fn : List Str) : Prop where
  g : mg x = some (.ref C)
  ox : OexC K C
  ok : ∃ (fI : Addr) (fd : FuncData) (ps : List Str), PySem.W.findIn K (.ref C) "__init__" = some (some (.ref fI)) ∧ PySem.W.typeIn K (.ref fI) = some (.type "function") ∧ FnOk P w K mg base CX0 1 fI fd ps (spInit C fn) ∧ Binds K fd ps []
  xf : XfC K C
  no : ∀ f ∈ fn, PySem.W.findIn K (.ref C) f = some none
  ec : ExcC K C
end K01
namespace K01
open PySem PySem.Spec PyProof.Rows L2
def isTup : D → Bool
  | .tuple _ => true
  | _ => false
section
variable {P : Program} {w : World} {K : PySem.W.Frag} {mg : Str → Option Value} {base : Heap} {aR pd : Addr}
theorem Vr.tupK {H : Hp} {v : V} {d : D} (h : Vr pd H v d) : ∃ t, TyX K H v t ∧ PySem.W.kitOne K t (.type "tuple") = some (isTup d) := by
  cases h with
  | no => exact ⟨_, .base .non, kit_ty (r := false) (by decide +kernel)⟩
  | bo b => exact ⟨_, .base (.bl b), kit_ty (a := "bool") (b := "tuple") (r := false) (by decide +kernel)⟩
  | num i => exact ⟨_, .base (.int i), kit_ty (a := "int") (b := "tuple") (r := false) (by decide +kernel)⟩
  | txt x => exact ⟨_, .base (.str x), kit_ty (a := "str") (b := "tuple") (r := false) (by decide +kernel)⟩
  | li h1 h2 h3 => exact ⟨_, .base (.lst h1), kit_ty (a := "list") (b := "tuple") (r := false) (by decide +kernel)⟩
  | tu h1 h2 h3 => exact ⟨_, .base (.tup h1), kit_ty (a := "tuple") (b := "tuple") (r := true) (by decide +kernel)⟩
theorem Vr.strK {H : Hp} {v : V} {d : D} (h : Vr pd H v d) : ∃ t, TyX K H v t ∧ PySem.W.kitOne K t (.type "str") = some (isStr d) := by
  cases h with
  | no => exact ⟨_, .base .non, kit_ty (r := false) (by decide +kernel)⟩
  | bo b => exact ⟨_, .base (.bl b), kit_ty (a := "bool") (b := "str") (r := false) (by decide +kernel)⟩
  | num i => exact ⟨_, .base (.int i), kit_ty (a := "int") (b := "str") (r := false) (by decide +kernel)⟩
  | txt x => exact ⟨_, .base (.str x), kit_ty (a := "str") (b := "str") (r := true) (by decide +kernel)⟩
  | li h1 h2 h3 => exact ⟨_, .base (.lst h1), kit_ty (a := "list") (b := "str") (r := false) (by decide +kernel)⟩
  | tu h1 h2 h3 => exact ⟨_, .base (.tup h1), kit_ty (a := "tuple") (b := "str") (r := false) (by decide +kernel)⟩
theorem all_id (ds : List D) : (ds.map nmD).all id = ds.all nmD := by rw [List.all_map]; rfl
theorem names_it {H : Hp} {a : Addr} {xs : List V} {ds : List D} {te : TE} {j : Nat} {σ : L2.St} {Q : VK} (ha : SqT K H a xs) (hv : VrA pd H xs ds) (hl : ∀ d ∈ ds, LiS d) (hn : ds.length ≤ 1000)
    (hte : ∀ v H3 (Q' : VK) b, Ask H3 v b → (∀ H', Same H3 H' → Q' (.bl b) H') → te ((wipe σ [j]).set j (some v)) H3 Q') (hw : ∀ v, wipe ((wipe σ [j]).set j (some v)) [j] = wipe σ [j])
    (hQ : ∀ H' D, Same H H' → SqL K H' D ((ds.map nmD).map V.bl) → Q (.ref D) H') : ∀ D, H D = none → ∃ W : Nat → Nat → Hp → Prop, (∃ m, W 0 m (upd H D (.lst []))) ∧ ∀ i m H, W i m H →
    ((Itt K a).stop i H ∧ Q (.ref D) H) ∨ ((Itt K a).go i H ∧ ∃ Nx : Hp → Prop, (∀ H', Nx H' → ∃ m', m' < m ∧ W (i + 1) m' H') ∧ ∀ x H', (Itt K a).yld i H x H' → gName j x (wipe σ [j]) H' fun σ2 H2 => wipe σ2 [j] = wipe σ [j] ∧ tYes σ2 H2 fun b H3 =>
      if b = true then te σ2 H3 fun y H4 => ∃ acc, H4 D = some (.lst acc) ∧ acc.length < sizeLine ∧ Nx (upd H4 D (.lst (acc ++ [y]))) else Nx H3) := by
  intro Dl nD
  have hlen := hv.len
  refine lc_it walk_tup (fun i H3 => Same H H3 ∧ H3 Dl = some (.lst (((ds.take i).map nmD).map V.bl))) ⟨same_upd nD, upd_same⟩ (fun i H3 _ p => sqT p.1 ha) ?_ ?_
  · rintro i x H3 H4 hi ⟨sm, eD⟩ ⟨rfl, hx⟩
    obtain ⟨d, hd, vd⟩ := hv.get hx
    have ld : LiS d := hl d (List.mem_of_getElem? hd)
    refine ⟨hw x, ?_⟩
    refine iteT (B := Same H H4 ∧ H4 Dl = some (.lst (((ds.take (i + 1)).map nmD).map V.bl))) ?_
    refine hte x H4 _ (nmD d) ((vd.same sm).ask ld) fun H5 s5 => ?_
    have eD5 := s5 _ _ eD
    refine ⟨_, eD5, small1000 (by rw [List.length_map, List.length_map, List.length_take]; omega), Same.put (sm.trans s5) nD, ?_⟩
    have e2 : ds.take (i + 1) = ds.take i ++ [d] := by rw [List.take_add_one, hd]; rfl
    rw [upd_same, e2, List.map_append, List.map_append]
    rfl
  · rintro H3 ⟨sm, eD⟩
    rw [hlen, List.take_length] at eD
    exact hQ H3 Dl sm (SqL.of eD)
theorem names_all {H : Hp} {a : Addr} {xs : List V} {ds : List D} {te : TE} {j : Nat} {σ : L2.St} {Q : VK} (ha : SqT K H a xs) (hv : VrA pd H xs ds) (hl : ∀ d ∈ ds, LiS d) (hn : ds.length ≤ 1000)
    (hte : ∀ v H3 (Q' : VK) b, Ask H3 v b → (∀ H', Same H3 H' → Q' (.bl b) H') → te ((wipe σ [j]).set j (some v)) H3 Q') (hw : ∀ v, wipe ((wipe σ [j]).set j (some v)) [j] = wipe σ [j])
    (hQ : ∀ H', Same H H' → Q (.bl (ds.all nmD)) H') : ∀ D, H D = none → ∃ W : Nat → Nat → Hp → Prop, (∃ m, W 0 m (upd H D (.lst []))) ∧ ∀ i m H, W i m H →
    ((Itt K a).stop i H ∧ tNil σ H fun xs H2 => rAll K (V.ref D :: xs) H2 Q) ∨ ((Itt K a).go i H ∧ ∃ Nx : Hp → Prop, (∀ H', Nx H' → ∃ m', m' < m ∧ W (i + 1) m' H') ∧ ∀ x H', (Itt K a).yld i H x H' → gName j x (wipe σ [j]) H' fun σ2 H2 => wipe σ2 [j] = wipe σ [j] ∧ tYes σ2 H2 fun b H3 =>
      if b = true then te σ2 H3 fun y H4 => ∃ acc, H4 D = some (.lst acc) ∧ acc.length < sizeLine ∧ Nx (upd H4 D (.lst (acc ++ [y]))) else Nx H3) :=
  names_it (Q := fun x H2 => rAll K [x] H2 Q) ha hv hl hn hte hw fun H2 Dl s2 hD => ⟨Dl, _, rfl, hD, by rw [all_id]; exact hQ H2 s2⟩
end
end K01
namespace K01
open PySem PySem.Spec PyProof.Rows L2
abbrev sDsc : Stmt := top 16
abbrev sLr : Stmt := top 17
abbrev sKr : Stmt := top 18
abbrev sHf : Stmt := top 19
theorem scDsc : FnScope ["value", "field"] ["value"] (defScope sDsc) := ⟨rfl, rfl, rfl, by decide +kernel, rfl, by decide +kernel, by decide +kernel⟩
theorem scLr : FnScope ["lock", "locks"] ["lock", "locks"] (defScope sLr) := ⟨rfl, rfl, rfl, by decide +kernel, rfl, by decide +kernel, by decide +kernel⟩
theorem scKr : FnScope ["description", "locks", "kinds"] ["description", "locks", "kinds"] (defScope sKr) := ⟨rfl, rfl, rfl, by decide +kernel, rfl, by decide +kernel, by decide +kernel⟩
def isNo : D → Bool
  | .none => true
  | _ => false
def isDescr : D → Bool
  | .tuple (a :: b :: c) => decide (c.length = 1 ∨ c.length = 2) && ((isNo b || nmD b) && (nmD a && c.all nmD))
  | _ => false
section
variable {P : Program} {w : World} {K : PySem.W.Frag} {mg : Str → Option Value} {base : Heap} {aR pd : Addr}
def LiT (d : D) : Prop := ∀ ds, d = .tuple ds → ds.length ≤ 1000 ∧ ∀ e ∈ ds, LiS e
def spDsc (pd : Addr) : Sp := fun vs H Q _ => ∃ (v : V) (d : D), vs = [v] ∧ Vr pd H v d ∧ LiT d ∧ ∀ H', Same H H' → Q (.bl (isDescr d)) H'
theorem Vr.non {H : Hp} {v : V} {d : D} (h : Vr pd H v d) : decide (v = .non) = isNo d := by
  cases h with
  | no => rfl
  | bo b => exact decide_eq_false (by intro z; cases z)
  | num i => exact decide_eq_false (by intro z; cases z)
  | txt x => exact decide_eq_false (by intro z; cases z)
  | li h1 h2 h3 => exact decide_eq_false (by intro z; cases z)
  | tu h1 h2 h3 => exact decide_eq_false (by intro z; cases z)
def tDsc (pd : Addr) : TS := fun Dn σ H => ∃ (a : Addr) (xs : List V) (a0 b0 : D) (c0 : List D), σ = [some (.ref a), none] ∧ H a = some (.tup xs) ∧ VrA pd H xs (a0 :: b0 :: c0) ∧ LiS a0 ∧ (∀ e ∈ c0, LiS e) ∧ c0.length ≤ 1000 ∧ ∀ H', Same H H' → Dn.rt (.bl (nmD a0 && c0.all nmD)) H'
theorem in34 (n : Nat) : inV (.int (n : Nat)) [V.int 3, V.int 4] = decide (n = 3 ∨ n = 4) := by
  unfold inV
  simp only [List.any_cons, List.any_nil, Bool.or_false]
  show ((3 : Int) == (n : Int) || (4 : Int) == (n : Int)) = _
  by_cases h3 : n = 3
  · subst h3; rfl
  · by_cases h4 : n = 4
    · subst h4; rfl
    · have e3 : ((3 : Int) == (n : Int)) = false := beq_eq_false_iff_ne.mpr (by omega)
      have e4 : ((4 : Int) == (n : Int)) = false := beq_eq_false_iff_ne.mpr (by omega)
      rw [e3, e4, decide_eq_false (by omega)]
      rfl
theorem ok_dsc {f fI : Addr} {fd fdI : FuncData} (F : FnP K "is_description" sDsc f fd) (FI : FnP K "is_name" sIs fI fdI) (gI : mg "is_name" = some (.ref fI)) (N : Nm K mg aR) (mt : mg "tuple" = none) :
    FnOk P w K mg base CX0 2 f fd ["value"] (spDsc pd) := by
  have GI : FnOk P w K mg base CX0 1 fI fdI ["value"] spIs := ok_is FI N
  have bI : Binds K fdI ["value"] [] := FI.bindsN fun _ _ _ _ _ _ us hl => match us, hl with | [_], _ => rfl
  refine F.ok scDsc (fun vs H Q E h => ?_) (fun cdv A outer s H vs Q E hr h => ?_)
  · obtain ⟨v, d, rfl, _⟩ := h
    rfl
  · obtain ⟨v, d, rfl, hv, hl, q⟩ := h
    refine ⟨_, PSs.nox (pss_cons (ps_if (PW.pt (pw_or (pt_not (pt_val (pe_callB call_isi (by rfl) N.isi (by decide +kernel) (pa_cons (pv 0) (pa_cons (pe_bltn (v := .ty "tuple") (by rfl) mt (by decide +kernel) rfl) pa_nil)))))
        (pw_or1 (pt_cmpR (r := rIn K true) op_notIn_seq (pe_callB call_len_seq (by rfl) N.len PySem.boot_len (pa_cons (pv 0) pa_nil)) (pe_tup (pa_cons pe_int (pa_cons pe_int pa_nil))) rfl)))) (pss_one (ps_ret pe_bl)) pss_nil)
      (pss_cons (ps_if (PW.pt (pw_and (pt_cmpR op_notN (pe_ix ix_tup (pv 0) pe_int (fun _ _ => rfl)) pe_non (nomark _)) (pw_and1 (pt_not (pt_val (pe_call GI hr (by rfl) gI FI.kp bI .nil pass0 (pa_cons (pe_ix ix_tup (pv 0) pe_int (fun _ _ => rfl)) pa_nil))))))) (pss_one (ps_ret pe_bl)) pss_nil)
      (imp (t' := tDsc pd) (pss_one (ps_ret (pe_and (pe_call GI hr (by rfl) gI FI.kp bI .nil pass0 (pa_cons (pe_ix ix_tup (pv 0) pe_int (fun _ _ => rfl)) pa_nil))
        (pe_one (pe_callB (cr_all rfl) (by rfl) N.all (by decide +kernel) (pa_cons
          (pe_lc (own := [("field", 1)]) (g := gName 1) (tt := tYes) rfl scDsc.nd (pi_tup (pe_slice (r := rSlH) sl_tupH (pv 0) (po_some pe_int) po_none)) (blkOk_by (N := ["value", "field"]) (sc := defScope sDsc) (by decide +kernel)) (fun _ _ _ _ _ => pg_name (i := 1) scDsc.nd rfl (.inl rfl)) (fun _ _ _ _ _ => pts_nil)
            (fun _ _ _ _ _ => pe_call GI hr (by rfl) gI FI.kp bI .nil pass0 (pa_cons (pv 1) pa_nil))) pa_nil)))))) (fun Dn σ H2 hm => ?sT)))), ?_⟩
    case sT =>
      obtain ⟨a, xs, a0, b0, c0, rfl, ea, vx, l0, lc, ln, k⟩ := hm
      cases vx with
      | @cons ua us _ _ va vx =>
      cases vx with
      | @cons ub uc _ _ vb vc =>
      refine ⟨.ref a, rfl, a, _, 0, ua, rfl, rfl, SqT.of ea, at0 _ _, ua, nmD a0, rfl, va.ask l0, fun H3 s3 => ⟨_, rfl, ?_⟩⟩
      cases hb : nmD a0 with
      | false =>
        rw [hb, Bool.false_and] at k
        exact iteF (k H3 s3)
      | true =>
        rw [hb, Bool.true_and] at k
        refine iteT ⟨.ref a, rfl, 2, rfl, a, _, rfl, s3 _ _ ea, fun p H4 s4 hp4 ho => ?_⟩
        have ec : cutV (ua :: ub :: uc) (some 2) none = uc := cut_from (ua :: ub :: uc) 2
        rw [ec] at hp4
        have s34 := s3.trans s4
        exact ⟨p, rfl, ⟨_, SqT.of hp4⟩, names_all (K := K) (j := 1) (te := tCall spIs [] E0 (tCons (tVar 1) tNil)) (σ := [some (.ref a), none]) (SqT.of hp4) (vc.same s34) lc ln (fun v H3 Q' b ask k => ⟨v, rfl, v, b, rfl, ask, k⟩) (fun _ => rfl) fun H5 s5 => k H5 (s34.trans s5)⟩
    obtain ⟨t0, ty0, kt0⟩ := hv.tupK (K := K)
    refine ⟨v, rfl, v, .ty "tuple", t0, .type "tuple", isTup d, rfl, .ty _, ty0, kt0, isTup d, rfl, ?_⟩
    cases hv with
    | no => exact iteT (iteT (q H (Same.refl _)))
    | bo b => exact iteT (iteT (q H (Same.refl _)))
    | num i => exact iteT (iteT (q H (Same.refl _)))
    | txt x => exact iteT (iteT (q H (Same.refl _)))
    | li g1 g2 g3 => exact iteT (iteT (q H (Same.refl _)))
    | tu g1 g2 g3 =>
      rename_i a xs ds
      obtain ⟨hl1, hl2⟩ := hl ds rfl
      have hlen := g3.len
      refine iteF ⟨.ref a, rfl, a, xs, rfl, .inr (SqT.of g1), by show 2 ≤ sizeLine; decide, fun p np => ?_⟩
      have s1 : Same H (upd H p (.tup [.int 3, .int 4])) := same_upd np
      have e1 : upd H p (.tup [.int 3, .int 4]) p = some (.tup [.int 3, .int 4]) := upd_same
      generalize upd H p (.tup [.int 3, .int 4]) = G at s1 e1
      refine ⟨p, [.int 3, .int 4], rfl, .inr (SqT.of e1), rfl, rfl, _, rfl, ?_⟩
      show if (!inV (.int (xs.length : Nat)) [V.int 3, V.int 4]) = true then _ else _
      rw [in34, hlen]
      refine ifN (fun h3 => ?_) (fun h3 => ?_)
      · match ds, h3 with
        | [], h3 => simp at h3
        | [_], h3 => simp at h3
        | a0 :: b0 :: c0, h3 =>
          have hc : decide (c0.length = 1 ∨ c0.length = 2) = true := decide_eq_true (by simp at h3; omega)
          have ed : isDescr (.tuple (a0 :: b0 :: c0)) = ((isNo b0 || nmD b0) && (nmD a0 && c0.all nmD)) := by
            show (decide (c0.length = 1 ∨ c0.length = 2) && _) = _
            rw [hc, Bool.true_and]
          rw [ed] at q
          have gG := g3.same s1
          have aG := s1 _ _ g1
          have g30 := gG
          cases gG with
          | @cons ua us _ _ va gG =>
          cases gG with
          | @cons ub uc _ _ vb gG =>
          have atA : atI (ua :: ub :: uc) 0 = some ua := at0 _ _
          have atB : atI (ua :: ub :: uc) 1 = some ub := show atI (ua :: ub :: uc) ((1 : Nat) : Int) = some ub from atI_nat rfl
          have lA : LiS a0 := hl2 _ (by simp)
          have lB : LiS b0 := hl2 _ (by simp)
          have lC : ∀ e ∈ c0, LiS e := fun e he => hl2 _ (by simp [he])
          have go : (isNo b0 || nmD b0) = true → ∀ G2, Same G G2 → tDsc pd { nx := fun _ H' => Q .non H', rt := Q } [some (V.ref a), none] G2 := fun hb G2 s2 => by
            rw [hb, Bool.true_and] at q
            exact ⟨a, _, a0, b0, c0, rfl, s2 _ _ aG, g30.same s2, lA, lC, by simp at hl1; omega, fun H' s' => q H' ((s1.trans s2).trans s')⟩
          refine ⟨.ref a, rfl, a, _, 1, ub, rfl, rfl, SqT.of aG, atB, rfl, _, rfl, ?_⟩
          rw [vb.non]
          cases hn : isNo b0 with
          | true => exact iteF (iteF (go (by rw [hn]; rfl) G (Same.refl _)))
          | false =>
            refine iteT ⟨.ref a, rfl, a, _, 1, ub, rfl, rfl, SqT.of aG, atB, ub, nmD b0, rfl, vb.ask lB, fun G2 s2 => ⟨_, rfl, ?_⟩⟩
            cases hb : nmD b0 with
            | true => exact iteF (go (by rw [hb, Bool.or_true]) G2 s2)
            | false =>
              rw [hn, hb] at q
              exact iteT (q G2 (s1.trans s2))
      · have ed : isDescr (.tuple ds) = false := by
          match ds, h3 with
          | [], _ => rfl
          | [_], _ => rfl
          | _ :: _ :: c0, h3 =>
            have hc : decide (c0.length = 1 ∨ c0.length = 2) = false := decide_eq_false (by simp at h3; omega)
            show (decide (c0.length = 1 ∨ c0.length = 2) && _) = _
            rw [hc, Bool.false_and]
        rw [ed] at q
        exact q G s1
end
end K01
namespace K01
open PySem PySem.Spec PyProof.Rows L2
structure Rw where
  k : Str
  l : Option Str
  fs : List Str
def optD : Option Str → D
  | none => .none
  | some x => .str x
def rowL (r : Rw) : List D := .str r.k :: optD r.l :: r.fs.map .str
def rowD (r : Rw) : D := .tuple (rowL r)
def rowOf : D → Rw
  | .tuple (k :: l :: fs) => ⟨toStr k, if isNo l = true then none else some (toStr l), fs.map toStr⟩
  | _ => ⟨"", none, []⟩
structure Rok (r : Rw) : Prop where
  k : isName r.k = true
  l : ∀ x, r.l = some x → isName x = true
  fs : ∀ f ∈ r.fs, isName f = true
  n : r.fs.length = 1 ∨ r.fs.length = 2
theorem descr_row {d : D} (h : isDescr d = true) : d = rowD (rowOf d) ∧ Rok (rowOf d) := by
  match d, h with
  | .tuple (a :: b :: c), h =>
    have h : (decide (c.length = 1 ∨ c.length = 2) && ((isNo b || nmD b) && (nmD a && c.all nmD))) = true := h
    simp only [Bool.and_eq_true, decide_eq_true_eq] at h
    obtain ⟨h1, h2, h3, h4⟩ := h
    obtain ⟨e1, e2⟩ := nm_str h3
    obtain ⟨e3, e4⟩ := strs_of h4
    have hb : b = optD (if isNo b = true then none else some (toStr b)) ∧ ∀ x, (if isNo b = true then none else some (toStr b)) = some x → isName x = true := by
      cases hn : isNo b with
      | true =>
        rw [if_pos rfl]
        refine ⟨?_, fun x e => by cases e⟩
        cases b with
        | none => rfl
        | _ => cases hn
      | false =>
        rw [hn, Bool.false_or] at h2
        obtain ⟨f1, f2⟩ := nm_str h2
        rw [if_neg (by simp)]
        exact ⟨f1, fun x e => by injection e with e; rw [← e]; exact f2⟩
    refine ⟨?_, e2, hb.2, fun f hf => List.all_eq_true.mp e4 f hf, by rw [show (rowOf (.tuple (a :: b :: c))).fs = c.map toStr from rfl, List.length_map]; exact h1⟩
    show PyData.tuple (a :: b :: c) = .tuple (.str (toStr a) :: optD (if isNo b = true then none else some (toStr b)) :: (c.map toStr).map .str)
    rw [← e1, ← hb.1, ← e3]
def lockRule (d : D) (ws : List Str) : Str := if nmD d = true then (if 4 ≤ ws.length then "many" else if toStr d ∈ ws then "twice" else "") else "form"
def rowRule (r : Rw) (ls ks : List Str) : Str := if 3 ≤ ks.length then "many" else if r.k ∈ ls ∨ r.k ∈ ks ∨ hasRep r.fs = true then "twice" else match r.l with
  | some x => if x ∈ ls then "" else "unknown"
  | none => ""
def kindRule (d : D) (ls ks : List Str) : Str := if isDescr d = true then rowRule (rowOf d) ls ks else "form"
theorem strs_flat (ws : List Str) : (ws.map V.str).all flatV = true := by
  rw [List.all_map]
  exact List.all_eq_true.mpr fun _ _ => rfl
section
variable {P : Program} {w : World} {K : PySem.W.Frag} {mg : Str → Option Value} {base : Heap} {aR pd : Addr}
def spLr (K : PySem.W.Frag) (pd : Addr) : Sp := fun vs H Q _ => ∃ (v : V) (d : D) (a : Addr) (ws : List Str), vs = [v, .ref a] ∧ Vr pd H v d ∧ LiS d ∧ SqT K H a (ws.map V.str) ∧ ∀ H', Same H H' → Q (.str (lockRule d ws)) H'
theorem ok_lr {f fI : Addr} {fd fdI : FuncData} (F : FnP K "lock_rule" sLr f fd) (FI : FnP K "is_name" sIs fI fdI) (gI : mg "is_name" = some (.ref fI)) (N : Nm K mg aR) (hM : ∃ t, mg "_MOST_LOCKS" = some (.int 4 t)) :
    FnOk P w K mg base CX0 2 f fd ["lock", "locks"] (spLr K pd) := by
  have GI : FnOk P w K mg base CX0 1 fI fdI ["value"] spIs := ok_is FI N
  have bI : Binds K fdI ["value"] [] := FI.bindsN fun _ _ _ _ _ _ us hl => match us, hl with | [_], _ => rfl
  obtain ⟨tm, hm⟩ := hM
  refine F.ok scLr (fun vs H Q E h => ?_) (fun cdv A outer s H vs Q E hr h => ?_)
  · obtain ⟨v, d, a, ws, rfl, _⟩ := h
    rfl
  · obtain ⟨v, d, a, ws, rfl, hv, hl, ha, q⟩ := h
    refine ⟨_, PSs.nox (pss_cons (ps_if (pt_not (pt_val (pe_call GI hr (by rfl) gI FI.kp bI .nil pass0 (pa_cons (pv 0) pa_nil)))) (pss_one (ps_ret pe_str)) pss_nil)
      (pss_cons (ps_if (pt_cmpR op_ge (pe_callB call_len_seq (by rfl) N.len PySem.boot_len (pa_cons (pv 1) pa_nil)) (pe_glob (v := .int 4) (by rfl) hm ⟨_, rfl⟩) (nomark _)) (pss_one (ps_ret pe_str)) pss_nil)
      (pss_one (ps_ret (pe_ifExp (pt_cmpR (r := rIn K false) op_in_seq (pv 0) (pv 1) rfl) pe_str pe_str))))), ?_⟩
    refine ⟨v, rfl, v, nmD d, rfl, hv.ask hl, fun H1 s1 => ⟨_, rfl, ?_⟩⟩
    have a1 := sqT s1 ha
    have q1 := q H1 s1
    unfold lockRule at q1
    cases hn : nmD d with
    | false =>
      rw [hn, if_neg (by simp)] at q1
      exact iteT q1
    | true =>
      rw [hn, if_pos rfl] at q1
      refine iteF ⟨.ref a, rfl, a, _, rfl, .inr a1, _, _, rfl, rfl, _, rfl, ite2 (fun h1 => ?_) (fun h1 => ?_)⟩
      · have h1 : 4 ≤ ws.length := by
          have := of_decide_eq_true h1
          rw [List.length_map] at this
          omega
        rw [if_pos h1] at q1
        exact q1
      · have h1 : ¬ 4 ≤ ws.length := fun z => h1 (decide_eq_true (by rw [List.length_map]; omega))
        rw [if_neg h1] at q1
        obtain ⟨e1, _⟩ := nm_str hn
        obtain ⟨x, ex⟩ : ∃ x, d = .str x := ⟨_, e1⟩
        subst ex
        cases hv
        have q1 : Q (.str (if x ∈ ws then "twice" else "")) H1 := q1
        refine ⟨_, rfl, .ref a, rfl, a, _, rfl, .inr a1, rfl, strs_flat ws, _, rfl, ?_⟩
        show if inV (V.str x) (ws.map V.str) = true then _ else _
        rw [inV_mem]
        refine ite2 (fun h2 => ?_) (fun h2 => ?_)
        · have h2 : x ∈ ws := of_decide_eq_true h2
          rw [if_pos h2] at q1
          exact q1
        · have h2 : x ∉ ws := fun z => h2 (decide_eq_true z)
          rw [if_neg h2] at q1
          exact q1
def spKr (K : PySem.W.Frag) (pd : Addr) : Sp := fun vs H Q _ => ∃ (v : V) (d : D) (a b : Addr) (ls ks : List Str), vs = [v, .ref a, .ref b] ∧ Vr pd H v d ∧ LiT d ∧ SqT K H a (ls.map V.str) ∧ SqL K H b (ks.map V.str) ∧ ∀ H', Same H H' → Q (.str (kindRule d ls ks)) H'
def optV : Option Str → V
  | none => .non
  | some x => .str x
theorem VrA.opt {H : Hp} {l : Option Str} {v : V} (h : Vr pd H v (optD l)) : v = optV l := by
  cases l with
  | none => cases h; rfl
  | some x => cases h; rfl
theorem ok_kr {f fI fD fR : Addr} {fd fdI fdD fdR : FuncData} (F : FnP K "kind_rule" sKr f fd) (FI : FnP K "is_name" sIs fI fdI) (gI : mg "is_name" = some (.ref fI)) (FD : FnP K "is_description" sDsc fD fdD) (gD : mg "is_description" = some (.ref fD))
    (FR : FnP K "has_repeat" sRep fR fdR) (gR : mg "has_repeat" = some (.ref fR)) (N : Nm K mg aR) (mt : mg "tuple" = none) (me : mg "enumerate" = none) (ma : mg "any" = none) (hM : ∃ t, mg "_MOST_KINDS" = some (.int 3 t)) :
    FnOk P w K mg base CX0 3 f fd ["description", "locks", "kinds"] (spKr K pd) := by
  have GD : FnOk P w K mg base CX0 2 fD fdD ["value"] (spDsc pd) := ok_dsc FD FI gI N mt
  have bD : Binds K fdD ["value"] [] := FD.bindsN fun _ _ _ _ _ _ us hl => match us, hl with | [_], _ => rfl
  have GR : FnOk P w K mg base CX0 1 fR fdR ["values"] (spRep K) := ok_rep FR me ma
  have bR : Binds K fdR ["values"] [] := FR.bindsN fun _ _ _ _ _ _ us hl => match us, hl with | [_], _ => rfl
  obtain ⟨tm, hm⟩ := hM
  refine F.ok scKr (fun vs H Q E h => ?_) (fun cdv A outer s H vs Q E hr h => ?_)
  · obtain ⟨v, d, a, b, ls, ks, rfl, _⟩ := h
    rfl
  · obtain ⟨v, d, a, b, ls, ks, rfl, hv, hl, ha, hb, q⟩ := h
    have hr1 := hr.mono (show 1 ≤ 2 by decide)
    refine ⟨_, PSs.nox (pss_cons (ps_if (pt_not (pt_val (pe_call GD hr (by rfl) gD FD.kp bD .nil pass0 (pa_cons (pv 0) pa_nil)))) (pss_one (ps_ret pe_str)) pss_nil)
      (pss_cons (ps_if (pt_cmpR op_ge (pe_callB call_len_seq (by rfl) N.len PySem.boot_len (pa_cons (pv 2) pa_nil)) (pe_glob (v := .int 3) (by rfl) hm ⟨_, rfl⟩) (nomark _)) (pss_one (ps_ret pe_str)) pss_nil)
      (pss_cons (ps_if (PW.pt (pw_or (pt_cmpR (r := rIn K false) op_in_seq (pe_ix ix_tup (pv 0) pe_int (fun _ _ => rfl)) (pv 1) rfl) (pw_or (pt_cmpR (r := rIn K false) op_in_seq (pe_ix ix_tup (pv 0) pe_int (fun _ _ => rfl)) (pv 2) rfl)
          (pw_or1 (pt_val (pe_call GR hr1 (by rfl) gR FR.kp bR .nil pass0 (pa_cons (pe_slice (r := rSlH) sl_tupH (pv 0) (po_some pe_int) po_none) pa_nil))))))) (pss_one (ps_ret pe_str)) pss_nil)
      (pss_cons (ps_if (PW.pt (pw_and (pt_cmpR op_notN (pe_ix ix_tup (pv 0) pe_int (fun _ _ => rfl)) pe_non (nomark _)) (pw_and1 (pt_cmpR (r := rIn K true) op_notIn_seq (pe_ix ix_tup (pv 0) pe_int (fun _ _ => rfl)) (pv 1) rfl)))) (pss_one (ps_ret pe_str)) pss_nil)
      (pss_one (ps_ret pe_str)))))), ?_⟩
    refine ⟨v, rfl, v, d, rfl, hv, hl, fun H1 s1 => ⟨_, rfl, ?_⟩⟩
    have a1 := sqT s1 ha
    have b1 := s1.seq hb
    have q1 : ∀ H', Same H1 H' → Q (.str (kindRule d ls ks)) H' := fun H' s' => q H' (s1.trans s')
    unfold kindRule at q1
    cases hn : isDescr d with
    | false =>
      rw [hn] at q1
      exact iteT (q1 H1 (Same.refl _))
    | true =>
      rw [hn] at q1
      obtain ⟨ed, rok⟩ := descr_row hn
      generalize rowOf d = r at ed rok q1
      have q1 : ∀ H', Same H1 H' → Q (.str (rowRule r ls ks)) H' := q1
      subst ed
      have v1 := hv.same s1
      cases v1 with
      | @tu p xs _ g1 g2 g3 =>
      cases g3 with
      | @cons u0 us _ _ va vx =>
      cases vx with
      | @cons u1 uc _ _ vb vc =>
      have e0 : u0 = .str r.k := by cases va; rfl
      have e1 := VrA.opt vb
      have e2 := vc.strs_inv
      subst e0
      subst e2
      have at1 : atI (V.str r.k :: u1 :: r.fs.map V.str) 1 = some u1 := show atI (V.str r.k :: u1 :: r.fs.map V.str) ((1 : Nat) : Int) = some u1 from atI_nat rfl
      unfold rowRule at q1
      refine iteF ⟨.ref b, rfl, b, _, rfl, .inl b1, _, _, rfl, rfl, _, rfl, ite2 (fun h1 => ?_) (fun h1 => ?_)⟩
      · have h1 : 3 ≤ ks.length := by
          have := of_decide_eq_true h1
          rw [List.length_map] at this
          omega
        rw [if_pos h1] at q1
        exact q1 H1 (Same.refl _)
      have h1 : ¬ 3 ≤ ks.length := fun z => h1 (decide_eq_true (by rw [List.length_map]; omega))
      rw [if_neg h1] at q1
      have twice : (r.k ∈ ls ∨ r.k ∈ ks ∨ hasRep r.fs = true) → ∀ H', Same H1 H' → Q (.str "twice") H' := fun z H' s' => by
        have := q1 H' s'
        rw [if_pos z] at this
        exact this
      refine ⟨.ref p, rfl, p, _, 0, .str r.k, rfl, rfl, SqT.of g1, at0 _ _, .ref a, rfl, a, _, rfl, .inr a1, rfl, strs_flat ls, _, rfl, ?_⟩
      show if inV (V.str r.k) (ls.map V.str) = true then _ else _
      rw [inV_mem]
      refine ite2 (fun h2 => iteT (twice (.inl (of_decide_eq_true h2)) H1 (Same.refl _))) (fun h2 => ?_)
      refine ⟨.ref p, rfl, p, _, 0, .str r.k, rfl, rfl, SqT.of g1, at0 _ _, .ref b, rfl, b, _, rfl, .inl b1, rfl, strs_flat ks, _, rfl, ?_⟩
      show if inV (V.str r.k) (ks.map V.str) = true then _ else _
      rw [inV_mem]
      refine ite2 (fun h3 => iteT (twice (.inr (.inl (of_decide_eq_true h3))) H1 (Same.refl _))) (fun h3 => ?_)
      refine ⟨.ref p, rfl, 2, rfl, p, _, rfl, g1, fun p2 H2 s2 hp2 ho => ?_⟩
      have ec : cutV (V.str r.k :: u1 :: r.fs.map V.str) (some 2) none = r.fs.map V.str := cut_from (V.str r.k :: u1 :: r.fs.map V.str) 2
      rw [ec] at hp2
      refine ⟨p2, r.fs, rfl, SqT.of hp2, by rcases rok.n with z | z <;> omega, fun H3 s3 => ⟨_, rfl, ?_⟩⟩
      have s13 := s2.trans s3
      cases hr2 : hasRep r.fs with
      | true => exact iteT (twice (.inr (.inr hr2)) H3 s13)
      | false =>
        have nt : ¬ (r.k ∈ ls ∨ r.k ∈ ks ∨ hasRep r.fs = true) := fun z => by
          rcases z with z | z | z
          · exact h2 (decide_eq_true z)
          · exact h3 (decide_eq_true z)
          · rw [hr2] at z
            cases z
        have q2 := q1 
        rw [if_neg nt] at q2
        refine iteF ⟨.ref p, rfl, p, _, 1, u1, rfl, rfl, SqT.of (s13 _ _ g1), at1, rfl, _, rfl, ?_⟩
        subst e1
        cases hl2 : r.l with
        | none =>
          rw [hl2] at q2
          exact iteF (iteF (q2 H3 s13))
        | some x =>
          rw [hl2] at q2 at1
          refine iteT ⟨.ref p, rfl, p, _, 1, .str x, rfl, rfl, SqT.of (s13 _ _ (by rw [hl2] at g1; exact g1)), at1, .ref a, rfl, a, _, rfl, .inr (sqT s13 a1), rfl, strs_flat ls, _, rfl, ?_⟩
          show if (!inV (V.str x) (ls.map V.str)) = true then _ else _
          rw [inV_mem]
          have q2 : ∀ H', Same H1 H' → Q (.str (if x ∈ ls then "" else "unknown")) H' := q2
          refine ifN (fun h4 => ?_) (fun h4 => ?_)
          · have := q2 H3 s13
            rw [if_pos h4] at this
            exact this
          · have := q2 H3 s13
            rw [if_neg h4] at this
            exact this
end
end K01
namespace K01
open PySem PySem.Spec PyProof.Rows L2
theorem scHf : FnScope ["locks", "descriptions", "at", "lock", "rule", "kinds", "description"] ["locks", "descriptions"] (defScope sHf) := ⟨rfl, rfl, rfl, by decide +kernel, rfl, by decide +kernel, by decide +kernel⟩
def lockF : List Str → List D → Option (Nat × Str)
  | _, [] => none
  | ws, d :: r => if lockRule d ws = "" then lockF (ws ++ [toStr d]) r else some (ws.length + 1, lockRule d ws)
def kindF (n : Nat) (ls : List Str) : List Str → List D → Option (Nat × Str)
  | _, [] => none
  | ks, d :: r => if kindRule d ls ks = "" then kindF n ls (ks ++ [(rowOf d).k]) r else some (n + ks.length + 1, kindRule d ls ks)
def hallF (ls rs : List D) : Option (Nat × Str) := match lockF [] ls with
  | some p => some p
  | none => match kindF ls.length (ls.map toStr) [] rs with
    | some p => some p
    | none => if rs.length = 0 then some (ls.length + 1, "end") else none
theorem lockRule_ok {d : D} {ws : List Str} (h : lockRule d ws = "") : nmD d = true ∧ ws.length < 4 ∧ toStr d ∉ ws := by
  unfold lockRule at h
  have e1 : ("form" : Str) ≠ "" := by decide +kernel
  have e2 : ("many" : Str) ≠ "" := by decide +kernel
  have e3 : ("twice" : Str) ≠ "" := by decide +kernel
  split at h
  · next h1 =>
    split at h
    · exact absurd h e2
    · next h2 =>
      split at h
      · exact absurd h e3
      · next h3 => exact ⟨h1, by omega, h3⟩
  · exact absurd h e1
theorem kindRule_ok {d : D} {ls ks : List Str} (h : kindRule d ls ks = "") : isDescr d = true ∧ rowRule (rowOf d) ls ks = "" := by
  unfold kindRule at h
  have e1 : ("form" : Str) ≠ "" := by decide +kernel
  split at h
  · next h1 => exact ⟨h1, h⟩
  · exact absurd h e1
theorem str_tru (r : Str) : (((r.length : Nat) : Int) != 0) = !decide (r = "") := by
  by_cases h : r = ""
  · subst h
    decide +kernel
  · have hl : r.length ≠ 0 := fun z => h (by
      obtain ⟨c⟩ := r
      have z : c.size = 0 := z
      have : c = #[] := Array.eq_empty_of_size_eq_zero z
      rw [this]
      rfl)
    rw [decide_eq_false h]
    exact bne_iff_ne.mpr (by omega)
theorem rule_len (r : Str) (h : r.length ≤ 100) : r.length ≤ sizeLine := by rw [sizeLine_eq]; omega
theorem lockRule_len (d : D) (ws : List Str) : (lockRule d ws).length ≤ 100 := by
  unfold lockRule
  split
  · split
    · decide +kernel
    · split <;> decide +kernel
  · decide +kernel
theorem rowRule_len (r : Rw) (ls ks : List Str) : (rowRule r ls ks).length ≤ 100 := by
  unfold rowRule
  split
  · decide +kernel
  · split
    · decide +kernel
    · split
      · split <;> decide +kernel
      · decide +kernel
theorem kindRule_len (d : D) (ls ks : List Str) : (kindRule d ls ks).length ≤ 100 := by
  unfold kindRule
  split
  · exact rowRule_len _ _ _
  · decide +kernel
section
variable {P : Program} {w : World} {K : PySem.W.Frag} {mg : Str → Option Value} {base : Heap} {aR pd : Addr}
def spHf (pd : Addr) : Sp := fun vs H Q _ => ∃ (a b : Addr) (xs ys : List V) (ls rs : List D), vs = [.ref a, .ref b] ∧ H a = some (.tup xs) ∧ VrA pd H xs ls ∧ H b = some (.tup ys) ∧ VrA pd H ys rs ∧ (∀ d ∈ ls, LiS d) ∧ (∀ d ∈ rs, LiT d) ∧ ls.length ≤ 100 ∧ rs.length ≤ 100 ∧
  (hallF ls rs = none → ∀ H', Same H H' → Q .non H') ∧ (∀ n r, hallF ls rs = some (n, r) → ∀ p H', Same H H' → H p = none → H' p = some (.tup [.int (n : Nat), .str r]) → Q (.ref p) H')
theorem ok_hf {f fL fK : Addr} {fd fdL fdK : FuncData} (F : FnP K "hall_fault" sHf f fd) (FL : FnP K "lock_rule" sLr fL fdL) (gL : mg "lock_rule" = some (.ref fL)) (GL : FnOk P w K mg base CX0 2 fL fdL ["lock", "locks"] (spLr K pd))
    (FK : FnP K "kind_rule" sKr fK fdK) (gK : mg "kind_rule" = some (.ref fK)) (GK : FnOk P w K mg base CX0 3 fK fdK ["description", "locks", "kinds"] (spKr K pd)) (N : Nm K mg aR) (me : mg "enumerate" = none) :
    FnOk P w K mg base CX0 4 f fd ["locks", "descriptions"] (spHf pd) := by
  have bL : Binds K fdL ["lock", "locks"] [] := FL.bindsN fun _ _ _ _ _ _ us hl => match us, hl with | [_, _], _ => rfl
  have bK : Binds K fdK ["description", "locks", "kinds"] [] := FK.bindsN fun _ _ _ _ _ _ us hl => match us, hl with | [_, _, _], _ => rfl
  refine F.ok scHf (fun vs H Q E h => ?_) (fun cdv A outer s H vs Q E hr h => ?_)
  · obtain ⟨a, b, xs, ys, ls, rs, rfl, _⟩ := h
    rfl
  · obtain ⟨a, b, xs, ys, ls, rs, rfl, ha, hx, hb, hy, ll, lr, nl, nr, qn, qs⟩ := h
    have hr2 := hr.mono (show 2 ≤ 3 by decide)
    refine ⟨_, PSs.nox (pss_cons (ps_for PassesOwn.never rfl (EK.pi_enT (by rfl) me (pa_cons (pv 0) pa_nil)) (pg_tup rfl (pgs_cons (pg_name (i := 2) scHf.nd rfl (.inl rfl)) (pgs_cons (pg_name (i := 3) scHf.nd rfl (.inl rfl)) pgs_nil)))
        (pss_cons (ps_set (i := 4) scHf.nd rfl (.inl rfl) (pe_call GL hr2 (by rfl) gL FL.kp bL .nil pass0 (pa_cons (pv 3) (pa_cons (pe_slice (r := rSlH) sl_tupH (pv 0) po_none (po_some (pv 2))) pa_nil))))
        (pss_one (ps_if (pt_truth (pv 4) (by intro _; rfl)) (pss_one (ps_ret (pe_tup (pa_cons (pe_op op_add (pv 2) pe_int) (pa_cons (pv 4) pa_nil))))) pss_nil))))
      (pss_cons (ps_set (i := 5) scHf.nd rfl (.inl rfl) (pe_lst pa_nil))
      (pss_cons (ps_for PassesOwn.never rfl (EK.pi_enT (by rfl) me (pa_cons (pv 1) pa_nil)) (pg_tup rfl (pgs_cons (pg_name (i := 2) scHf.nd rfl (.inl rfl)) (pgs_cons (pg_name (i := 6) scHf.nd rfl (.inl rfl)) pgs_nil)))
        (pss_cons (ps_set (i := 4) scHf.nd rfl (.inl rfl) (pe_call GK hr (by rfl) gK FK.kp bK .nil pass0 (pa_cons (pv 6) (pa_cons (pv 0) (pa_cons (pv 5) pa_nil)))))
        (pss_cons (ps_if (pt_truth (pv 4) (by intro _; rfl)) (pss_one (ps_ret (pe_tup (pa_cons (pe_op op_add (pe_op op_add (pe_callB call_len_seq (by rfl) N.len PySem.boot_len (pa_cons (pv 0) pa_nil)) (pv 2)) pe_int) (pa_cons (pv 4) pa_nil))))) pss_nil)
        (pss_one (ps_expr (pe_bm PySem.F.plainAttrs_list PySem.F.slot_list_append PySem.F.type_list_append mt_append (pv 5) (pa_cons (pe_ix ix_tup (pv 6) pe_int (fun _ _ => rfl)) pa_nil)))))))
      (pss_one (ps_ret (pe_ifExp (pt_truth (pv 5) (by intro _; rfl)) pe_non (pe_tup (pa_cons (pe_op op_add (pe_callB call_len_seq (by rfl) N.len PySem.boot_len (pa_cons (pv 0) pa_nil)) pe_int) (pa_cons pe_str pa_nil))))))))), ?_⟩
    have lx := hx.len
    have ly := hy.len
    refine ⟨.ref a, rfl, a, xs, rfl, SqT.of ha, for_it EK.walk_enT (fun i σ H3 => ∃ (y2 y3 y4 : Option V) (ws : List Str), σ = [some (.ref a), some (.ref b), y2, y3, y4, none, none] ∧ Same H H3 ∧ ls.take i = ws.map .str ∧ ws.length = i ∧ lockF [] ls = lockF ws (ls.drop i))
      ⟨none, none, none, [], rfl, Same.refl _, rfl, rfl, rfl⟩ (fun _ _ _ _ ⟨_, _, _, _, _, sm, _⟩ => SqT.of (sm _ _ ha)) ?_ ?_⟩
    · rintro i xv σ H3 H4 hi ⟨y2, y3, y4, ws, rfl, sm, ew, lw, ef⟩ ⟨T, v1, v2, rfl, nT, rfl, e1, e2⟩
      cases e1
      have e2 : xs[i]? = some v2 := e2
      obtain ⟨d, hd, vd⟩ := hx.get e2
      have sm4 : Same H (upd H3 T (.tup [.int (i : Nat), v2])) := sm.trans (same_upd nT)
      have eT : upd H3 T (.tup [.int (i : Nat), v2]) T = some (.tup [.int (i : Nat), v2]) := upd_same
      generalize upd H3 T (.tup [.int (i : Nat), v2]) = G at sm4 eT
      have dr : ls.drop i = d :: ls.drop (i + 1) := List.drop_eq_getElem?_toList_append.trans (by rw [hd]; rfl)
      have vw : xs.take i = ws.map V.str := by
        have z := hx.take i
        rw [ew] at z
        exact z.strs_inv
      rw [dr] at ef
      have ef : lockF [] ls = if lockRule d ws = "" then lockF (ws ++ [toStr d]) (ls.drop (i + 1)) else some (ws.length + 1, lockRule d ws) := ef
      refine ⟨T, _, rfl, SqT.of eT, rfl, .int (i : Nat), [v2], rfl, v2, [], rfl, rfl, ?_⟩
      refine ⟨v2, rfl, .ref a, rfl, .int (i : Nat), rfl, (i : Nat), rfl, a, xs, rfl, sm4 _ _ ha, fun p H5 s5 hp ho => ?_⟩
      rw [cut_to, vw] at hp
      have sm5 := sm4.trans s5
      refine ⟨v2, d, p, ws, rfl, vd.same sm5, ll d (List.mem_of_getElem? hd), SqT.of hp, fun H6 s6 => ?_⟩
      have sm6 := sm5.trans s6
      refine ⟨_, rfl, _, ⟨rule_len _ (lockRule_len d ws), rfl⟩, ?_⟩
      rw [str_tru]
      refine ifN (fun h1 => ?_) (fun h1 => ?_)
      · rw [if_pos h1] at ef
        obtain ⟨hn, _, _⟩ := lockRule_ok h1
        refine ⟨_, _, _, ws ++ [toStr d], rfl, sm6, ?_, by rw [List.length_append, lw]; rfl, ef⟩
        rw [List.take_add_one, hd, ew, List.map_append]
        show _ ++ [d] = _ ++ [PyData.str (toStr d)]
        rw [← (nm_str hn).1]
      · rw [if_neg h1] at ef
        refine ⟨.int (i : Nat), rfl, (i : Nat), 1, rfl, rfl, _, rfl, by show 2 ≤ sizeLine; decide, fun p2 np2 => ?_⟩
        have e9 : hallF ls rs = some (ws.length + 1, lockRule d ws) := by
          unfold hallF
          rw [ef]
        refine qs _ _ e9 p2 _ (sm6.trans (same_upd np2)) (sm6.free np2) ?_
        rw [upd_same, lw]
        rfl
    · rintro σ H3 ⟨y2, y3, y4, ws, rfl, sm, ew, lw, ef⟩
      rw [lx, List.take_length] at ew
      rw [lx] at lw
      rw [lx, List.drop_length] at ef
      have ef : lockF [] ls = none := ef
      have em : ls.map toStr = ws := by rw [ew, toStr_map]
      have ea : xs = ws.map V.str := by
        have z := hx
        rw [ew] at z
        exact z.strs_inv
      have eh : ∀ o, (match kindF ls.length ws [] rs with | some p => some p | none => if rs.length = 0 then some (ls.length + 1, ("end" : Str)) else none) = o → hallF ls rs = o := fun o z => by
        unfold hallF
        rw [ef, em]
        exact z
      refine ⟨Nat.zero_le _, fun p5 np5 => ?_⟩
      have n5 : H p5 = none := sm.free np5
      have s4 : Same H (upd H3 p5 (.lst [])) := sm.trans (same_upd np5)
      refine ⟨.ref b, rfl, b, ys, rfl, SqT.of (s4 _ _ hb), for_it EK.walk_enT (fun j σ H4 => ∃ (z2 z3 z4 z6 : Option V) (ks : List Str), σ = [some (.ref a), some (.ref b), z2, z3, z4, some (.ref p5), z6] ∧ Same H H4 ∧ H4 p5 = some (.lst (ks.map V.str)) ∧ ks.length = j ∧ kindF ls.length ws [] rs = kindF ls.length ws ks (rs.drop j))
        ⟨y2, y3, y4, none, [], rfl, s4, upd_same, rfl, rfl⟩ (fun _ _ _ _ ⟨_, _, _, _, _, _, sm, _⟩ => SqT.of (sm _ _ hb)) ?_ ?_⟩
      · rintro j xv σ H4 H5 hj ⟨z2, z3, z4, z6, ks, rfl, sm4, e5, lk, ek⟩ ⟨T, v1, v2, rfl, nT, rfl, e1, e2⟩
        cases e1
        have e2 : ys[j]? = some v2 := e2
        obtain ⟨d, hd, vd⟩ := hy.get e2
        have sm5 : Same H (upd H4 T (.tup [.int (j : Nat), v2])) := sm4.trans (same_upd nT)
        have eT : upd H4 T (.tup [.int (j : Nat), v2]) T = some (.tup [.int (j : Nat), v2]) := upd_same
        have e55 : upd H4 T (.tup [.int (j : Nat), v2]) p5 = some (.lst (ks.map V.str)) := by rw [upd_ne (ne_of_none e5 nT)]; exact e5
        generalize upd H4 T (.tup [.int (j : Nat), v2]) = G at sm5 eT e55
        have dr : rs.drop j = d :: rs.drop (j + 1) := List.drop_eq_getElem?_toList_append.trans (by rw [hd]; rfl)
        rw [dr] at ek
        have ek : kindF ls.length ws [] rs = if kindRule d ws ks = "" then kindF ls.length ws (ks ++ [(rowOf d).k]) (rs.drop (j + 1)) else some (ls.length + ks.length + 1, kindRule d ws ks) := ek
        have hk : ks.length ≤ 100 := by omega
        refine ⟨T, _, rfl, SqT.of eT, rfl, .int (j : Nat), [v2], rfl, v2, [], rfl, rfl, ?_⟩
        refine ⟨v2, rfl, .ref a, rfl, .ref p5, rfl, v2, d, a, p5, ws, ks, rfl, vd.same sm5, lr d (List.mem_of_getElem? hd), by rw [← ea]; exact SqT.of (sm5 _ _ ha), SqL.of e55, fun H6 s6 => ?_⟩
        have sm6 := sm5.trans s6
        have e56 := s6 _ _ e55
        refine ⟨_, rfl, _, ⟨rule_len _ (kindRule_len d ws ks), rfl⟩, ?_⟩
        rw [str_tru]
        refine ifN (fun h1 => ?_) (fun h1 => ?_)
        · rw [if_pos h1] at ek
          obtain ⟨hn, _⟩ := kindRule_ok h1
          obtain ⟨er, _⟩ := descr_row hn
          have vr : Vr pd H6 v2 (rowD (rowOf d)) := by
            rw [← er]
            exact vd.same sm6
          generalize rowOf d = r at vr ek
          cases vr with
          | @tu p us _ g1 g2 g3 =>
            cases g3 with
            | @cons u0 ut _ _ va vt =>
              have ev : u0 = .str r.k := by cases va; rfl
              subst ev
              refine ⟨.ref p5, rfl, .inl ⟨rfl, _, SqL.of e56⟩, .ref p, rfl, p, _, 0, .str r.k, rfl, rfl, SqT.of g1, at0 _ _, p5, _, _, rfl, rfl, e56, small1000 (by rw [List.length_map]; omega), ?_⟩
              refine ⟨_, _, _, _, ks ++ [r.k], rfl, Same.put sm6 n5, ?_, by rw [List.length_append, lk]; rfl, ek⟩
              rw [upd_same, List.map_append]
              rfl
        · rw [if_neg h1] at ek
          refine ⟨.ref a, rfl, a, _, rfl, .inr (SqT.of (sm6 _ _ ha)), .int (j : Nat), rfl, _, _, rfl, rfl, _, 1, rfl, rfl, _, rfl, by show 2 ≤ sizeLine; decide, fun p2 np2 => ?_⟩
          refine qs _ _ (eh _ (by rw [ek])) p2 _ (sm6.trans (same_upd np2)) (sm6.free np2) ?_
          rw [upd_same, lx, lk]
          rfl
      · rintro σ H4 ⟨z2, z3, z4, z6, ks, rfl, sm4, e5, lk, ek⟩
        rw [ly] at lk
        rw [ly, List.drop_length] at ek
        have ek : kindF ls.length ws [] rs = none := ek
        refine ⟨.ref p5, rfl, _, .inl ⟨_, SqL.of e5, rfl⟩, ?_⟩
        cases ks with
        | nil =>
          have hr0 : rs.length = 0 := lk.symm
          refine iteF ⟨.ref a, rfl, a, _, rfl, .inr (SqT.of (sm4 _ _ ha)), _, 1, rfl, rfl, by show 2 ≤ sizeLine; decide, fun p2 np2 => ?_⟩
          refine qs _ _ (eh _ (by rw [ek]; exact if_pos hr0)) p2 _ (sm4.trans (same_upd np2)) (sm4.free np2) ?_
          rw [upd_same, lx]
          rfl
        | cons k0 kr =>
          have hr0 : ¬ rs.length = 0 := by rw [← lk, List.length_cons]; omega
          exact iteT (qn (eh _ (by rw [ek]; exact if_neg hr0)) H4 sm4)
end
end K01
namespace K01
open PySem PySem.Spec PyProof.Rows L2
abbrev sHall : Stmt := top 20
abbrev sIni : Stmt := inClass sHall 0
abbrev sEq : Stmt := inClass sHall 1
abbrev sDo : Stmt := inClass sHall 2
abbrev sGo : Stmt := inClass sHall 3
abbrev sFo : Stmt := inClass sHall 4
abbrev sTx : Stmt := inClass sHall 5
theorem scIni : FnScope ["self", "locks", "descriptions", "fault", "line", "rule", "description", "row", "field"] ([("self" : Str), "locks"] ++ [("descriptions" : Str)]) (defScope sIni) := ⟨rfl, rfl, rfl, by decide +kernel, rfl, by decide +kernel, by decide +kernel⟩
def hfs (a1 a2 a3 a4 : Addr) : List (Str × V) := [("locks", .ref a1), ("descriptions", .ref a2), ("kinds", .ref a3), ("sorts", .ref a4)]
def sortsD (rs : List Rw) : List D := rs.flatMap fun r => r.fs.map fun f => .tuple [.str r.k, .str f]
structure HallAt (pd C : Addr) (H : Hp) (x : Addr) (ls : List Str) (rs : List Rw) : Prop where
  ex : ∃ dx a1 a2 a3 a4, H x = some (.ins C dx (hfs a1 a2 a3 a4)) ∧ Vr pd H (.ref a1) (.tuple (ls.map .str)) ∧ Vr pd H (.ref a2) (.tuple (rs.map rowD)) ∧ Vr pd H (.ref a3) (.tuple (rs.map fun r => .str r.k)) ∧ Vr pd H (.ref a4) (.tuple (sortsD rs))
  np : x ≠ pd
theorem HallAt.up {pd C x : Addr} {H H' : Hp} {ls : List Str} {rs : List Rw} (h : HallAt pd C H x ls rs) (k : ∀ b o, H b = some o → b ≠ pd → H' b = some o) : HallAt pd C H' x ls rs := by
  obtain ⟨⟨dx, a1, a2, a3, a4, e, v1, v2, v3, v4⟩, np⟩ := h
  exact ⟨⟨dx, a1, a2, a3, a4, k _ _ e np, v1.up k, v2.up k, v3.up k, v4.up k⟩, np⟩
theorem HallAt.same {pd C x : Addr} {H H' : Hp} {ls : List Str} {rs : List Rw} (h : HallAt pd C H x ls rs) (s : Same H H') : HallAt pd C H' x ls rs := h.up fun b o e _ => s b o e
mutual
theorem Vr.upT {pd : Addr} {H H' : Hp} (k : ∀ b o, H b = some o → ((∃ xs, o = .lst xs) ∨ ∃ xs, o = .tup xs) → b ≠ pd → H' b = some o) : ∀ (d : D) {v : V}, Vr pd H v d → Vr pd H' v d
  | .none, _, h => by cases h; exact .no
  | .bool b, _, h => by cases h; exact .bo b
  | .int i, _, h => by cases h; exact .num i
  | .str x, _, h => by cases h; exact .txt x
  | .list ds, _, h => by
    cases h with
    | li h1 h2 h3 => exact .li (k _ _ h1 (.inl ⟨_, rfl⟩) h2) h2 (VrA.upT k ds h3)
  | .tuple ds, _, h => by
    cases h with
    | tu h1 h2 h3 => exact .tu (k _ _ h1 (.inr ⟨_, rfl⟩) h2) h2 (VrA.upT k ds h3)
  | .dict _, _, h => by cases h
theorem VrA.upT {pd : Addr} {H H' : Hp} (k : ∀ b o, H b = some o → ((∃ xs, o = .lst xs) ∨ ∃ xs, o = .tup xs) → b ≠ pd → H' b = some o) : ∀ (ds : List D) {vs : List V}, VrA pd H vs ds → VrA pd H' vs ds
  | [], _, h => by cases h; exact .nil
  | d :: ds, _, h => by
    cases h with
    | cons h1 h2 => exact .cons (Vr.upT k d h1) (VrA.upT k ds h2)
end
theorem putF_len (f : Str) (v : V) : ∀ fs : List (Str × V), (putF f v fs).length ≤ fs.length + 1
  | [] => Nat.le_refl _
  | (g, x) :: r => by
    have ih := putF_len f v r
    show (if g = f then (g, v) :: r else (g, x) :: putF f v r).length ≤ _
    split
    · simp
    · simp only [List.length_cons]
      omega
theorem hfs_eq (a1 a2 a3 a4 : Addr) : putF "sorts" (.ref a4) (putF "kinds" (.ref a3) (putF "descriptions" (.ref a2) (putF "locks" (.ref a1) []))) = hfs a1 a2 a3 a4 := by
  have h1 : ¬ ("locks" : Str) = "descriptions" := by decide +kernel
  have h2 : ¬ ("locks" : Str) = "kinds" := by decide +kernel
  have h3 : ¬ ("descriptions" : Str) = "kinds" := by decide +kernel
  have h4 : ¬ ("locks" : Str) = "sorts" := by decide +kernel
  have h5 : ¬ ("descriptions" : Str) = "sorts" := by decide +kernel
  have h6 : ¬ ("kinds" : Str) = "sorts" := by decide +kernel
  simp only [putF, if_neg h1, if_neg h2, if_neg h3, if_neg h4, if_neg h5, if_neg h6, hfs]
/-- a comprehension's second loop -/
theorem in_it {J : It} {n : Nat} {G : Hp → Prop} {Y : Nat → Hp → V → Hp → Prop} (w : Walk J n G Y) {g : TG} {tt : TT} {te : TE} {vs : List Nat} {σ : L2.St} {H1 : Hp} {D : Addr} {Nx : Hp → Prop} (Pv : Nat → Hp → Prop) (h0 : Pv 0 H1) (hG : ∀ i H, i ≤ n → Pv i H → G H)
    (hs : ∀ i x H H', i < n → Pv i H → Y i H x H' → g x (wipe σ vs) H' fun σ2 H2 => wipe σ2 vs = wipe σ vs ∧ tt σ2 H2 fun b H3 =>
      if b = true then te σ2 H3 fun y H4 => ∃ acc, H4 D = some (.lst acc) ∧ acc.length < sizeLine ∧ Pv (i + 1) (upd H4 D (.lst (acc ++ [y]))) else Pv (i + 1) H3) (hd : ∀ H, Pv n H → Nx H) :
    ∃ W : Nat → Nat → Hp → Prop, (∃ m, W 0 m H1) ∧ ∀ i m H, W i m H →
      (J.stop i H ∧ Nx H) ∨ (J.go i H ∧ ∃ Nx1 : Hp → Prop, (∀ H', Nx1 H' → ∃ m', m' < m ∧ W (i + 1) m' H') ∧ ∀ x H', J.yld i H x H' → g x (wipe σ vs) H' fun σ2 H2 => wipe σ2 vs = wipe σ vs ∧ tt σ2 H2 fun b H3 =>
        if b = true then te σ2 H3 fun y H4 => ∃ acc, H4 D = some (.lst acc) ∧ acc.length < sizeLine ∧ Nx1 (upd H4 D (.lst (acc ++ [y]))) else Nx1 H3) := by
  refine ⟨fun i m H => m = n - i ∧ i ≤ n ∧ Pv i H, ⟨n, by simp, Nat.zero_le _, h0⟩, ?_⟩
  rintro i m H ⟨rfl, hi, p⟩
  have q := hG i H hi p
  by_cases hlt : i < n
  · refine .inr ⟨w.goes i H hlt q, Pv (i + 1), fun H' p' => ⟨n - (i + 1), by omega, rfl, hlt, p'⟩, fun x H' y => hs i x H H' hlt p (w.yields i H x H' hlt q y)⟩
  · have e : i = n := by omega
    subst e
    exact .inl ⟨w.stops H q, hd H p⟩
/-- a comprehension's first loop, whatever stands within -/
theorem lc2_it {J : It} {n : Nat} {G : Hp → Prop} {Y : Nat → Hp → V → Hp → Prop} (w : Walk J n G Y) {g : TG} {tt : TT} {vs : List Nat} {σ : L2.St} {H1 : Hp} {D : Addr} {Qd : Hp → Prop} {I : L2.St → Hp → (Hp → Prop) → Prop} (Pv : Nat → Hp → Prop) (h0 : Pv 0 (upd H1 D (.lst []))) (hG : ∀ i H, i ≤ n → Pv i H → G H)
    (hs : ∀ i x H H', i < n → Pv i H → Y i H x H' → g x (wipe σ vs) H' fun σ2 H2 => wipe σ2 vs = wipe σ vs ∧ tt σ2 H2 fun b H3 => if b = true then I σ2 H3 (Pv (i + 1)) else Pv (i + 1) H3) (hd : ∀ H, Pv n H → Qd H) :
    ∃ W : Nat → Nat → Hp → Prop, (∃ m, W 0 m (upd H1 D (.lst []))) ∧ ∀ i m H, W i m H →
      (J.stop i H ∧ Qd H) ∨ (J.go i H ∧ ∃ Nx : Hp → Prop, (∀ H', Nx H' → ∃ m', m' < m ∧ W (i + 1) m' H') ∧ ∀ x H', J.yld i H x H' → g x (wipe σ vs) H' fun σ2 H2 => wipe σ2 vs = wipe σ vs ∧ tt σ2 H2 fun b H3 => if b = true then I σ2 H3 Nx else Nx H3) := by
  refine ⟨fun i m H => m = n - i ∧ i ≤ n ∧ Pv i H, ⟨n, by simp, Nat.zero_le _, h0⟩, ?_⟩
  rintro i m H ⟨rfl, hi, p⟩
  have q := hG i H hi p
  by_cases hlt : i < n
  · refine .inr ⟨w.goes i H hlt q, Pv (i + 1), fun H' p' => ⟨n - (i + 1), by omega, rfl, hlt, p'⟩, fun x H' y => hs i x H H' hlt p (w.yields i H x H' hlt q y)⟩
  · have e : i = n := by omega
    subst e
    exact .inl ⟨w.stops H q, hd H p⟩
inductive Prs (pd D : Addr) (H : Hp) : List V → List (Str × Str) → Prop
  | nil : Prs pd D H [] []
  | cons {t : Addr} {k f : Str} {vs : List V} {ps : List (Str × Str)} : H t = some (.tup [.str k, .str f]) → t ≠ pd → t ≠ D → Prs pd D H vs ps → Prs pd D H (.ref t :: vs) ((k, f) :: ps)
theorem Prs.up {pd D : Addr} {H H' : Hp} (k : ∀ b o, H b = some o → b ≠ D → H' b = some o) : ∀ {vs : List V} {ps : List (Str × Str)}, Prs pd D H vs ps → Prs pd D H' vs ps
  | _, _, .nil => .nil
  | _, _, .cons h1 h2 h3 h4 => .cons (k _ _ h1 h3) h2 h3 (h4.up k)
theorem Prs.app {pd D : Addr} {H : Hp} : ∀ {vs us : List V} {ps qs : List (Str × Str)}, Prs pd D H vs ps → Prs pd D H us qs → Prs pd D H (vs ++ us) (ps ++ qs)
  | _, _, _, _, .nil, h => h
  | _, _, _, _, .cons h1 h2 h3 h4, h => .cons h1 h2 h3 (h4.app h)
theorem Prs.vr {pd D : Addr} {H : Hp} : ∀ {vs : List V} {ps : List (Str × Str)}, Prs pd D H vs ps → VrA pd H vs (ps.map fun p => .tuple [.str p.1, .str p.2])
  | _, _, .nil => .nil
  | _, _, .cons h1 h2 h3 h4 => .cons (.tu h1 h2 (.cons (.txt _) (.cons (.txt _) .nil))) h4.vr
def sortsP (rs : List Rw) : List (Str × Str) := rs.flatMap fun r => r.fs.map fun f => (r.k, f)
theorem sortsP_D (rs : List Rw) : (sortsP rs).map (fun p => PyData.tuple [.str p.1, .str p.2]) = sortsD rs := by
  unfold sortsP sortsD
  rw [List.map_flatMap]
  congr
  funext r
  rw [List.map_map]
  rfl
theorem sortsP_snoc (rs : List Rw) (r : Rw) : sortsP (rs ++ [r]) = sortsP rs ++ r.fs.map fun f => (r.k, f) := by
  unfold sortsP
  rw [List.flatMap_append]
  simp
theorem sortsD_snoc (rs : List Rw) (r : Rw) : sortsD (rs ++ [r]) = sortsD rs ++ r.fs.map fun f => .tuple [.str r.k, .str f] := by
  unfold sortsD
  rw [List.flatMap_append]
  simp
/-- what makes halls -/
structure HallC (K : PySem.W.Frag) (C : Addr) : Prop where
  cl : Cls K C
  n1 : NoAttr K C "locks"
  n2 : NoAttr K C "descriptions"
  n3 : NoAttr K C "kinds"
  n4 : NoAttr K C "sorts"
/-- a hall judged good: its locks and rows -/
structure Hok (ls : List Str) (rs : List Rw) : Prop where
  ln : ∀ l ∈ ls, isName l = true
  ll : ls.length ≤ 4
  rn : ∀ r ∈ rs, Rok r
  rl : rs.length ≤ 3
  r0 : rs ≠ []
  kd : (ls ++ rs.map (·.k)).Nodup
  lk : ∀ r ∈ rs, ∀ x, r.l = some x → x ∈ ls
theorem nodup_snoc {α : Type} {l : List α} {a : α} (h : l.Nodup) (n : a ∉ l) : (l ++ [a]).Nodup := by
  rw [List.nodup_append]
  refine ⟨h, List.nodup_cons.mpr ⟨by simp, List.nodup_nil⟩, fun x hx y hy => ?_⟩
  rw [List.mem_singleton.mp hy]
  exact fun e => n (e ▸ hx)
theorem lockF_none : ∀ (ls : List D) (ws : List Str), lockF ws ls = none → ws.Nodup → (∀ w ∈ ws, isName w = true) → ws.length ≤ 4 → ∃ us, ls = us.map .str ∧ (ws ++ us).Nodup ∧ (∀ w ∈ ws ++ us, isName w = true) ∧ (ws ++ us).length ≤ 4
  | [], ws, _, h1, h2, h3 => ⟨[], rfl, by rw [List.append_nil]; exact h1, by rw [List.append_nil]; exact h2, by rw [List.append_nil]; exact h3⟩
  | d :: r, ws, h, h1, h2, h3 => by
    have h : (if lockRule d ws = "" then lockF (ws ++ [toStr d]) r else some (ws.length + 1, lockRule d ws)) = none := h
    by_cases e : lockRule d ws = ""
    · rw [if_pos e] at h
      obtain ⟨k1, k2, k3⟩ := lockRule_ok e
      obtain ⟨k4, k5⟩ := nm_str k1
      obtain ⟨us, g1, g2, g3, g4⟩ := lockF_none r (ws ++ [toStr d]) h (nodup_snoc h1 k3) (fun w hw => by
        rcases List.mem_append.mp hw with hw | hw
        · exact h2 w hw
        · rw [List.mem_singleton.mp hw]; exact k5) (by rw [List.length_append]; show _ + 1 ≤ 4; omega)
      rw [List.append_assoc] at g2 g3 g4
      refine ⟨toStr d :: us, ?_, g2, g3, g4⟩
      rw [List.map_cons, ← k4, g1]
    · rw [if_neg e] at h
      cases h
theorem rowRule_ok {r : Rw} {ls ks : List Str} (h : rowRule r ls ks = "") : ks.length < 3 ∧ r.k ∉ ls ∧ r.k ∉ ks ∧ ∀ x, r.l = some x → x ∈ ls := by
  have e2 : ("many" : Str) ≠ "" := by decide +kernel
  have e3 : ("twice" : Str) ≠ "" := by decide +kernel
  have e4 : ("unknown" : Str) ≠ "" := by decide +kernel
  unfold rowRule at h
  split at h
  · exact absurd h e2
  · next h1 =>
    split at h
    · exact absurd h e3
    · next h2 =>
      refine ⟨by omega, fun z => h2 (.inl z), fun z => h2 (.inr (.inl z)), fun x hx => ?_⟩
      rw [hx] at h
      have h : (if x ∈ ls then ("" : Str) else "unknown") = "" := h
      by_cases hm : x ∈ ls
      · exact hm
      · rw [if_neg hm] at h
        exact absurd h e4
theorem kindF_none (n : Nat) (ls : List Str) : ∀ (rs : List D) (ks : List Str), kindF n ls ks rs = none → (ls ++ ks).Nodup → ks.length ≤ 3 → ∃ qs : List Rw, rs = qs.map rowD ∧ (ls ++ (ks ++ qs.map (·.k))).Nodup ∧ (∀ q ∈ qs, Rok q) ∧ (ks.length + qs.length ≤ 3) ∧ ∀ q ∈ qs, ∀ x, q.l = some x → x ∈ ls
  | [], ks, _, h1, h3 => ⟨[], rfl, by rw [List.map_nil, List.append_nil]; exact h1, fun q hq => (by cases hq), h3, fun q hq => (by cases hq)⟩
  | d :: r, ks, h, h1, h3 => by
    have h : (if kindRule d ls ks = "" then kindF n ls (ks ++ [(rowOf d).k]) r else some (n + ks.length + 1, kindRule d ls ks)) = none := h
    by_cases e : kindRule d ls ks = ""
    · rw [if_pos e] at h
      obtain ⟨k1, k2⟩ := kindRule_ok e
      obtain ⟨k3, k4⟩ := descr_row k1
      generalize rowOf d = q at h k2 k3 k4
      obtain ⟨m1, m2, m3, m4⟩ := rowRule_ok k2
      obtain ⟨qs, g1, g2, g3, g4, g5⟩ := kindF_none n ls r (ks ++ [q.k]) h (by
        rw [← List.append_assoc]
        exact nodup_snoc h1 fun z => by
          rcases List.mem_append.mp z with z | z
          · exact m2 z
          · exact m3 z) (by rw [List.length_append]; show _ + 1 ≤ 3; omega)
      refine ⟨q :: qs, by rw [List.map_cons, ← k3, g1], ?_, fun p hp => ?_, ?_, fun p hp => ?_⟩
      · rw [List.append_assoc] at g2
        exact g2
      · rcases List.mem_cons.mp hp with rfl | hp
        · exact k4
        · exact g3 p hp
      · rw [List.length_append] at g4
        have g4 : ks.length + 1 + qs.length ≤ 3 := g4
        rw [List.length_cons]
        omega
      · rcases List.mem_cons.mp hp with rfl | hp
        · exact m4
        · exact g5 p hp
    · rw [if_neg e] at h
      cases h
theorem hall_none {ls rs : List D} (h : hallF ls rs = none) : ∃ (ws : List Str) (qs : List Rw), ls = ws.map .str ∧ rs = qs.map rowD ∧ Hok ws qs := by
  unfold hallF at h
  cases e1 : lockF [] ls with
  | some p =>
    rw [e1] at h
    cases h
  | none =>
    rw [e1] at h
    obtain ⟨us, g1, g2, g3, g4⟩ := lockF_none ls [] e1 List.nodup_nil (fun w hw => by cases hw) (Nat.zero_le _)
    have em : ls.map toStr = us := by rw [g1, toStr_map]
    rw [em] at h
    cases e2 : kindF ls.length us [] rs with
    | some p =>
      rw [e2] at h
      cases h
    | none =>
      rw [e2] at h
      have h : (if rs.length = 0 then some (ls.length + 1, ("end" : Str)) else none) = none := h
      obtain ⟨qs, f1, f2, f3, f4, f5⟩ := kindF_none ls.length us rs [] e2 (by rw [List.append_nil]; exact g2) (Nat.zero_le _)
      refine ⟨us, qs, g1, f1, g3, g4, f3, by simpa using f4, fun z => ?_, f2, f5⟩
      rw [f1, z] at h
      cases h
def RULEL : List Str := ["form", "many", "twice", "unknown", "end"]
theorem lockRule_in {d : D} {ws : List Str} (h : lockRule d ws ≠ "") : lockRule d ws ∈ RULEL := by
  unfold lockRule at h ⊢
  split
  · next a =>
    rw [if_pos a] at h
    split
    · decide +kernel
    · next b =>
      rw [if_neg b] at h
      split
      · decide +kernel
      · next c => exact absurd (if_neg c) h
  · decide +kernel
theorem rowRule_in {r : Rw} {ls ks : List Str} (h : rowRule r ls ks ≠ "") : rowRule r ls ks ∈ RULEL := by
  unfold rowRule at h ⊢
  split
  · decide +kernel
  · next a =>
    rw [if_neg a] at h
    split
    · decide +kernel
    · next b =>
      rw [if_neg b] at h
      cases hl : r.l with
      | none =>
        rw [hl] at h
        exact absurd rfl h
      | some x =>
        rw [hl] at h
        have h : (if x ∈ ls then ("" : Str) else "unknown") ≠ "" := h
        show (if x ∈ ls then ("" : Str) else "unknown") ∈ RULEL
        split
        · next c => exact absurd (if_pos c) h
        · decide +kernel
theorem kindRule_in {d : D} {ls ks : List Str} (h : kindRule d ls ks ≠ "") : kindRule d ls ks ∈ RULEL := by
  unfold kindRule at h ⊢
  split
  · next a =>
    rw [if_pos a] at h
    exact rowRule_in h
  · decide +kernel
theorem lockF_some : ∀ (ls : List D) (ws : List Str) (n : Nat) (r : Str), lockF ws ls = some (n, r) → r ∈ RULEL ∧ n ≤ ws.length + ls.length
  | [], _, _, _, h => by cases h
  | d :: t, ws, n, r, h => by
    have h : (if lockRule d ws = "" then lockF (ws ++ [toStr d]) t else some (ws.length + 1, lockRule d ws)) = some (n, r) := h
    by_cases e : lockRule d ws = ""
    · rw [if_pos e] at h
      obtain ⟨g1, g2⟩ := lockF_some t _ n r h
      rw [List.length_append] at g2
      have g2 : n ≤ ws.length + 1 + t.length := g2
      exact ⟨g1, by rw [List.length_cons]; omega⟩
    · rw [if_neg e] at h
      injection h with h
      injection h with h1 h2
      rw [← h2, ← h1]
      exact ⟨lockRule_in e, by rw [List.length_cons]; omega⟩
theorem kindF_some (m : Nat) (ls : List Str) : ∀ (rs : List D) (ks : List Str) (n : Nat) (r : Str), kindF m ls ks rs = some (n, r) → r ∈ RULEL ∧ n ≤ m + ks.length + rs.length
  | [], _, _, _, h => by cases h
  | d :: t, ks, n, r, h => by
    have h : (if kindRule d ls ks = "" then kindF m ls (ks ++ [(rowOf d).k]) t else some (m + ks.length + 1, kindRule d ls ks)) = some (n, r) := h
    by_cases e : kindRule d ls ks = ""
    · rw [if_pos e] at h
      obtain ⟨g1, g2⟩ := kindF_some m ls t _ n r h
      rw [List.length_append] at g2
      have g2 : n ≤ m + (ks.length + 1) + t.length := g2
      exact ⟨g1, by rw [List.length_cons]; omega⟩
    · rw [if_neg e] at h
      injection h with h
      injection h with h1 h2
      rw [← h2, ← h1]
      exact ⟨kindRule_in e, by rw [List.length_cons]; omega⟩
theorem hall_some {ls rs : List D} {n : Nat} {r : Str} (h : hallF ls rs = some (n, r)) : r ∈ RULEL ∧ n ≤ ls.length + rs.length + 1 := by
  unfold hallF at h
  cases e1 : lockF [] ls with
  | some p =>
    rw [e1] at h
    obtain ⟨m, q⟩ := p
    obtain ⟨g1, g2⟩ := lockF_some ls [] m q e1
    injection h with h
    injection h with h1 h2
    rw [← h1, ← h2]
    exact ⟨g1, by simp at g2; omega⟩
  | none =>
    rw [e1] at h
    cases e2 : kindF ls.length (ls.map toStr) [] rs with
    | some p =>
      rw [e2] at h
      obtain ⟨m, q⟩ := p
      obtain ⟨g1, g2⟩ := kindF_some _ _ rs [] m q e2
      injection h with h
      injection h with h1 h2
      rw [← h1, ← h2]
      exact ⟨g1, by simp at g2; omega⟩
    | none =>
      rw [e2] at h
      have h : (if rs.length = 0 then some (ls.length + 1, ("end" : Str)) else none) = some (n, r) := h
      split at h
      · injection h with h
        injection h with h1 h2
        rw [← h1, ← h2]
        exact ⟨by decide +kernel, by omega⟩
      · cases h
theorem rule_sho {r : Str} (h : r ∈ RULEL) : Sho (.str r) := by
  have key : ∀ r ∈ RULEL, (reprText r).length ≤ 1000 ∧ r.length ≤ 1000 := by decide +kernel
  exact .inl ⟨r, rfl, (key r h).1, (key r h).2⟩
theorem nat_sho {n : Nat} (h : n ≤ 1000) : Sho (.int (n : Nat)) := by
  refine .inr ⟨_, rfl, ?_⟩
  have e : ((n : Int)).natAbs = n := Int.natAbs_natCast n
  rw [e]
  have : n.log2 ≤ n := Nat.log2_le_self n
  omega
section
variable {P : Program} {w : World} {K : PySem.W.Frag} {mg : Str → Option Value} {base : Heap} {aR pd C CL : Addr}
def spIni (pd C CL : Addr) : Sp := fun vs H Q E => ∃ (x dx al ad : Addr) (xl xr : List V) (ls rs : List D), vs = [.ref x, .ref al, .ref ad] ∧ H x = some (.ins C dx []) ∧ x ≠ pd ∧ (∃ o, H pd = some o) ∧ H al = some (.lst xl) ∧ VrA pd H xl ls ∧ H ad = some (.tup xr) ∧ ad ≠ pd ∧ VrA pd H xr rs ∧ (∀ d ∈ ls, LiS d) ∧ (∀ d ∈ rs, LiT d) ∧ ls.length ≤ 100 ∧ rs.length ≤ 100 ∧
  (hallF ls rs = none → ∀ H' ws qs, (∀ b o, H b = some o → b ≠ x → H' b = some o) → ls = ws.map .str → rs = qs.map rowD → Hok ws qs → HallAt pd C H' x ws qs → Q .non H') ∧
  (∀ n r, hallF ls rs = some (n, r) → ∀ d H', Same H H' → H d = none → H' d = some (.xd [("rule", .str r), ("line", .int (n : Nat))]) → E (.ref CL) (some d) H')
theorem ok_ini {f fF : Addr} {fd fdF : FuncData} (F : FunD K "__init__" "Hall.__init__" (defArgs sIni) (defBody sIni) (defScope sIni) [] [] f fd) (FF : FnP K "hall_fault" sHf fF fdF) (gF : mg "hall_fault" = some (.ref fF)) (GF : FnOk P w K mg base CX0 4 fF fdF ["locks", "descriptions"] (spHf pd))
    (B : ErC P w K mg base "BadLine" CL ["line", "rule"]) (T : HallC K C) (mt : mg "tuple" = none) :
    FnR P w K mg base (L2.CX P w) 5 f (fun vs H Q E => ∃ ws rest, vs = ws ++ rest ∧ ws.length = 2 ∧ rest.length ≤ sizeLine ∧ ∀ p, H p = none → spIni pd C CL (ws ++ [V.ref p]) (upd H p (.tup rest)) Q E) := by
  have bF : Binds K fdF ["locks", "descriptions"] [] := FF.bindsN fun _ _ _ _ _ _ us hl => match us, hl with | [_, _], _ => rfl
  obtain ⟨fB, fdB, psB, iC, tI, FB, bB⟩ := B.ok
  obtain ⟨oc, od, dV, kV, doc, pm, an, cdv, ct, osl, rfl, lk, hcd, hD, _⟩ := F.ex
  have hD : dV = .none := by
    rcases hD with ⟨_, e⟩ | ⟨e, _⟩
    · exact e
    · exact absurd rfl e
  subst hD
  refine StX.fn_star (ps := ["self", "locks"]) (pv := "descriptions") lk hcd scIni StX.cxUp (StX.bind_star2 (B := fun zs => bindArgs (PySem.W.fnOf "__init__" "Hall.__init__" (defArgs sIni) (defBody sIni) (defScope sIni) .none kV doc pm an cdv ct) ⟨zs, []⟩) (p1 := "self") (p2 := "locks") (pv := "descriptions") (fun a b => rfl) (fun a b r rs => rfl)) fun A outer s H vs Q E hr h => ?_
  obtain ⟨x, dx, al, ad, xl, xr, ls, rs, rfl, ex, nx, hpd, eal, vl, ead, nad, vr, ll, lr, nl, nr, yes, nope⟩ := h
  have hr2 := hr.mono (show 2 ≤ 4 by decide)
  refine ⟨_, pss_cons (ps_set (i := 3) scIni.nd rfl (.inl rfl) (pe_call GF hr (by rfl) gF FF.kp bF .nil pass0 (pa_cons (pe_tupleOf (by rfl) mt (pv 1)) (pa_cons (pv 2) pa_nil))))
    (pss_cons (ps_if (pt_cmpR op_notN (pv 3) pe_non (nomark _)) (pss_cons (ps_asg (pv 3) (pg_tup (by rfl) (pgs_cons (pg_name (i := 4) scIni.nd rfl (.inl rfl)) (pgs_cons (pg_name (i := 5) scIni.nd rfl (.inl rfl)) pgs_nil))))
      (pss_one (ps_raise rfl (takes_of rfl rfl rfl rfl) (pmk_oex B.ox iC tI FB hr2 bB .nil pass0 (by rfl) B.g (pa_cons (pv 4) (pa_cons (pv 5) pa_nil)))))) pss_nil)
    (pss_cons (ps_fld (pv 0) (pe_tupleOf (by rfl) mt (pv 1)) rfl)
    (pss_cons (ps_fld (pv 0) (pv 2) rfl)
    (pss_cons (ps_fld (pv 0) (pe_tupleOf (by rfl) mt (pe_lc (own := [("description", 6)]) (g := gName 6) (tt := tYes) rfl scIni.nd (pi_tup (pv 2)) (blkOk_by (N := ["self", "locks", "descriptions", "fault", "line", "rule", "description", "row", "field"]) (sc := defScope sIni) (by decide +kernel)) (fun _ _ _ _ _ => pg_name (i := 6) scIni.nd rfl (.inl rfl)) (fun _ _ _ _ _ => pts_nil)
        (fun _ _ _ _ _ => pe_ix (r := rIxT K) ix_tup (pv 6) pe_int (fun _ _ => rfl)))) rfl)
    (pss_one (ps_fld (pv 0) (pe_tupleOf (by rfl) mt (pe_lc2 (own := [("row", 7), ("field", 8)]) (vs1 := [8]) (g := gName 7) (tt := tYes) (g1 := gName 8) (tt1 := tYes) (wi1 := iTup K (tSl rSlH (tVar 7) (tPart (tC (.int 2))) tNoPart)) rfl scIni.nd (pi_tup (pv 2)) (blkOk_by (N := ["self", "locks", "descriptions", "fault", "line", "rule", "description", "row", "field"]) (sc := defScope sIni) (by decide +kernel)) (by decide)
        (fun _ _ _ _ _ => pg_name (i := 7) scIni.nd rfl (.inl rfl)) (fun _ _ _ _ _ => pts_nil) (fun _ _ _ _ _ => pi_tup (pe_slice (r := rSlH) sl_tupH (pv 7) (po_some pe_int) po_none)) (fun _ _ _ _ _ => pg_name (i := 8) scIni.nd rfl (.inl rfl)) (fun _ _ _ _ _ => pts_nil)
        (fun _ _ _ _ _ => pe_tup (pa_cons (pe_ix (r := rIxT K) ix_tup (pv 7) pe_int (fun _ _ => rfl)) (pa_cons (pv 8) pa_nil))))) rfl)))))), ?_⟩
  have tail : hallF ls rs = none → ∀ σ5 H1, σ5 = [some (V.ref x), some (V.ref al), some (V.ref ad), some .non, none, none, none, none, none] → Same H H1 → tSeq (sFld K (tVar 0) (tThen (tVar 1) (kTup K)) "locks") (tSeq (sFld K (tVar 0) (tVar 2) "descriptions") (tSeq (sFld K (tVar 0) (tThen (tLc (iTup K (tVar 2)) (gName 6) tYes (tOp (rIxT K) (tVar 6) (tC (.int 0))) [6]) (kTup K)) "kinds")
      (sFld K (tVar 0) (tThen (tLc2 (iTup K (tVar 2)) (gName 7) tYes (iTup K (tSl rSlH (tVar 7) (tPart (tC (.int 2))) tNoPart)) (gName 8) tYes (tTup (tCons (tOp (rIxT K) (tVar 7) (tC (.int 0))) (tCons (tVar 8) tNil))) [7, 8] [8]) (kTup K)) "sorts"))) { nx := fun _ H' => Q .non H', rt := Q } σ5 H1 := by
    intro hn σ5 H1 e5 s1
    subst e5
    obtain ⟨ws, qs, e1, e2, ok⟩ := hall_none hn
    have ex1 := s1 _ _ ex
    have eal1 := s1 _ _ eal
    have on : ∀ {G : Hp}, (∀ b o, H b = some o → b ≠ x → G b = some o) → ∃ o, G pd = some o := fun k => let ⟨o, h⟩ := hpd; ⟨o, k _ _ h nx.symm⟩
    have nald : al ≠ x := ne_of eal ex (by intro z; cases z)
    have nadx : ad ≠ x := ne_of ead ex (by intro z; cases z)
    refine ⟨.ref al, rfl, .inl ⟨al, xl, rfl, SqL.of eal1, fun a1 n1 => ⟨.ref x, rfl, x, C, dx, [], rfl, ?_, T.cl, T.n1, by show 0 < 1000; decide, ?_⟩⟩⟩
    · rw [upd_ne (ne_of_none ex1 n1)]
      exact ex1
    have na1x : a1 ≠ x := (ne_of_none ex1 n1).symm
    have k1 : ∀ b o, H b = some o → b ≠ x → upd (upd H1 a1 (.tup xl)) x (.ins C dx (putF "locks" (.ref a1) [])) b = some o := fun b o e n => by
      rw [upd_ne n, upd_ne (ne_of_none (s1 _ _ e) n1)]
      exact s1 _ _ e
    have ea1 : upd (upd H1 a1 (.tup xl)) x (.ins C dx (putF "locks" (.ref a1) [])) a1 = some (.tup xl) := by rw [upd_ne na1x, upd_same]
    have ex2 : upd (upd H1 a1 (.tup xl)) x (.ins C dx (putF "locks" (.ref a1) [])) x = some (.ins C dx (putF "locks" (.ref a1) [])) := upd_same
    have ma1 : a1 ≠ pd := not_pd (let ⟨o, h⟩ := hpd; ⟨o, s1 _ _ h⟩) n1
    generalize upd (upd H1 a1 (.tup xl)) x (.ins C dx (putF "locks" (.ref a1) [])) = G1 at k1 ea1 ex2
    refine ⟨.ref ad, rfl, .ref x, rfl, x, C, dx, _, rfl, ex2, T.cl, T.n2, by show 1 < 1000; decide, ?_⟩
    have k2 : ∀ b o, H b = some o → b ≠ x → upd G1 x (.ins C dx (putF "descriptions" (.ref ad) (putF "locks" (.ref a1) []))) b = some o := fun b o e n => by
      rw [upd_ne n]
      exact k1 b o e n
    have ea2 : upd G1 x (.ins C dx (putF "descriptions" (.ref ad) (putF "locks" (.ref a1) []))) a1 = some (.tup xl) := by rw [upd_ne na1x]; exact ea1
    have ex3 : upd G1 x (.ins C dx (putF "descriptions" (.ref ad) (putF "locks" (.ref a1) []))) x = some (.ins C dx (putF "descriptions" (.ref ad) (putF "locks" (.ref a1) []))) := upd_same
    generalize upd G1 x (.ins C dx (putF "descriptions" (.ref ad) (putF "locks" (.ref a1) []))) = G2 at k2 ea2 ex3
    -- values in the heap, but for x
    have tx : ∀ {G G' : Hp}, G x = some (.ins C dx []) ∨ (∃ fs, G x = some (.ins C dx fs)) → (∀ b o, G b = some o → b ≠ x → G' b = some o) → ∀ b o, G b = some o → ((∃ xs, o = .lst xs) ∨ ∃ xs, o = .tup xs) → b ≠ pd → G' b = some o := fun hx k b o e ho _ => k b o e fun z => by
      rw [z] at e
      rcases hx with hx | ⟨fs, hx⟩ <;> rw [hx] at e <;> injection e with e <;> rcases ho with ⟨_, ho⟩ | ⟨_, ho⟩ <;> rw [ho] at e <;> cases e
    have vr2 : VrA pd G2 xr (qs.map rowD) := by
      rw [← e2]
      exact vr.upT (tx (.inl ex) k2) _
    have vl2 : VrA pd G2 xl (ws.map .str) := by
      rw [← e1]
      exact vl.upT (tx (.inl ex) k2) _
    have ead2 : G2 ad = some (.tup xr) := k2 _ _ ead nadx
    have lq : xr.length = qs.length := by rw [vr2.len, List.length_map]
    have pd2 : ∃ o, G2 pd = some o := on k2
    have rowAt : ∀ {G : Hp} {i : Nat} {v : V}, Same G2 G → xr[i]? = some v → ∃ q p us, qs[i]? = some q ∧ v = .ref p ∧ G p = some (.tup us) ∧ VrA pd G us (rowL q) := fun {G i v} sm hx => by
      obtain ⟨d, hd, vd⟩ := vr2.get hx
      rw [List.getElem?_map] at hd
      cases hq : qs[i]? with
      | none =>
        rw [hq] at hd
        cases hd
      | some q =>
        rw [hq] at hd
        cases hd
        have vd := vd.same sm
        cases vd with
        | tu g1 g2 g3 => exact ⟨q, _, _, rfl, rfl, g1, g3⟩
    refine ⟨.ref ad, rfl, ad, rfl, ⟨_, SqT.of ead2⟩, fun Dl nD => lc_it (walk_tup (xs := xr)) (fun i H3 => Same G2 H3 ∧ H3 Dl = some (.lst ((qs.take i).map fun r => V.str r.k))) ⟨same_upd nD, upd_same⟩ (fun i H3 _ p => sqT p.1 (SqT.of ead2)) ?_ ?_⟩
    · rintro i v H3 H4 hi ⟨sm, eD⟩ ⟨rfl, hx⟩
      obtain ⟨q, p, us, hq, rfl, g1, g3⟩ := rowAt sm hx
      cases g3 with
      | @cons u0 ut _ _ va vt =>
        have ev : u0 = .str q.k := by cases va; rfl
        subst ev
        refine ⟨rfl, ?_⟩
        refine iteT (B := Same G2 H4 ∧ H4 Dl = some (.lst ((qs.take (i + 1)).map fun r => V.str r.k))) ?_
        refine ⟨.ref p, rfl, p, _, 0, .str q.k, rfl, rfl, SqT.of g1, at0 _ _, _, eD, small1000 (by rw [List.length_map, List.length_take]; have := ok.rl; omega), Same.put sm nD, ?_⟩
        rw [upd_same, List.take_add_one, hq, List.map_append]
        rfl
    rintro H3 ⟨sm3, eD⟩
    rw [lq, List.take_length] at eD
    refine .inl ⟨Dl, _, rfl, SqL.of eD, fun a3 n3 => ⟨.ref x, rfl, x, C, dx, _, rfl, (same_upd n3) _ _ (sm3 _ _ ex3), T.cl, T.n3, Nat.lt_of_le_of_lt (putF_len _ _ _) (Nat.lt_of_le_of_lt (Nat.succ_le_succ (putF_len _ _ _)) (by show 0 + 1 + 1 < 1000; decide)), ?_⟩⟩
    have s3 : Same H3 (upd H3 a3 (.tup (qs.map fun r => V.str r.k))) := same_upd n3
    have ea3 : upd H3 a3 (.tup (qs.map fun r => V.str r.k)) a3 = some (.tup (qs.map fun r => V.str r.k)) := upd_same
    have ma3 : a3 ≠ pd := not_pd (let ⟨o, h⟩ := pd2; ⟨o, sm3 _ _ h⟩) n3
    have s23 := sm3.trans s3
    generalize upd H3 a3 (.tup (qs.map fun r => V.str r.k)) = G3 at s3 ea3 s23
    have ex3' := s23 _ _ ex3
    have na3x : a3 ≠ x := ne_of ea3 ex3' (by intro z; cases z)
    have k4 : ∀ b o, G3 b = some o → b ≠ x → upd G3 x (.ins C dx (putF "kinds" (.ref a3) (putF "descriptions" (.ref ad) (putF "locks" (.ref a1) [])))) b = some o := fun b o e n => by rw [upd_ne n]; exact e
    have ex4 : upd G3 x (.ins C dx (putF "kinds" (.ref a3) (putF "descriptions" (.ref ad) (putF "locks" (.ref a1) [])))) x = some (.ins C dx (putF "kinds" (.ref a3) (putF "descriptions" (.ref ad) (putF "locks" (.ref a1) [])))) := upd_same
    generalize upd G3 x (.ins C dx (putF "kinds" (.ref a3) (putF "descriptions" (.ref ad) (putF "locks" (.ref a1) [])))) = G4 at k4 ex4
    have ead4 : G4 ad = some (.tup xr) := k4 _ _ (s23 _ _ ead2) nadx
    have vr4 : VrA pd G4 xr (qs.map rowD) := (vr2.same s23).upT (tx (.inr ⟨_, ex3'⟩) k4) _
    have vl4 : VrA pd G4 xl (ws.map .str) := (vl2.same s23).upT (tx (.inr ⟨_, ex3'⟩) k4) _
    have ea34 := k4 _ _ ea3 na3x
    have ea14 : G4 a1 = some (.tup xl) := k4 _ _ (s23 _ _ ea2) na1x
    have pd4 : ∃ o, G4 pd = some o := let ⟨o, h⟩ := pd2; ⟨o, k4 _ _ (s23 _ _ h) nx.symm⟩
    have kH4 : ∀ b o, H b = some o → b ≠ x → G4 b = some o := fun b o e n => k4 _ _ (s23 _ _ (k2 b o e n)) n
    have rowAt4 : ∀ {G : Hp} {i : Nat} {v : V}, Same G4 G → xr[i]? = some v → ∃ q p us, qs[i]? = some q ∧ v = .ref p ∧ G p = some (.tup us) ∧ VrA pd G us (rowL q) := fun {G i v} sm hx => by
      obtain ⟨d, hd, vd⟩ := vr4.get hx
      rw [List.getElem?_map] at hd
      cases hq : qs[i]? with
      | none =>
        rw [hq] at hd
        cases hd
      | some q =>
        rw [hq] at hd
        cases hd
        have vd := vd.same sm
        cases vd with
        | tu g1 g2 g3 => exact ⟨q, _, _, rfl, rfl, g1, g3⟩
    refine ⟨.ref ad, rfl, ad, rfl, ⟨_, SqT.of ead4⟩, fun Dl2 nD2 => lc2_it (walk_tup (xs := xr)) (fun i H5 => Same G4 H5 ∧ ∃ acc, H5 Dl2 = some (.lst acc) ∧ Prs pd Dl2 H5 acc (sortsP (qs.take i)) ∧ acc.length ≤ 2 * i) ⟨same_upd nD2, [], upd_same, .nil, Nat.le_refl _⟩ (fun i H5 _ p => sqT p.1 (SqT.of ead4)) ?_ ?_⟩
    · rintro i v H5 H6 hi ⟨sm5, acc, eA, vA, lA⟩ ⟨rfl, hx⟩
      obtain ⟨q, p, us, hq, rfl, g1, g3⟩ := rowAt4 sm5 hx
      have hqn := (ok.rn q (List.mem_of_getElem? hq)).n
      have hi3 : i < 3 := by
        have := (List.getElem?_eq_some_iff.mp hq).1
        have := ok.rl
        omega
      cases g3 with
      | @cons u0 ut _ _ va vt =>
      cases vt with
      | @cons u1 uc _ _ vb vc =>
        have ev : u0 = .str q.k := by cases va; rfl
        subst ev
        have ec := vc.strs_inv
        subst ec
        refine ⟨rfl, ?_⟩
        refine iteT (B := Same G4 H6 ∧ ∃ acc, H6 Dl2 = some (.lst acc) ∧ Prs pd Dl2 H6 acc (sortsP (qs.take (i + 1))) ∧ acc.length ≤ 2 * (i + 1)) ?_
        refine ⟨.ref p, rfl, 2, rfl, p, _, rfl, g1, fun p2 H7 s7 hp2 ho => ?_⟩
        have ec : cutV (V.str q.k :: u1 :: q.fs.map V.str) (some 2) none = q.fs.map V.str := cut_from (V.str q.k :: u1 :: q.fs.map V.str) 2
        rw [ec] at hp2
        have sm7 := sm5.trans s7
        have nDp : Dl2 ≠ p2 := ne_of (s7 _ _ eA) hp2 (by intro z; cases z)
        refine ⟨p2, rfl, ⟨_, SqT.of hp2⟩, in_it (walk_tup (xs := q.fs.map V.str)) (fun j H8 => Same G4 H8 ∧ H8 p = some (.tup (V.str q.k :: u1 :: q.fs.map V.str)) ∧ H8 p2 = some (.tup (q.fs.map V.str)) ∧ ∃ acc, H8 Dl2 = some (.lst acc) ∧ Prs pd Dl2 H8 acc (sortsP (qs.take i) ++ (q.fs.take j).map fun f => (q.k, f)) ∧ acc.length ≤ 2 * i + j)
          ⟨sm7, s7 _ _ g1, hp2, acc, s7 _ _ eA, by rw [List.take_zero, List.map_nil, List.append_nil]; exact vA.up fun b o e _ => s7 b o e, by omega⟩ (fun j H8 _ z => SqT.of z.2.2.1) ?_ ?_⟩
        · rintro j v H8 H9 hj ⟨sm8, g8, h8, acc8, eA8, vA8, lA8⟩ ⟨rfl, hf⟩
          rw [List.length_map] at hj
          have hf0 : q.fs[j]? = some q.fs[j] := List.getElem?_eq_getElem hj
          rw [List.getElem?_map, hf0] at hf
          cases hf
          refine ⟨rfl, ?_⟩
          refine iteT (B := Same G4 H9 ∧ H9 p = some (.tup (V.str q.k :: u1 :: q.fs.map V.str)) ∧ H9 p2 = some (.tup (q.fs.map V.str)) ∧ ∃ acc, H9 Dl2 = some (.lst acc) ∧ Prs pd Dl2 H9 acc (sortsP (qs.take i) ++ (q.fs.take (j + 1)).map fun f => (q.k, f)) ∧ acc.length ≤ 2 * i + (j + 1)) ?_
          refine ⟨.ref p, rfl, p, _, 0, .str q.k, rfl, rfl, SqT.of g8, at0 _ _, .str q.fs[j], rfl, by show 2 ≤ sizeLine; decide, fun t nt => ?_⟩
          have st : Same H9 (upd H9 t (.tup [V.str q.k, V.str q.fs[j]])) := same_upd nt
          have et : upd H9 t (.tup [V.str q.k, V.str q.fs[j]]) t = some (.tup [V.str q.k, V.str q.fs[j]]) := upd_same
          have mt4 : t ≠ pd := not_pd (let ⟨o, h⟩ := pd4; ⟨o, sm8 _ _ h⟩) nt
          have ntD : t ≠ Dl2 := (ne_of_none eA8 nt).symm
          generalize upd H9 t (.tup [V.str q.k, V.str q.fs[j]]) = G9 at st et
          have eA9 := st _ _ eA8
          have nDx : ∀ b o, G4 b = some o → b ≠ Dl2 := fun b o e => ne_of_none e nD2
          refine ⟨acc8, eA9, small1000 (by rcases hqn with z | z <;> omega), ?_, ?_, ?_, acc8 ++ [V.ref t], upd_same, ?_, by rw [List.length_append]; show _ + 1 ≤ _; omega⟩
          · exact Same.put (sm8.trans st) nD2
          · rw [upd_ne (ne_of (st _ _ g8) eA9 (by intro z; cases z))]
            exact st _ _ g8
          · rw [upd_ne nDp.symm]
            exact st _ _ h8
          · have e9 : (q.fs.take (j + 1)).map (fun f => (q.k, f)) = (q.fs.take j).map (fun f => (q.k, f)) ++ [(q.k, q.fs[j])] := by
              rw [List.take_add_one, hf0, List.map_append]
              rfl
            rw [e9, ← List.append_assoc]
            refine (Prs.app (vA8.up fun b o e _ => st b o e) (.cons et mt4 ntD .nil)).up fun b o e n => ?_
            rw [upd_ne n]
            exact e
        · rintro H8 ⟨sm8, g8, h8, acc8, eA8, vA8, lA8⟩
          rw [List.length_map, List.take_length] at vA8
          refine ⟨sm8, acc8, eA8, ?_, by rw [List.length_map] at lA8; rcases hqn with z | z <;> omega⟩
          rw [List.take_add_one, hq]
          show Prs pd Dl2 H8 acc8 (sortsP (qs.take i ++ [q]))
          rw [sortsP_snoc]
          exact vA8
    rintro H5 ⟨sm5, acc, eA, vA, lA⟩
    rw [lq, List.take_length] at vA
    have vA := vA.vr
    rw [sortsP_D] at vA
    refine .inl ⟨Dl2, _, rfl, SqL.of eA, fun a4 n4 => ⟨.ref x, rfl, x, C, dx, _, rfl, (same_upd n4) _ _ (sm5 _ _ ex4), T.cl, T.n4, Nat.lt_of_le_of_lt (putF_len _ _ _) (Nat.lt_of_le_of_lt (Nat.succ_le_succ (putF_len _ _ _)) (Nat.lt_of_le_of_lt (Nat.succ_le_succ (Nat.succ_le_succ (putF_len _ _ _))) (by show 0 + 1 + 1 + 1 < 1000; decide))), ?_⟩⟩
    have s5 : Same H5 (upd H5 a4 (.tup acc)) := same_upd n4
    have ea4 : upd H5 a4 (.tup acc) a4 = some (.tup acc) := upd_same
    have ma4 : a4 ≠ pd := not_pd (let ⟨o, h⟩ := pd4; ⟨o, sm5 _ _ h⟩) n4
    have s45 := sm5.trans s5
    have vA5 := vA.same s5
    generalize upd H5 a4 (.tup acc) = G5 at s5 ea4 s45 vA5
    have ex5 := s45 _ _ ex4
    have na4x : a4 ≠ x := ne_of ea4 ex5 (by intro z; cases z)
    rw [hfs_eq]
    have k6 : ∀ b o, G5 b = some o → b ≠ x → upd G5 x (.ins C dx (hfs a1 ad a3 a4)) b = some o := fun b o e n => by rw [upd_ne n]; exact e
    have kk := tx (.inr ⟨_, ex5⟩) k6
    refine yes hn _ ws qs (fun b o e n => k6 _ _ (s45 _ _ (kH4 b o e n)) n) e1 e2 ok ⟨⟨dx, a1, ad, a3, a4, upd_same, .tu (k6 _ _ (s45 _ _ ea14) na1x) ma1 ((vl4.same s45).upT kk _), .tu (k6 _ _ (s45 _ _ ead4) nadx) nad ((vr4.same s45).upT kk _), .tu (k6 _ _ (s45 _ _ ea34) na3x) ma3 ?_, .tu (k6 _ _ ea4 na4x) ma4 (vA5.upT kk _)⟩, nx⟩
    have hs : ∀ (G : Hp) (zs : List Rw), VrA pd G (zs.map fun r => V.str r.k) (zs.map fun r => PyData.str r.k) := fun G zs => by
      induction zs with
      | nil => exact .nil
      | cons z zs ih => exact .cons (.txt _) ih
    exact hs _ _
  refine ⟨.ref al, rfl, .inl ⟨al, xl, rfl, SqL.of eal, fun t nt => ?_⟩⟩
  have st : Same H (upd H t (.tup xl)) := same_upd nt
  have et : upd H t (.tup xl) t = some (.tup xl) := upd_same
  generalize upd H t (.tup xl) = G at st et
  refine ⟨.ref ad, rfl, t, ad, xl, xr, ls, rs, rfl, et, vl.same st, st _ _ ead, vr.same st, ll, lr, nl, nr, fun hn H1 s1 => ?_, fun n r hf p H1 s1 np hp => ?_⟩
  · refine ⟨.non, rfl, rfl, _, rfl, iteF ?_⟩
    exact tail hn _ H1 rfl (st.trans s1)
  · obtain ⟨hr1, hn1⟩ := hall_some hf
    refine ⟨.ref p, rfl, rfl, _, rfl, ifN (fun z => by cases z) (fun _ => ?_)⟩
    refine ⟨.ref p, rfl, p, _, rfl, SqT.of hp, rfl, .int (n : Nat), [.str r], rfl, .str r, [], rfl, rfl, .int (n : Nat), rfl, .str r, rfl, by show 2 ≤ 1000; decide, fun a na => ⟨a, [.int (n : Nat), .str r], rfl, rfl, upd_same, fun v hv => ?_, fun H3 k3 ex => ⟨rfl, ?_⟩⟩⟩
    · rcases List.mem_cons.mp hv with rfl | hv
      · exact .inl (nat_sho (by omega))
      · rw [List.mem_singleton.mp hv]
        exact .inl (rule_sho hr1)
    · rcases ex with ⟨e, _⟩ | ⟨d, nd, e1, e2⟩
      · cases e
      · have nda : d ≠ a := fun z => by
          rw [z, upd_same] at nd
          cases nd
        have nd2 : H1 d = none := by
          rw [upd_ne nda] at nd
          exact nd
        have s01 := st.trans s1
        refine ⟨d, [("rule", .str r), ("line", .int (n : Nat))], e1, e2, nd2, nope n r hf d _ (fun b o hb2 => ?_) (s01.free nd2) upd_same⟩
        have b1 : b ≠ a := ne_of_none (s01 _ _ hb2) na
        have b2 : b ≠ d := ne_of_none (s01 _ _ hb2) nd2
        rw [upd_ne b2, del_ne b1]
        exact k3 b o (by rw [upd_ne b1]; exact s01 _ _ hb2) b1
end
end K01
namespace K01
open PySem PySem.Spec PyProof.Rows L2
theorem scEq : FnScope ["self", "other"] ["self", "other"] (defScope sEq) := ⟨rfl, rfl, rfl, by decide +kernel, rfl, by decide +kernel, by decide +kernel⟩
theorem scDo : FnScope ["self", "kind", "description"] ["self", "kind"] (defScope sDo) := ⟨rfl, rfl, rfl, by decide +kernel, rfl, by decide +kernel, by decide +kernel⟩
theorem scGo : FnScope ["self", "kind"] ["self", "kind"] (defScope sGo) := ⟨rfl, rfl, rfl, by decide +kernel, rfl, by decide +kernel, by decide +kernel⟩
theorem scFo : FnScope ["self", "kind"] ["self", "kind"] (defScope sFo) := ⟨rfl, rfl, rfl, by decide +kernel, rfl, by decide +kernel, by decide +kernel⟩
theorem scTx : FnScope ["self", "lines", "description", "words", "lock", "word"] ["self"] (defScope sTx) := ⟨rfl, rfl, rfl, by decide +kernel, rfl, by decide +kernel, by decide +kernel⟩
abbrev FnM (K : PySem.W.Frag) (x q : Str) (st : Stmt) (f : Addr) (fd : FuncData) : Prop := FunD K x q (defArgs st) (defBody st) (defScope st) [] [] f fd
/-! ### data of halls, compared -/
theorem beq_dec (a b : Str) : (a == b) = decide (a = b) := by
  cases h : (a == b) with
  | true => exact (decide_eq_true (eq_of_beq h)).symm
  | false =>
    refine (decide_eq_false fun e => ?_).symm
    rw [e, beq_self_eq_true] at h
    cases h
theorem eqv_ss (a b : Str) : PyData.eqv (.str a) (.str b) = decide (a = b) := by
  rw [← beq_dec]
  simp [PyData.eqv]
theorem eqvs : ∀ (a b : List Str), PyData.eqvAll (a.map .str) (b.map .str) = decide (a = b)
  | [], [] => by rfl
  | [], _ :: _ => by simp [PyData.eqvAll]
  | _ :: _, [] => by simp [PyData.eqvAll]
  | x :: a, y :: b => by
    rw [List.map_cons, List.map_cons, PyData.eqvAll, eqv_ss, eqvs a b]
    by_cases h1 : x = y
    · by_cases h2 : a = b
      · simp [h1, h2]
      · simp [h1, h2]
    · simp [h1]
theorem eqv_opt (a b : Option Str) : PyData.eqv (optD a) (optD b) = decide (a = b) := by
  cases a with
  | none => cases b with
    | none => rfl
    | some y => simp [optD, PyData.eqv]
  | some x => cases b with
    | none => simp [optD, PyData.eqv]
    | some y =>
      show PyData.eqv (.str x) (.str y) = _
      rw [eqv_ss]
      by_cases h : x = y
      · simp [h]
      · simp [h]
theorem Rw.eq_iff (a b : Rw) : a = b ↔ a.k = b.k ∧ a.l = b.l ∧ a.fs = b.fs := by
  obtain ⟨k, l, f⟩ := a
  obtain ⟨k', l', f'⟩ := b
  constructor
  · intro h
    injection h with h1 h2 h3
    exact ⟨h1, h2, h3⟩
  · rintro ⟨h1, h2, h3⟩
    have h1 : k = k' := h1
    have h2 : l = l' := h2
    have h3 : f = f' := h3
    rw [h1, h2, h3]
instance (a b : Rw) : Decidable (a = b) := decidable_of_iff _ (Rw.eq_iff a b).symm
theorem eqv_row (r s : Rw) : PyData.eqv (rowD r) (rowD s) = decide (r = s) := by
  have e : PyData.eqv (rowD r) (rowD s) = PyData.eqvAll (rowL r) (rowL s) := by simp [rowD, PyData.eqv]
  rw [e]
  show PyData.eqvAll (.str r.k :: optD r.l :: r.fs.map .str) (.str s.k :: optD s.l :: s.fs.map .str) = _
  rw [PyData.eqvAll, PyData.eqvAll, eqv_ss, eqv_opt, eqvs]
  obtain ⟨k, l, f⟩ := r
  obtain ⟨k', l', f'⟩ := s
  by_cases h1 : k = k'
  · by_cases h2 : l = l'
    · by_cases h3 : f = f'
      · simp [h1, h2, h3]
      · simp [h1, h2, h3]
    · simp [h1, h2]
  · simp [h1]
theorem eqv_rows : ∀ (a b : List Rw), PyData.eqvAll (a.map rowD) (b.map rowD) = decide (a = b)
  | [], [] => by rfl
  | [], _ :: _ => by simp [PyData.eqvAll]
  | _ :: _, [] => by simp [PyData.eqvAll]
  | x :: a, y :: b => by
    rw [List.map_cons, List.map_cons, PyData.eqvAll, eqv_row, eqv_rows a b]
    by_cases h1 : x = y
    · by_cases h2 : a = b
      · simp [h1, h2]
      · simp [h1, h2]
    · simp [h1]
theorem nm_ok {s : Str} (h : isName s = true) : PyData.strOk s = true := by
  have h2 : s.cps.toList.all okc = true := by
    unfold isName at h
    simp only [Bool.and_eq_true] at h
    exact h.2.2
  show s.cps.all (· < 0x110000) = true
  rw [← Array.all_toList]
  refine List.all_eq_true.mpr fun c hc => decide_eq_true ?_
  have z := List.all_eq_true.mp h2 c hc
  have key : ∀ c ∈ lets.cps.toList ++ digs.cps.toList, c < 0x110000 := by decide +kernel
  refine key c ?_
  unfold okc at z
  rw [Bool.or_eq_true] at z
  rcases z with z | z
  · exact List.mem_append.mpr (.inl (of_decide_eq_true z))
  · exact List.mem_append.mpr (.inr (of_decide_eq_true z))
theorem lay_opt {l : Option Str} (h : ∀ x, l = some x → isName x = true) : (optD l).canLay0 = true ∧ (optD l).depth = 0 := by
  cases l with
  | none => exact ⟨rfl, rfl⟩
  | some x => exact ⟨by show PyData.canLay0 (.str x) = true; rw [PyData.canLay0]; exact nm_ok (h x rfl), rfl⟩
theorem row_lay {r : Rw} (h : Rok r) : (rowD r).canLay0 = true ∧ (rowD r).depth ≤ 2 := by
  obtain ⟨h1, h2⟩ := lay_opt h.l
  have h3 := lay_strs fun w hw => nm_ok (h.fs w hw)
  have h4 := depth_strs r.fs
  refine ⟨?_, ?_⟩
  · show PyData.canLay0 (.tuple (.str r.k :: optD r.l :: r.fs.map .str)) = true
    rw [PyData.canLay0, PyData.canLayAll0, PyData.canLayAll0, h1, h3, PyData.canLay0, nm_ok h.k]
    rfl
  · show PyData.depth (.tuple (.str r.k :: optD r.l :: r.fs.map .str)) ≤ 2
    simp only [PyData.depth, PyData.depthAll]
    omega
theorem rows_lay : ∀ {rs : List Rw}, (∀ r ∈ rs, Rok r) → PyData.canLayAll0 (rs.map rowD) = true ∧ PyData.depthAll (rs.map rowD) ≤ 2
  | [], _ => ⟨rfl, Nat.zero_le _⟩
  | r :: rs, h => by
    obtain ⟨h1, h2⟩ := row_lay (h r List.mem_cons_self)
    obtain ⟨h3, h4⟩ := rows_lay (rs := rs) fun q hq => h q (List.mem_cons_of_mem _ hq)
    refine ⟨by rw [List.map_cons, PyData.canLayAll0, h1, h3]; rfl, ?_⟩
    rw [List.map_cons]
    simp only [PyData.depthAll]
    omega
theorem sh_tup {es : List D} (h : PyData.canLayAll0 es = true) (hd : PyData.depthAll es ≤ 20) : SeqAt.shaped (.tuple es) = true := by
  unfold SeqAt.shaped
  rw [PyData.canLay0, h]
  exact decide_eq_true (by rw [PyData.depth]; omega)
theorem sh_lst {es : List D} (h : PyData.canLayAll0 es = true) (hd : PyData.depthAll es ≤ 20) : SeqAt.shaped (.list es) = true := by
  unfold SeqAt.shaped
  rw [PyData.canLay0, h]
  exact decide_eq_true (by rw [PyData.depth]; omega)
theorem sh_rows {rs : List Rw} (h : ∀ r ∈ rs, Rok r) : SeqAt.shaped (.tuple (rs.map rowD)) = true := by
  obtain ⟨h1, h2⟩ := rows_lay h
  exact sh_tup h1 (by omega)
theorem sh_strs {ws : List Str} (h : ∀ w ∈ ws, isName w = true) : SeqAt.shaped (.tuple (ws.map .str)) = true := by
  have := depth_strs ws
  exact sh_tup (lay_strs fun w hw => nm_ok (h w hw)) (by omega)
/-! ### fields -/
theorem hf1 (a1 a2 a3 a4 : Addr) : (hfs a1 a2 a3 a4).lookup ("locks" : Str) = some (.ref a1) := by
  have h : (("locks" : Str) == "locks") = true := by decide +kernel
  simp only [hfs, List.lookup, h]
theorem hf2 (a1 a2 a3 a4 : Addr) : (hfs a1 a2 a3 a4).lookup ("descriptions" : Str) = some (.ref a2) := by
  have h1 : (("descriptions" : Str) == "locks") = false := by decide +kernel
  have h : (("descriptions" : Str) == "descriptions") = true := by decide +kernel
  simp only [hfs, List.lookup, h, h1]
theorem hf3 (a1 a2 a3 a4 : Addr) : (hfs a1 a2 a3 a4).lookup ("kinds" : Str) = some (.ref a3) := by
  have h1 : (("kinds" : Str) == "locks") = false := by decide +kernel
  have h2 : (("kinds" : Str) == "descriptions") = false := by decide +kernel
  have h : (("kinds" : Str) == "kinds") = true := by decide +kernel
  simp only [hfs, List.lookup, h, h1, h2]
theorem hf4 (a1 a2 a3 a4 : Addr) : (hfs a1 a2 a3 a4).lookup ("sorts" : Str) = some (.ref a4) := by
  have h1 : (("sorts" : Str) == "locks") = false := by decide +kernel
  have h2 : (("sorts" : Str) == "descriptions") = false := by decide +kernel
  have h3 : (("sorts" : Str) == "kinds") = false := by decide +kernel
  have h : (("sorts" : Str) == "sorts") = true := by decide +kernel
  simp only [hfs, List.lookup, h, h1, h2, h3]
theorem hf0 (a1 a2 a3 a4 : Addr) {m : Str} (h : m ∉ [("locks" : Str), "descriptions", "kinds", "sorts"]) : (hfs a1 a2 a3 a4).lookup m = none := by
  have ne : ∀ {x : Str}, x ∈ [("locks" : Str), "descriptions", "kinds", "sorts"] → (m == x) = false := fun {x} hx => by
    rw [beq_dec]
    exact decide_eq_false fun e => h (e ▸ hx)
  have h1 := ne (x := "locks") (by decide +kernel)
  have h2 := ne (x := "descriptions") (by decide +kernel)
  have h3 := ne (x := "kinds") (by decide +kernel)
  have h4 := ne (x := "sorts") (by decide +kernel)
  simp only [hfs, List.lookup, h1, h2, h3, h4]
section
variable {P : Program} {w : World} {K : PySem.W.Frag} {mg : Str → Option Value} {base : Heap} {aR pd C CN : Addr}
def spEqH (pd C : Addr) : Sp := fun vs H Q _ => ∃ (x y : Addr) (ls ls' : List Str) (rs rs' : List Rw), vs = [.ref x, .ref y] ∧ HallAt pd C H x ls rs ∧ HallAt pd C H y ls' rs' ∧ Hok ls rs ∧ Hok ls' rs' ∧ Q (.bl (decide (ls = ls' ∧ rs = rs'))) H
theorem ok_eqh {f : Addr} {fd : FuncData} (F : FnM K "__eq__" "Hall.__eq__" sEq f fd) (T : HallC K C) (IC : C8.InsC K C) (gC : mg "Hall" = some (.ref C)) (mi : mg "isinstance" = none) : FnOk P w K mg base CX0 1 f fd ["self", "other"] (spEqH pd C) := by
  refine F.ok scEq (fun vs H Q E h => ?_) (fun cdv A outer s H vs Q E hr h => ?_)
  · obtain ⟨x, y, ls, ls', rs, rs', rfl, _⟩ := h
    rfl
  · obtain ⟨x, y, ls, ls', rs, rs', rfl, hx, hy, ox, oy, q⟩ := h
    refine ⟨_, PSs.nox (pss_one (ps_ret (pe_and (pe_callB (C8.call_isC IC) (by rfl) mi (by decide +kernel) (pa_cons (pv 1) (pa_cons (pe_glob (v := .ref C) (by rfl) gC rfl) pa_nil)))
      (pe_and (pe_cmpR (op_eqD hr.units) (pe_fld (pv 0) rfl) (pe_fld (pv 1) rfl) (nomark _)) (pe_one (pe_cmpR (op_eqD hr.units) (pe_fld (pv 0) rfl) (pe_fld (pv 1) rfl) (nomark _))))))), ?_⟩
    obtain ⟨⟨dx, a1, a2, a3, a4, ex, v1, v2, v3, v4⟩, nx⟩ := hx
    obtain ⟨⟨dy, b1, b2, b3, b4, ey, w1, w2, w3, w4⟩, ny⟩ := hy
    refine ⟨.ref y, rfl, y, dy, _, rfl, ey, _, rfl, iteT ?_⟩
    refine ⟨.ref x, rfl, x, C, dx, _, _, rfl, ex, T.cl, T.n1, hf1 _ _ _ _, .ref y, rfl, y, C, dy, _, _, rfl, ey, T.cl, T.n1, hf1 _ _ _ _, _, _, v1.dp K, w1.dp K, sh_strs ox.ln, sh_strs oy.ln, _, rfl, ?_⟩
    have e1 : PyData.eqv (.tuple (ls.map .str)) (.tuple (ls'.map .str)) = decide (ls = ls') := by
      rw [← eqvs]
      simp [PyData.eqv]
    have e2 : PyData.eqv (.tuple (rs.map rowD)) (.tuple (rs'.map rowD)) = decide (rs = rs') := by
      rw [← eqv_rows]
      simp [PyData.eqv]
    rw [e1]
    refine ite2 (fun h1 => ?_) (fun h1 => ?_)
    · have h1 : ls = ls' := of_decide_eq_true h1
      refine ⟨.ref x, rfl, x, C, dx, _, _, rfl, ex, T.cl, T.n2, hf2 _ _ _ _, .ref y, rfl, y, C, dy, _, _, rfl, ey, T.cl, T.n2, hf2 _ _ _ _, _, _, v2.dp K, w2.dp K, sh_rows ox.rn, sh_rows oy.rn, ?_⟩
      rw [e2]
      have e3 : decide (ls = ls' ∧ rs = rs') = decide (rs = rs') := by
        rw [decide_eq_decide]
        exact ⟨fun z => z.2, fun z => ⟨h1, z⟩⟩
      rw [e3] at q
      exact q
    · have h1 : ¬ ls = ls' := fun z => h1 (decide_eq_true z)
      have e3 : decide (ls = ls' ∧ rs = rs') = false := decide_eq_false fun z => h1 z.1
      rw [e3] at q
      exact q
def Ksh (k : Str) : Prop := k.length ≤ 20 ∧ (reprText k).length ≤ 1000
/-! ### the row of a kind -/
def findR (k : Str) : List Rw → Option Rw
  | [] => none
  | r :: rs => if r.k = k then some r else findR k rs
def spDo (pd C CN : Addr) : Sp := fun vs H Q E => ∃ (x : Addr) (k : Str) (ls : List Str) (rs : List Rw), vs = [.ref x, .str k] ∧ HallAt pd C H x ls rs ∧ Hok ls rs ∧ Ksh k ∧
  (∀ r, findR k rs = some r → ∀ p, Vr pd H (.ref p) (rowD r) → Q (.ref p) H) ∧ (findR k rs = none → ∀ d H', Same H H' → H d = none → H' d = some (.xd [("name", .str k)]) → E (.ref CN) (some d) H')
end
end K01
namespace K01
open PySem PySem.Spec PyProof.Rows L2
section
variable {P : Program} {w : World} {K : PySem.W.Frag} {mg : Str → Option Value} {base : Heap} {aR pd C CN : Addr}
theorem ok_do {f : Addr} {fd : FuncData} (F : FnM K "_description_of" "Hall._description_of" sDo f fd) (T : HallC K C) (B : ErC P w K mg base "NoSuch" CN ["name"]) : FnOk P w K mg base (L2.CX P w) 3 f fd ["self", "kind"] (spDo pd C CN) := by
  obtain ⟨fB, fdB, psB, iC, tI, FB, bB⟩ := B.ok
  refine F.ok scDo (fun vs H Q E h => ?_) (fun cdv A outer s H vs Q E hr h => ?_)
  · obtain ⟨x, k, ls, rs, rfl, _⟩ := h
    rfl
  · obtain ⟨x, k, ls, rs, rfl, hx, ok, hk, yes, nope⟩ := h
    refine ⟨_, pss_cons (ps_for (passes_of rfl) rfl (pi_tup (pe_fld (pv 0) rfl)) (pg_name (i := 2) scDo.nd rfl (.inl rfl)) (pss_one (ps_if (pt_cmpR op_eq (pe_ix ix_tup (pv 2) pe_int (fun _ _ => rfl)) (pv 1) (nomark _)) (pss_one (ps_ret (pv 2))) pss_nil)))
      (pss_one (ps_raise rfl (takes_of rfl rfl rfl rfl) (pmk_oex B.ox iC tI FB hr bB .nil pass0 (by rfl) B.g (pa_cons (pv 1) pa_nil)))), ?_⟩
    obtain ⟨⟨dx, a1, a2, a3, a4, ex, v1, v2, v3, v4⟩, nx⟩ := hx
    cases v2 with
    | @tu _ xs _ g1 g2 g3 =>
    have lx : xs.length = rs.length := by rw [g3.len, List.length_map]
    refine ⟨.ref x, rfl, x, C, dx, _, _, rfl, ex, T.cl, T.n2, hf2 _ _ _ _, a2, rfl, ⟨_, SqT.of g1⟩, for_it (walk_tup (xs := xs)) (fun i σ H5 => ∃ y2, σ = [some (.ref x), some (.str k), y2] ∧ H5 = H ∧ findR k rs = findR k (rs.drop i)) ⟨none, rfl, rfl, rfl⟩ (fun _ _ _ _ ⟨_, _, e, _⟩ => by rw [e]; exact SqT.of g1) ?_ ?_⟩
    · rintro i v σ H3 H4 hi ⟨y2, rfl, rfl, ef⟩ ⟨rfl, hv⟩
      obtain ⟨d, hd, vd⟩ := g3.get hv
      rw [List.getElem?_map] at hd
      cases hq : rs[i]? with
      | none =>
        rw [hq] at hd
        cases hd
      | some q =>
        rw [hq] at hd
        cases hd
        have dr : rs.drop i = q :: rs.drop (i + 1) := List.drop_eq_getElem?_toList_append.trans (by rw [hq]; rfl)
        rw [dr] at ef
        have ef : findR k rs = if q.k = k then some q else findR k (rs.drop (i + 1)) := ef
        have vd0 := vd
        cases vd with
        | @tu p us _ h1 h2 h3 =>
        cases h3 with
        | @cons u0 ut _ _ va vt =>
          have ev : u0 = .str q.k := by cases va; rfl
          subst ev
          refine ⟨.ref p, rfl, p, _, 0, .str q.k, rfl, rfl, SqT.of h1, at0 _ _, .str k, rfl, rfl, _, rfl, ite2 (fun z => ?_) (fun z => ?_)⟩
          · have z : q.k = k := by injection of_decide_eq_true z
            rw [if_pos z] at ef
            exact ⟨.ref p, rfl, yes q ef p vd0⟩
          · have z : ¬ q.k = k := fun e => z (decide_eq_true (by rw [e]))
            rw [if_neg z] at ef
            exact ⟨_, rfl, rfl, ef⟩
    · rintro σ H3 ⟨y2, rfl, rfl, ef⟩
      rw [lx, List.drop_length] at ef
      have ef : findR k rs = none := ef
      refine ⟨.str k, rfl, by show 1 ≤ 1000; decide, fun a na => ⟨a, [.str k], rfl, rfl, upd_same, fun v hv => ?_, fun H4 k4 ex2 => ⟨rfl, ?_⟩⟩⟩
      · rw [List.mem_singleton.mp hv]
        exact .inl (.inl ⟨k, rfl, hk.2, by have := hk.1; omega⟩)
      · rcases ex2 with ⟨e, _⟩ | ⟨d, nd, e1, e2⟩
        · cases e
        · have nda : d ≠ a := fun z => by
            rw [z, upd_same] at nd
            cases nd
          have nd2 : H3 d = none := by
            rw [upd_ne nda] at nd
            exact nd
          refine ⟨d, [("name", .str k)], e1, e2, nd2, nope ef d _ (fun b o hb2 => ?_) nd2 upd_same⟩
          have b1 : b ≠ a := ne_of_none hb2 na
          have b2 : b ≠ d := ne_of_none hb2 nd2
          rw [upd_ne b2, del_ne b1]
          exact k4 b o (by rw [upd_ne b1]; exact hb2) b1
def spGo (pd C CN : Addr) : Sp := fun vs H Q E => ∃ (x : Addr) (k : Str) (ls : List Str) (rs : List Rw), vs = [.ref x, .str k] ∧ HallAt pd C H x ls rs ∧ Hok ls rs ∧ Ksh k ∧
  (∀ r, findR k rs = some r → Q (optV r.l) H) ∧ (findR k rs = none → ∀ d H', Same H H' → H d = none → H' d = some (.xd [("name", .str k)]) → E (.ref CN) (some d) H')
def spFo (pd C CN : Addr) : Sp := fun vs H Q E => ∃ (x : Addr) (k : Str) (ls : List Str) (rs : List Rw), vs = [.ref x, .str k] ∧ HallAt pd C H x ls rs ∧ (∃ o, H pd = some o) ∧ Hok ls rs ∧ Ksh k ∧
  (∀ r, findR k rs = some r → ∀ p H', Same H H' → Vr pd H' (.ref p) (.tuple (r.fs.map .str)) → Q (.ref p) H') ∧ (findR k rs = none → ∀ d H', Same H H' → H d = none → H' d = some (.xd [("name", .str k)]) → E (.ref CN) (some d) H')
theorem ok_go {f fD : Addr} {fd fdD : FuncData} (F : FnM K "guard_of" "Hall.guard_of" sGo f fd) (FD : FnM K "_description_of" "Hall._description_of" sDo fD fdD) (mD : Meth K C "_description_of" fD) (T : HallC K C) (B : ErC P w K mg base "NoSuch" CN ["name"]) : FnOk P w K mg base (L2.CX P w) 4 f fd ["self", "kind"] (spGo pd C CN) := by
  have GD : FnOk P w K mg base (L2.CX P w) 3 fD fdD ["self", "kind"] (spDo pd C CN) := ok_do FD T B
  have bD : Binds K fdD ["self", "kind"] [] := FD.bindsN fun _ _ _ _ _ _ us hl => match us, hl with | [_, _], _ => rfl
  refine F.ok scGo (fun vs H Q E h => ?_) (fun cdv A outer s H vs Q E hr h => ?_)
  · obtain ⟨x, k, ls, rs, rfl, _⟩ := h
    rfl
  · obtain ⟨x, k, ls, rs, rfl, hx, ok, hk, yes, nope⟩ := h
    refine ⟨_, pss_one (ps_ret (pe_ix ix_tup (pe_meth (pv 0) T.cl mD GD hr bD .nil (passes_call (takes_of rfl rfl rfl rfl) (fun _ _ _ _ h => h)) (pa_cons (pv 1) pa_nil)) pe_int (fun _ _ => rfl))), ?_⟩
    have hx0 := hx
    obtain ⟨⟨dx, a1, a2, a3, a4, ex, v1, v2, v3, v4⟩, nx⟩ := hx
    refine ⟨.ref x, rfl, x, dx, _, rfl, ex, hf0 _ _ _ _ (by decide +kernel), .str k, rfl, x, k, ls, rs, rfl, hx0, ok, hk, fun r hr2 p vp => ?_, nope⟩
    cases vp with
    | @tu _ us _ h1 h2 h3 =>
    cases h3 with
    | @cons u0 ut _ _ va vt =>
    cases vt with
    | @cons u1 uc _ _ vb vc =>
      have e1 := VrA.opt vb
      subst e1
      exact ⟨p, _, 1, _, rfl, rfl, SqT.of h1, show atI (u0 :: optV r.l :: uc) ((1 : Nat) : Int) = some (optV r.l) from atI_nat rfl, yes r hr2⟩
theorem ok_fo {f fD : Addr} {fd fdD : FuncData} (F : FnM K "fields_of" "Hall.fields_of" sFo f fd) (FD : FnM K "_description_of" "Hall._description_of" sDo fD fdD) (mD : Meth K C "_description_of" fD) (T : HallC K C) (B : ErC P w K mg base "NoSuch" CN ["name"]) : FnOk P w K mg base (L2.CX P w) 4 f fd ["self", "kind"] (spFo pd C CN) := by
  have GD : FnOk P w K mg base (L2.CX P w) 3 fD fdD ["self", "kind"] (spDo pd C CN) := ok_do FD T B
  have bD : Binds K fdD ["self", "kind"] [] := FD.bindsN fun _ _ _ _ _ _ us hl => match us, hl with | [_, _], _ => rfl
  refine F.ok scFo (fun vs H Q E h => ?_) (fun cdv A outer s H vs Q E hr h => ?_)
  · obtain ⟨x, k, ls, rs, rfl, _⟩ := h
    rfl
  · obtain ⟨x, k, ls, rs, rfl, hx, hpd, ok, hk, yes, nope⟩ := h
    refine ⟨_, pss_one (ps_ret (pe_slice (r := rSlH) sl_tupH (pe_meth (pv 0) T.cl mD GD hr bD .nil (passes_call (takes_of rfl rfl rfl rfl) (fun _ _ _ _ h => h)) (pa_cons (pv 1) pa_nil)) (po_some pe_int) po_none)), ?_⟩
    have hx0 := hx
    obtain ⟨⟨dx, a1, a2, a3, a4, ex, v1, v2, v3, v4⟩, nx⟩ := hx
    refine ⟨.ref x, rfl, x, dx, _, rfl, ex, hf0 _ _ _ _ (by decide +kernel), .str k, rfl, x, k, ls, rs, rfl, hx0, ok, hk, fun r hr2 p vp => ?_, nope⟩
    cases vp with
    | @tu _ us _ h1 h2 h3 =>
    cases h3 with
    | @cons u0 ut _ _ va vt =>
    cases vt with
    | @cons u1 uc _ _ vb vc =>
      have ec := vc.strs_inv
      subst ec
      refine ⟨2, rfl, p, _, rfl, h1, fun q H2 s2 hq ho => ?_⟩
      have e2 : cutV (u0 :: u1 :: r.fs.map V.str) (some 2) none = r.fs.map V.str := cut_from (u0 :: u1 :: r.fs.map V.str) 2
      rw [e2] at hq
      refine yes r hr2 q H2 s2 (.tu hq ?_ (VrA.strs _))
      · rcases ho with rfl | n
        · exact h2
        · exact not_pd hpd n
end
end K01
namespace K01
open PySem PySem.Spec PyProof.Rows L2
def optT : Option Str → Str
  | none => "-"
  | some x => x
def rowW (r : Rw) : List Str := r.k :: optT r.l :: r.fs
def rowText (r : Rw) : Str := "kind " ++ Txt.join " " (rowW r)
def hallLines (ls : List Str) (rs : List Rw) : List Str := ls.map (fun l : Str => ("lock " : Str) ++ l) ++ rs.map rowText
def hallText (ls : List Str) (rs : List Rw) : Str := Txt.join "\n" (hallLines ls rs)
theorem nm_len {s : Str} (h : isName s = true) : s.length ≤ 8 := by
  unfold isName at h
  simp only [Bool.and_eq_true, decide_eq_true_eq] at h
  exact h.1.2
theorem joinL_len : ∀ (sep : List Nat) (ps : List (List Nat)), (TL.joinL sep ps).length ≤ (ps.map List.length).sum + ps.length * sep.length
  | _, [] => Nat.zero_le _
  | sep, [p] => by
    show p.length ≤ (p.length + 0) + 1 * sep.length
    omega
  | sep, p :: q :: r => by
    have ih := joinL_len sep (q :: r)
    show (p ++ (sep ++ TL.joinL sep (q :: r))).length ≤ (p.length + ((q :: r).map List.length).sum) + ((q :: r).length + 1) * sep.length
    rw [List.length_append, List.length_append, Nat.add_mul]
    omega
theorem join_len (sep : Str) (ws : List Str) : (Txt.join sep ws).length ≤ (ws.map (·.length)).sum + ws.length * sep.length := by
  have e : TL.tl (Txt.join sep ws) = TL.joinL (TL.tl sep) (ws.map TL.tl) := by
    rw [TL.join_eq, TL.tl_join]
  have z := joinL_len (TL.tl sep) (ws.map TL.tl)
  rw [← e, List.map_map, List.length_map] at z
  rw [TL.len_tl]
  have e2 : (ws.map (·.length)) = ws.map (List.length ∘ TL.tl) := by
    apply List.map_congr_left
    intro a _
    rfl
  rw [e2]
  exact z
theorem sum_le {ws : List Str} {k : Nat} (h : ∀ w ∈ ws, w.length ≤ k) : (ws.map (·.length)).sum ≤ k * ws.length := by
  induction ws with
  | nil => exact Nat.zero_le _
  | cons w ws ih =>
    have h1 := h w List.mem_cons_self
    have h2 := ih fun v hv => h v (List.mem_cons_of_mem _ hv)
    rw [List.map_cons, List.sum_cons, List.length_cons, Nat.mul_add]
    omega
theorem rowW_len {r : Rw} (h : Rok r) : (∀ w ∈ rowW r, w.length ≤ 8) ∧ (rowW r).length ≤ 4 ∧ (rowText r).length ≤ 60 := by
  have h1 : ∀ w ∈ rowW r, w.length ≤ 8 := fun w hw => by
    rcases List.mem_cons.mp hw with rfl | hw
    · exact nm_len h.k
    rcases List.mem_cons.mp hw with rfl | hw
    · cases hl : r.l with
      | none => decide +kernel
      | some x => exact nm_len (h.l x hl)
    · exact nm_len (h.fs w hw)
  have h2 : (rowW r).length ≤ 4 := by
    show r.fs.length + 1 + 1 ≤ 4
    rcases h.n with z | z <;> omega
  refine ⟨h1, h2, ?_⟩
  unfold rowText
  rw [strLen_append]
  have e1 : ("kind " : Str).length = 5 := by decide +kernel
  have e2 : (" " : Str).length = 1 := by decide +kernel
  have z := join_len " " (rowW r)
  have y := sum_le h1
  rw [e2] at z
  omega
section
variable {P : Program} {w : World} {K : PySem.W.Frag} {mg : Str → Option Value} {base : Heap} {aR pd C CN : Addr}
def spTx (pd C : Addr) : Sp := fun vs H Q _ => ∃ (x : Addr) (ls : List Str) (rs : List Rw), vs = [.ref x] ∧ HallAt pd C H x ls rs ∧ Hok ls rs ∧ ∀ H', Same H H' → Q (.str (hallText ls rs)) H'
theorem ok_tx {f : Addr} {fd : FuncData} (F : FnM K "text" "Hall.text" sTx f fd) (T : HallC K C) : FnOk P w K mg base CX0 1 f fd ["self"] (spTx pd C) := by
  refine F.ok scTx (fun vs H Q E h => ?_) (fun cdv A outer s H vs Q E hr h => ?_)
  · obtain ⟨x, ls, rs, rfl, _⟩ := h
    rfl
  · obtain ⟨x, ls, rs, rfl, hx, ok, q⟩ := h
    refine ⟨_, PSs.nox (pss_cons (ps_setLc (i := 1) (own := [("lock", 4)]) (g := gName 4) (tt := tYes) rfl scTx.nd rfl rfl (sw_true rfl rfl rfl (by decide +kernel)) (pi_tup (pe_fld (pv 0) rfl)) (blkOk_by (N := ["self", "lines", "description", "words", "lock", "word"]) (sc := defScope sTx) (by decide +kernel)) (fun _ _ _ _ _ => pg_name (i := 4) scTx.nd rfl (.inl rfl)) (fun _ _ _ _ _ => pts_nil)
        (fun _ _ _ _ _ => pe_op op_add_str pe_str (pv 4)))
      (pss_cons (ps_for PassesOwn.never rfl (pi_tup (pe_fld (pv 0) rfl)) (pg_name (i := 2) scTx.nd rfl (.inl rfl))
        (pss_cons (ps_setLc (i := 3) (own := [("word", 5)]) (g := gName 5) (tt := tYes) rfl scTx.nd rfl rfl (sw_true rfl rfl rfl (by decide +kernel)) (pi_tup (pv 2)) (blkOk_by (N := ["self", "lines", "description", "words", "lock", "word"]) (sc := defScope sTx) (by decide +kernel)) (fun _ _ _ _ _ => pg_name (i := 5) scTx.nd rfl (.inl rfl)) (fun _ _ _ _ _ => pts_nil)
          (fun _ _ _ _ _ => pe_ifExp (pt_cmpR op_isN (pv 5) pe_non (nomark _)) pe_str (pv 5)))
        (pss_one (ps_expr (pe_bm PySem.F.plainAttrs_list PySem.F.slot_list_append PySem.F.type_list_append mt_append (pv 1) (pa_cons (pe_op op_add_str pe_str (pe_join pe_str (pv 3))) pa_nil))))))
      (pss_one (ps_ret (pe_join pe_str (pv 1)))))), ?_⟩
    obtain ⟨⟨dx, a1, a2, a3, a4, ex, v1, v2, v3, v4⟩, nx⟩ := hx
    cases v1 with
    | @tu _ ys _ k1 k2 k3 =>
    have ey := k3.strs_inv
    subst ey
    cases v2 with
    | @tu _ xs _ g1 g2 g3 =>
    have lx : xs.length = rs.length := by rw [g3.len, List.length_map]
    have r3 := ok.rl
    have l4 := ok.ll
    refine ⟨.ref x, rfl, x, C, dx, _, _, rfl, ex, T.cl, T.n1, hf1 _ _ _ _, a1, rfl, ⟨_, SqT.of k1⟩, fun Dl nD => lc_it (walk_tup (xs := ls.map V.str)) (fun i H3 => Same H H3 ∧ H3 Dl = some (.lst (((ls.take i).map fun l : Str => ("lock " : Str) ++ l).map V.str))) ⟨same_upd nD, upd_same⟩ (fun i H3 _ p => SqT.of (p.1 _ _ k1)) ?_ ?_⟩
    · rintro i v H3 H4 hi ⟨sm, eD⟩ ⟨rfl, hv⟩
      rw [List.length_map] at hi
      have e3 : ls[i]? = some ls[i] := List.getElem?_eq_getElem hi
      have hv : (ls.map V.str)[i]? = some v := hv
      rw [List.getElem?_map, e3] at hv
      cases hv
      have nl := nm_len (ok.ln _ (List.getElem_mem hi))
      refine ⟨rfl, ?_⟩
      refine iteT (B := Same H H4 ∧ H4 Dl = some (.lst (((ls.take (i + 1)).map fun l : Str => ("lock " : Str) ++ l).map V.str))) ?_
      have e5 : ("lock " : Str).length = 5 := by decide +kernel
      refine ⟨.str ls[i], rfl, "lock ", ls[i], rfl, rfl, by rw [e5, sizeLine_eq]; omega, _, eD, small1000 (by rw [List.length_map, List.length_map, List.length_take]; omega), Same.put sm nD, ?_⟩
      rw [upd_same, List.take_add_one, e3, List.map_append, List.map_append]
      rfl
    rintro H3 ⟨sm3, eD⟩
    rw [List.length_map, List.take_length] at eD
    have nD : H Dl = none := nD
    refine ⟨.ref x, rfl, x, C, dx, _, _, rfl, sm3 _ _ ex, T.cl, T.n2, hf2 _ _ _ _, a2, rfl, ⟨_, SqT.of (sm3 _ _ g1)⟩, for_it (walk_tup (xs := xs)) (fun i σ H5 => ∃ y2 y3, σ = [some (.ref x), some (.ref Dl), y2, y3, none, none] ∧ Same H H5 ∧ H5 Dl = some (.lst ((ls.map (fun l : Str => ("lock " : Str) ++ l) ++ (rs.take i).map rowText).map V.str)))
      ⟨none, none, rfl, sm3, by rw [List.take_zero, List.map_nil, List.append_nil]; exact eD⟩ (fun _ _ _ _ ⟨_, _, _, sm, _⟩ => SqT.of (sm _ _ g1)) ?_ ?_⟩
    · rintro i v σ H5 H6 hi ⟨y2, y3, rfl, sm5, e5⟩ ⟨rfl, hv⟩
      obtain ⟨d, hd, vd⟩ := g3.get hv
      rw [List.getElem?_map] at hd
      cases hq : rs[i]? with
      | none =>
        rw [hq] at hd
        cases hd
      | some r =>
        rw [hq] at hd
        cases hd
        have rk := ok.rn r (List.mem_of_getElem? hq)
        obtain ⟨w1, w2, w3⟩ := rowW_len rk
        cases vd with
        | @tu p us _ h1 h2 h3 =>
        have h1' := sm5 _ _ h1
        have lu : us.length = r.fs.length + 2 := by
          rw [h3.len]
          show (r.fs.map PyData.str).length + 1 + 1 = _
          rw [List.length_map]
        have hit : ∀ {j : Nat} {u : V}, us[j]? = some u → ∃ t, (rowW r)[j]? = some t ∧ u = (if j = 1 then optV r.l else .str t) := fun {j u} hj => by
          cases h3 with
          | @cons u0 ut _ _ va vt =>
          cases vt with
          | @cons u1 uc _ _ vb vc =>
            have e1 : u0 = .str r.k := by cases va; rfl
            have e2 := VrA.opt vb
            have e3 := vc.strs_inv
            subst e1
            subst e2
            subst e3
            match j, hj with
            | 0, hj => cases hj; exact ⟨_, rfl, rfl⟩
            | 1, hj => cases hj; exact ⟨_, rfl, rfl⟩
            | j + 2, hj =>
              have hj : (r.fs.map V.str)[j]? = some u := hj
              rw [List.getElem?_map] at hj
              cases hf : r.fs[j]? with
              | none =>
                rw [hf] at hj
                cases hj
              | some f =>
                rw [hf] at hj
                cases hj
                exact ⟨f, hf, by rw [if_neg (by omega)]⟩
        refine ⟨.ref p, rfl, p, rfl, ⟨_, SqT.of h1'⟩, fun D2 nD2 => lc_it (walk_tup (xs := us)) (fun j H7 => Same H6 H7 ∧ H7 D2 = some (.lst (((rowW r).take j).map V.str))) ⟨same_upd nD2, upd_same⟩ (fun j H7 _ z => SqT.of (z.1 _ _ h1')) ?_ ?_⟩
        · rintro j u H7 H8 hj ⟨sm7, e7⟩ ⟨rfl, hu⟩
          obtain ⟨t, ht, eu⟩ := hit hu
          refine ⟨rfl, ?_⟩
          refine iteT (B := Same H6 H8 ∧ H8 D2 = some (.lst (((rowW r).take (j + 1)).map V.str))) ?_
          have fin : ∃ acc, H8 D2 = some (.lst acc) ∧ acc.length < sizeLine ∧ Same H6 (upd H8 D2 (.lst (acc ++ [V.str t]))) ∧ upd H8 D2 (.lst (acc ++ [V.str t])) D2 = some (.lst (((rowW r).take (j + 1)).map V.str)) := by
            refine ⟨_, e7, small1000 (by rw [List.length_map, List.length_take]; omega), Same.put sm7 nD2, ?_⟩
            rw [upd_same, List.take_add_one, ht, List.map_append]
            rfl
          by_cases h1 : j = 1
          · subst h1
            rw [if_pos rfl] at eu
            have et : t = optT r.l := by
              have : (rowW r)[1]? = some (optT r.l) := rfl
              rw [this] at ht
              cases ht
              rfl
            subst eu
            cases hl : r.l with
            | none =>
              rw [hl] at et
              subst et
              exact ⟨_, rfl, rfl, _, rfl, fin⟩
            | some z =>
              rw [hl] at et
              have et : t = z := et
              subst et
              exact ⟨_, rfl, rfl, _, rfl, iteF ⟨_, rfl, fin⟩⟩
          · rw [if_neg h1] at eu
            subst eu
            exact ⟨_, rfl, rfl, _, rfl, iteF ⟨_, rfl, fin⟩⟩
        rintro H7 ⟨sm7, e7⟩
        have lw : (rowW r).length = us.length := by rw [lu]; rfl
        rw [← lw, List.take_length] at e7
        have e75 := sm7 _ _ e5
        have e1 : (" " : Str).length = 1 := by decide +kernel
        have e9 : ("kind " : Str).length = 5 := by decide +kernel
        have y := sum_le w1
        have z := w3
        unfold rowText at z
        rw [strLen_append] at z
        refine ⟨.ref Dl, rfl, .inl ⟨rfl, _, SqL.of e75⟩, ⟨_, rfl⟩, .ref D2, rfl, " ", D2, rowW r, rfl, rfl, .inl (SqL.of e7), by rw [e1]; omega, "kind ", _, rfl, rfl, by rw [sizeLine_eq]; omega, Dl, _, _, rfl, rfl, e75, small1000 (by simp only [List.length_map, List.length_append, List.length_take]; omega), ?_⟩
        refine ⟨_, _, rfl, Same.put (sm5.trans sm7) nD, ?_⟩
        rw [upd_same, List.take_add_one, hq]
        simp only [List.map_append, List.append_assoc]
        rfl
    · rintro σ H5 ⟨y2, y3, rfl, sm5, e5⟩
      rw [lx, List.take_length] at e5
      refine ⟨⟨_, rfl⟩, .ref Dl, rfl, "\n", Dl, hallLines ls rs, rfl, rfl, .inl (SqL.of e5), ?_, q H5 sm5⟩
      have e1 : ("\n" : Str).length = 1 := by decide +kernel
      have e9 : ("lock " : Str).length = 5 := by decide +kernel
      have hl : ∀ w ∈ hallLines ls rs, w.length ≤ 60 := fun w hw => by
        rcases List.mem_append.mp hw with hw | hw
        · obtain ⟨l, h1, rfl⟩ := List.mem_map.mp hw
          have := nm_len (ok.ln l h1)
          rw [strLen_append]
          omega
        · obtain ⟨r, h1, rfl⟩ := List.mem_map.mp hw
          exact (rowW_len (ok.rn r h1)).2.2
      have y := sum_le hl
      have ln : (hallLines ls rs).length ≤ 7 := by
        simp only [hallLines, List.length_append, List.length_map]
        omega
      rw [e1]
      omega
end
end K01
namespace K01
open PySem PySem.Spec PyProof.Rows L2
/-! ### the names of the pool -/
def ahs : Str := "abcdefgh"
def sgl : Str := "ijklmnopqrstuvwxyz0123456789"
def okA (c : Nat) : Bool := decide (c ∈ ahs.cps.toList)
def outs (s : Str) : List Nat := s.cps.toList.filter fun c => !okA c
def fo (s : Str) : Option Nat := (outs s).head?
def sgAt (first : Int) (j : Nat) : Option Nat := sgl.cps.toList[((first + 5 * (0 + (j : Int))) % 28).toNat]?
structure Pn (sg : Int) (n : Str) : Prop where
  nm : isName n = true
  fo : fo n = sgl.cps.toList[sg.toNat]?
def StOk (s : Str) (k : Nat) : Prop := s.length ≤ k ∧ ∀ c ∈ s.cps.toList, okA c = true
theorem StOk.app {a b : Str} {k l : Nat} (h : StOk a k) (g : StOk b l) : StOk (a ++ b) (k + l) := by
  refine ⟨by rw [strLen_append]; have := h.1; have := g.1; omega, fun c hc => ?_⟩
  rw [cps_app] at hc
  rcases List.mem_append.mp hc with hc | hc
  · exact h.2 c hc
  · exact g.2 c hc
theorem atI_mem {xs : List Nat} {r : Int} {c : Nat} (h : atI xs r = some c) : c ∈ xs := by
  unfold atI at h
  obtain ⟨j, _, hj⟩ := Option.bind_eq_some_iff.mp h
  exact List.mem_of_getElem? hj
theorem StOk.sign {z : Str} {r : Int} {c : Nat} (hz : ∀ c ∈ z.cps.toList, okA c = true) (h : atI z.cps.toList r = some c) : StOk ⟨#[c]⟩ 1 := by
  refine ⟨Nat.le_refl _, fun d hd => ?_⟩
  have e : d = c := by simpa using hd
  rw [e]
  exact hz c (atI_mem h)
theorem okA_okc {c : Nat} (h : okA c = true) : c ∈ lets.cps.toList := by
  have key : ∀ c ∈ ahs.cps.toList, c ∈ lets.cps.toList := by decide +kernel
  exact key c (of_decide_eq_true h)
theorem sgl_facts : ∀ i : Nat, i < 28 → ∃ c, sgl.cps.toList[i]? = some c ∧ okA c = false ∧ okc c = true ∧ (i ≤ 17 → c ∈ lets.cps.toList) := by
  have key : ∀ i ∈ List.range 28, (match sgl.cps.toList[i]? with | some c => !okA c && (okc c && (decide (17 < i) || decide (c ∈ lets.cps.toList))) | none => false) = true := by decide +kernel
  intro i hi
  have k := key i (List.mem_range.mpr hi)
  cases h : sgl.cps.toList[i]? with
  | none =>
    rw [h] at k
    cases k
  | some c =>
    rw [h] at k
    simp only [Bool.and_eq_true, Bool.or_eq_true, Bool.not_eq_true', decide_eq_true_eq] at k
    exact ⟨c, rfl, k.1, k.2.1, fun z => by rcases k.2.2 with y | y; omega; exact y⟩
theorem cut_lo (st : Str) (pl : Int) (h0 : 0 ≤ pl) (h1 : pl ≤ (st.length : Int)) : (cutS st none (some pl)).cps.toList = st.cps.toList.take pl.toNat := by
  unfold cutS
  show List.take (HT.sIx st.length st.length (some pl) - HT.sIx st.length 0 none) (List.drop (HT.sIx st.length 0 none) st.cps.toList) = _
  have e1 : HT.sIx st.length 0 none = 0 := rfl
  have e2 : HT.sIx st.length st.length (some pl) = pl.toNat := by
    unfold HT.sIx
    simp only
    rw [if_neg (by omega), Nat.min_eq_left (by omega)]
  rw [e1, e2, List.drop_zero, Nat.sub_zero]
theorem cut_hi (st : Str) (pl : Int) (h0 : 0 ≤ pl) (h1 : pl ≤ (st.length : Int)) : (cutS st (some pl) none).cps.toList = st.cps.toList.drop pl.toNat := by
  unfold cutS
  show List.take (HT.sIx st.length st.length none - HT.sIx st.length 0 (some pl)) (List.drop (HT.sIx st.length 0 (some pl)) st.cps.toList) = _
  have e1 : HT.sIx st.length st.length none = st.length := rfl
  have e2 : HT.sIx st.length 0 (some pl) = pl.toNat := by
    unfold HT.sIx
    simp only
    rw [if_neg (by omega), Nat.min_eq_left (by omega)]
  rw [e1, e2]
  refine List.take_of_length_le ?_
  rw [List.length_drop]
  exact Nat.le_refl _
theorem res_out : ∀ w ∈ RES, (outs w).length = 1 → w ∈ [("do" : Str), "as", "read", "fetch"] := by decide +kernel
theorem four_ok : ∀ w ∈ [("do" : Str), "as", "read", "fetch"], isName (w ++ ("0" : Str)) = true ∧ fo (w ++ ("0" : Str)) = fo w := by decide +kernel
theorem pn_key {st : Str} {sg pl : Int} {c : Nat} (hst : StOk st 7) (g0 : 0 ≤ sg) (g1 : sg < 28) (hc : atI sgl.cps.toList sg = some c) (p0 : 0 ≤ pl) (p1 : pl ≤ (st.length : Int)) (p2 : 17 < sg → 1 ≤ pl) :
    let n := cutS st none (some pl) ++ ⟨#[c]⟩ ++ cutS st (some pl) none
    n.length ≤ 8 ∧ (if n ∈ [("do" : Str), "as", "read", "fetch"] then Pn sg (n ++ "0") else Pn sg n) := by
  intro n
  obtain ⟨c', e1, c1, c2, c3⟩ := sgl_facts sg.toNat (by omega)
  have e : sg = (sg.toNat : Int) := by omega
  have z : atI sgl.cps.toList (sg.toNat : Int) = some c' := atI_nat e1
  rw [← e, hc] at z
  injection z with z
  subst z
  have en : n.cps.toList = st.cps.toList.take pl.toNat ++ [c] ++ st.cps.toList.drop pl.toNat := by
    show (cutS st none (some pl) ++ ⟨#[c]⟩ ++ cutS st (some pl) none).cps.toList = _
    rw [cps_app, cps_app, cut_lo _ _ p0 p1, cut_hi _ _ p0 p1]
  have ln : n.length = st.length + 1 := by
    show n.cps.size = _
    rw [← Array.length_toList, en]
    simp only [List.length_append, List.length_take, List.length_drop, List.length_singleton]
    show min pl.toNat st.cps.toList.length + 1 + (st.cps.toList.length - pl.toNat) = st.cps.toList.length + 1
    have : pl ≤ (st.cps.toList.length : Int) := p1
    omega
  have lst := hst.1
  have eo : outs n = [c] := by
    unfold outs
    rw [en, List.filter_append, List.filter_append]
    have f1 : (st.cps.toList.take pl.toNat).filter (fun c => !okA c) = [] := List.filter_eq_nil_iff.mpr fun x hx => by
      rw [hst.2 x (List.mem_of_mem_take hx)]
      decide
    have f2 : (st.cps.toList.drop pl.toNat).filter (fun c => !okA c) = [] := List.filter_eq_nil_iff.mpr fun x hx => by
      rw [hst.2 x (List.mem_of_mem_drop hx)]
      decide
    rw [f1, f2]
    rw [List.append_nil, List.nil_append, List.filter_cons_of_pos (by rw [c1]; rfl)]
    rfl
  have ef : fo n = sgl.cps.toList[sg.toNat]? := by
    unfold fo
    rw [eo, e1]
    rfl
  refine ⟨by omega, ?_⟩
  by_cases h4 : n ∈ [("do" : Str), "as", "read", "fetch"]
  · rw [if_pos h4]
    obtain ⟨k1, k2⟩ := four_ok n h4
    exact ⟨k1, by rw [k2, ef]⟩
  · rw [if_neg h4]
    refine ⟨?_, ef⟩
    have hok : n.cps.toList.all okc = true := List.all_eq_true.mpr fun x hx => by
      rw [en] at hx
      have oa : okA x = true → okc x = true := fun h => by
        unfold okc
        rw [decide_eq_true (okA_okc h)]
        rfl
      rcases List.mem_append.mp hx with hx | hx
      · rcases List.mem_append.mp hx with hx | hx
        · exact oa (hst.2 x (List.mem_of_mem_take hx))
        · rw [List.mem_singleton.mp hx]
          exact c2
      · exact oa (hst.2 x (List.mem_of_mem_drop hx))
    have hhd : headOk n = true := by
      unfold headOk
      rw [← Array.getElem?_toList, en]
      by_cases hp : pl = 0
      · have e0 : pl.toNat = 0 := by omega
        rw [e0, List.take_zero]
        show decide (c ∈ lets.cps.toList) = true
        exact decide_eq_true (c3 (by
          have : ¬ 17 < sg := fun h => by
            have := p2 h
            omega
          omega))
      · have h1 : 0 < st.cps.toList.length := by
          have : pl ≤ (st.cps.toList.length : Int) := p1
          omega
        have e5 : (st.cps.toList.take pl.toNat ++ [c] ++ st.cps.toList.drop pl.toNat)[0]? = some st.cps.toList[0] := by
          rw [List.append_assoc, List.getElem?_append_left (by rw [List.length_take]; omega), List.getElem?_take_of_lt (by omega), List.getElem?_eq_getElem h1]
        rw [e5]
        exact decide_eq_true (okA_okc (hst.2 _ (List.getElem_mem h1)))
    have hres : inV (.str n) (RES.map V.str) = false := by
      rw [inV_mem]
      refine decide_eq_false fun h => h4 (res_out n h ?_)
      rw [eo]
      rfl
    unfold isName
    rw [hhd, hres, hok, decide_eq_true (by omega : 1 ≤ n.length), decide_eq_true (by omega : n.length ≤ 8)]
    rfl
theorem sgAt_nodup : ∀ f ∈ List.range 28, ((List.range 28).map (sgAt (f : Int))).Nodup := by decide +kernel
/-- the pool -/
structure Pool (ns : List Str) : Prop where
  len : ns.length = 28
  nm : ∀ n ∈ ns, isName n = true
  nd : ns.Nodup
theorem pool_of {ns : List Str} {first : Int} (f0 : 0 ≤ first) (f1 : first < 28) (h : ns.map fo = (List.range 28).map (sgAt first)) (hn : ∀ n ∈ ns, isName n = true) : Pool ns := by
  refine ⟨by rw [← List.length_map (f := fo), h, List.length_map, List.length_range], hn, ?_⟩
  have z := sgAt_nodup first.toNat (List.mem_range.mpr (by omega))
  have e : ((first.toNat : Nat) : Int) = first := by omega
  rw [e, ← h] at z
  exact (List.pairwise_map.mp z).imp fun h e => h (congrArg _ e)
end K01
namespace K01
open PySem PySem.Spec PyProof.Rows L2
def cV : Expr → Option V
  | .Constant (.str x) _ _ => some (.str x)
  | .Constant (.int i) _ _ => some (.int i)
  | .Constant (.bool b) _ _ => some (.bl b)
  | .Constant .none _ _ => some .non
  | _ => none
def tCs (vs : List V) : TA := fun _ H Q => Q vs H
theorem pa_cs {X : Cx} : ∀ {es : List Expr} {vs : List V}, es.map cV = vs.map some → PA X es (tCs vs)
  | [], [], _ => pa_nil
  | [], _ :: _, h => by cases h
  | _ :: _, [], h => by cases h
  | e :: es, v :: vs, h => by
    have h1 : cV e = some v := (List.cons.inj h).1
    have r := pa_cs (X := X) (es := es) (vs := vs) (List.cons.inj h).2
    have key : PE X e (tC v) ∧ starEach (e :: es) X.env = (false, eval e X.env) :: starEach es X.env := by
      unfold cV at h1
      split at h1
      · cases h1
        exact ⟨pe_str, rfl⟩
      · cases h1
        exact ⟨pe_int, rfl⟩
      · cases h1
        exact ⟨pe_bl, rfl⟩
      · cases h1
        exact ⟨pe_non, rfl⟩
      · cases h1
    exact pa_cons key.1 r key.2
theorem npos {m : Int} (h : 0 ≤ m) (h2 : ¬ decide (V.int m = V.int 0) = true) : 1 ≤ m := by
  have : m ≠ 0 := fun e => h2 (decide_eq_true (by rw [e]))
  omega
abbrev sPool : Stmt := top 24
theorem scPool : FnScope ["_law_draws_here", "_law_stems", "_law_turn", "_law_stem", "_law_letter", "_law_first", "_law_names", "_law_k", "_law_sign", "_law_place", "_law_name"] ["_law_draws_here"] (defScope sPool) := ⟨rfl, rfl, rfl, by decide +kernel, rfl, by decide +kernel, by decide +kernel⟩
section
variable {P : Program} {w : World} {K : PySem.W.Frag} {mg : Str → Option Value} {base : Heap} {aR pd : Addr}
def spPool (pd : Addr) : Sp := fun vs H Q _ => vs = [.ref pd] ∧ Dr H H pd ∧ ∀ (H' : Hp) (p : Addr) (ns : List Str), Dr H H' pd → p ≠ pd → H' p = some (.lst (ns.map V.str)) → Pool ns → Q (.ref p) H'
theorem ok_pool {f fN : Addr} {fd fdN : FuncData} (F : FnP K "_law_pool" sPool f fd) (FN : FnP K "_law_next" sNext fN fdN) (gN : mg "_law_next" = some (.ref fN)) (ml : mg "len" = none) (mi : mg "int" = none) (mr : mg "range" = none) :
    FnOk P w K mg base CX0 2 f fd ["_law_draws_here"] (spPool pd) := by
  have GN : FnOk P w K mg base CX0 1 fN fdN ["_law_draws_here", "_law_many"] spNext := ok_next FN ml mi
  have bN : Binds K fdN ["_law_draws_here", "_law_many"] [] := FN.bindsN fun _ _ _ _ _ _ us hl => match us, hl with | [_, _], _ => rfl
  refine F.ok scPool (fun vs H Q E h => ?_) (fun cdv A outer s H vs Q E hr h => ?_)
  · obtain ⟨rfl, _⟩ := h
    rfl
  · obtain ⟨rfl, d0, q⟩ := h
    refine ⟨_, PSs.nox (pss_cons (ps_set (i := 1) scPool.nd rfl (.inl rfl) (pe_lst pa_nil))
      (pss_cons (ps_for PassesOwn.never rfl (pi_range1 rfl mr (pa_cons pe_int pa_nil)) (pg_name (i := 2) scPool.nd rfl (.inl rfl))
        (pss_cons (ps_set (i := 3) scPool.nd rfl (.inl rfl) pe_str)
        (pss_cons (ps_for PassesOwn.never rfl (pi_range1 rfl mr (pa_cons (pe_call GN hr (by rfl) gN FN.kp bN .nil pass0 (pa_cons (pv 0) (pa_cons pe_int pa_nil))) pa_nil)) (pg_name (i := 4) scPool.nd rfl (.inl rfl))
          (pss_one (ps_set (i := 3) scPool.nd rfl (.inl rfl) (pe_op op_add_str (pv 3) (pe_ix ix_str pe_str (pe_call GN hr (by rfl) gN FN.kp bN .nil pass0 (pa_cons (pv 0) (pa_cons pe_int pa_nil))) (fun _ _ => rfl))))))
        (pss_one (ps_expr (pe_bm PySem.F.plainAttrs_list PySem.F.slot_list_append PySem.F.type_list_append mt_append (pv 1) (pa_cons (pv 3) pa_nil)))))))
      (imp (t' := fun Dn σ H2 => ∃ (p1 : Addr) (ss : List Str) (y2 y3 y4 : Option V), σ = [some (.ref pd), some (.ref p1), y2, y3, y4, none, none, none, none, none, none] ∧ Dr H H2 pd ∧ p1 ≠ pd ∧ H2 p1 = some (.lst (ss.map V.str)) ∧ ss.length = 3 ∧ (∀ s ∈ ss, StOk s 7) ∧ Dn.rt = Q)
      (pss_cons (ps_set (i := 5) scPool.nd rfl (.inl rfl) (pe_call GN hr (by rfl) gN FN.kp bN .nil pass0 (pa_cons (pv 0) (pa_cons pe_int pa_nil))))
      (pss_cons (ps_set (i := 6) scPool.nd rfl (.inl rfl) (pe_lst pa_nil))
      (pss_cons (ps_for PassesOwn.never rfl (pi_range1 rfl mr (pa_cons pe_int pa_nil)) (pg_name (i := 7) scPool.nd rfl (.inl rfl))
        (pss_cons (ps_set (i := 8) scPool.nd rfl (.inl rfl) (pe_op op_mod (pe_callTy call_int1 (by rfl) mi (by decide +kernel) (pa_cons (pe_op op_add (pv 5) (pe_op op_mul pe_int (pv 7))) pa_nil)) pe_int))
        (pss_cons (ps_set (i := 3) scPool.nd rfl (.inl rfl) (pe_ix ix_list (pv 1) (pe_op op_mod (pv 7) pe_int) (fun _ _ => rfl)))
        (pss_cons (ps_if (PW.pt (pw_and (pt_cmpR op_gt (pv 8) pe_int (nomark _)) (pw_and1 (pt_cmpR op_eq (pv 3) pe_str (nomark _))))) (pss_one (ps_set (i := 3) scPool.nd rfl (.inl rfl) pe_str)) pss_nil)
        (imp (t' := fun Dn σ H2 => ∃ (x0 x1 x2 x4 x5 x7 y9 y10 : Option V) (st : Str) (sg : Int) (p6 : Addr) (ns : List Str), σ = [x0, x1, x2, some (.str st), x4, x5, some (.ref p6), x7, some (.int sg), y9, y10] ∧ (∃ k : Int, x7 = some (.int k)) ∧ StOk st 7 ∧ 0 ≤ sg ∧ sg < 28 ∧ (17 < sg → st ≠ "") ∧ H2 p6 = some (.lst (ns.map V.str)) ∧ ns.length < 100 ∧
            ∀ n H3 y9 y10, Pn sg n → Same H2 H3 → Dn.nx [x0, x1, x2, some (.str st), x4, x5, some (.ref p6), x7, some (.int sg), y9, y10] (upd H3 p6 (.lst ((ns ++ [n]).map V.str))))
        (pss_cons (ps_set (i := 9) scPool.nd rfl (.inl rfl) (pe_op op_modN (pe_callTy call_int1 (by rfl) mi (by decide +kernel) (pa_cons (pe_op op_add (pe_op op_fdiv (pv 7) pe_int) (pe_callB call_len_str (by rfl) ml PySem.boot_len (pa_cons (pv 3) pa_nil))) pa_nil)) (pe_op op_add (pe_callB call_len_str (by rfl) ml PySem.boot_len (pa_cons (pv 3) pa_nil)) pe_int)))
        (pss_cons (ps_if (PW.pt (pw_and (pt_cmpR op_gt (pv 8) pe_int (nomark _)) (pw_and1 (pt_cmpR op_eq (pv 9) pe_int (nomark _))))) (pss_one (ps_set (i := 9) scPool.nd rfl (.inl rfl) pe_int)) pss_nil)
        (imp (t' := fun Dn σ H2 => ∃ (x0 x1 x2 x4 x5 x7 y10 : Option V) (st : Str) (sg pl : Int) (p6 : Addr) (ns : List Str), σ = [x0, x1, x2, some (.str st), x4, x5, some (.ref p6), x7, some (.int sg), some (.int pl), y10] ∧ StOk st 7 ∧ 0 ≤ sg ∧ sg < 28 ∧ 0 ≤ pl ∧ pl ≤ (st.length : Int) ∧ (17 < sg → 1 ≤ pl) ∧ H2 p6 = some (.lst (ns.map V.str)) ∧ ns.length < 100 ∧
            ∀ n H3 y9 y10, Pn sg n → Same H2 H3 → Dn.nx [x0, x1, x2, some (.str st), x4, x5, some (.ref p6), x7, some (.int sg), y9, y10] (upd H3 p6 (.lst ((ns ++ [n]).map V.str))))
        (pss_cons (ps_set (i := 10) scPool.nd rfl (.inl rfl) (pe_op op_add_str (pe_op op_add_str (pe_slice sl_str (pv 3) po_none (po_some (pv 9))) (pe_ix ix_str pe_str (pv 8) (fun _ _ => rfl))) (pe_slice sl_str (pv 3) (po_some (pv 9)) po_none)))
        (pss_cons (ps_if (pt_cmpR op_in_seq (pv 10) (pe_lst (pa_cs (vs := [V.str "do", V.str "as", V.str "read", V.str "fetch"]) (by rfl))) rfl) (pss_one (ps_set (i := 10) scPool.nd rfl (.inl rfl) (pe_op op_add_str (pv 10) pe_str))) pss_nil)
        (pss_one (ps_expr (pe_bm PySem.F.plainAttrs_list PySem.F.slot_list_append PySem.F.type_list_append mt_append (pv 6) (pa_cons (pv 10) pa_nil))))))
        (fun Dn σ H2 hm => ?name)))) (fun Dn σ H2 hm => ?body))))))
      (pss_one (ps_ret (pv 6)))))) (fun Dn σ H2 hm => ?rest)))), ?_⟩
    case body =>
      obtain ⟨x0, x1, x2, x4, x5, x7, y9, y10, st, sg, p6, ns, rfl, ⟨k, rfl⟩, hst, g0, g1, ge, h6, hn, nx⟩ := hm
      have lst := hst.1
      have hz : st.length ≤ sizeLine := by rw [sizeLine_eq]; omega
      refine ⟨.int k, rfl, k, 3, rfl, rfl, ⟨by decide, by decide⟩, .str st, rfl, st, rfl, hz, _, _, rfl, rfl, .inl ⟨_, rfl, .str st, rfl, st, rfl, hz, _, _, rfl, rfl, _, _, rfl, rfl, by omega, ?_⟩⟩
      have q0 : ∀ m : Int, 0 ≤ m.fmod ((st.length : Int) + 1) := fun m => by
        rw [Int.fmod_eq_emod_of_nonneg _ (by omega)]
        exact Int.emod_nonneg _ (by omega)
      have q1 : ∀ m : Int, m.fmod ((st.length : Int) + 1) ≤ (st.length : Int) := fun m => by
        rw [Int.fmod_eq_emod_of_nonneg _ (by omega)]
        have := Int.emod_lt_of_pos m (show 0 < (st.length : Int) + 1 by omega)
        omega
      have sl : st ≠ "" → 1 ≤ (st.length : Int) := fun h => by
        have : st.length ≠ 0 := fun z => h (by
          obtain ⟨c⟩ := st
          have z : c.size = 0 := z
          have : c = #[] := Array.eq_empty_of_size_eq_zero z
          rw [this]
          rfl)
        omega
      refine ⟨.int sg, rfl, _, _, rfl, rfl, _, rfl, ite2 (fun h1 => ?_) (fun h1 => iteF ⟨x0, x1, x2, x4, x5, _, y10, st, sg, _, p6, ns, rfl, hst, g0, g1, q0 _, q1 _, fun h => absurd (decide_eq_true (by omega)) h1, h6, hn, nx⟩)⟩
      have h1 := of_decide_eq_true h1
      exact ⟨_, rfl, rfl, _, rfl, ite2 (fun h2 => ⟨x0, x1, x2, x4, x5, _, y10, st, sg, 1, p6, ns, rfl, hst, g0, g1, by omega, sl (ge (by omega)), fun _ => Int.le_refl _, h6, hn, nx⟩) (fun h2 => ⟨x0, x1, x2, x4, x5, _, y10, st, sg, _, p6, ns, rfl, hst, g0, g1, q0 _, q1 _, fun _ => npos (q0 _) h2, h6, hn, nx⟩)⟩
    case name =>
      obtain ⟨x0, x1, x2, x4, x5, x7, y10, st, sg, pl, p6, ns, rfl, hst, g0, g1, p0, p1, p2, h6, hn, nx⟩ := hm
      have lst := hst.1
      have hz : st.length ≤ sizeLine := by rw [sizeLine_eq]; omega
      obtain ⟨c, hc⟩ := at_cp (z := sgl) (n := 28) g0 g1 (by decide +kernel)
      obtain ⟨l2, key⟩ := pn_key hst g0 g1 hc p0 p1 p2
      have l20 := l2
      rw [strLen_append] at l20
      refine ⟨.str st, rfl, .int pl, rfl, pl, rfl, st, rfl, hz, .int sg, rfl, sgl, sg, c, rfl, rfl, by decide +kernel, hc, _, _, rfl, rfl, by rw [← strLen_append, sizeLine_eq]; omega, .str st, rfl, .int pl, rfl, pl, rfl, st, rfl, hz, _, _, rfl, rfl, by rw [← strLen_append, sizeLine_eq]; omega, ?_⟩
      generalize cutS st none (some pl) ++ ⟨#[c]⟩ ++ cutS st (some pl) none = nm at l2 key
      refine ⟨.str nm, rfl, by show 4 ≤ sizeLine; decide, fun q nq => ?_⟩
      have k1 : Same H2 (upd H2 q (.lst [V.str "do", V.str "as", V.str "read", V.str "fetch"])) := same_upd nq
      refine ⟨q, _, rfl, .inl (SqL.of upd_same), rfl, rfl, _, rfl, ?_⟩
      generalize upd H2 q (.lst [V.str "do", V.str "as", V.str "read", V.str "fetch"]) = G at k1
      show if inV (V.str nm) ([("do" : Str), "as", "read", "fetch"].map V.str) = true then _ else _
      rw [inV_mem]
      have fin : ∀ n, Pn sg n → _ := fun n pn => nx n G (some (.int pl)) (some (.str n)) pn k1
      have sn : ∀ n : Str, ns.map V.str ++ [V.str n] = (ns ++ [n]).map V.str := fun n => by rw [List.map_append]; rfl
      refine ite2 (fun h1 => ?_) (fun h1 => ?_)
      · have h1 := of_decide_eq_true h1
        rw [if_pos h1] at key
        have e0 : ("0" : Str).length = 1 := by decide +kernel
        refine ⟨.str nm, rfl, nm, "0", rfl, rfl, ?_, .ref p6, rfl, .inl ⟨rfl, _, SqL.of (k1 _ _ h6)⟩, .str (nm ++ "0"), rfl, p6, _, _, rfl, rfl, k1 _ _ h6, small1000 (by rw [List.length_map]; omega), ?_⟩
        · rw [e0, sizeLine_eq]
          omega
        · rw [sn]
          exact fin _ key
      · have h1 : nm ∉ [("do" : Str), "as", "read", "fetch"] := fun z => h1 (decide_eq_true z)
        rw [if_neg h1] at key
        refine ⟨.ref p6, rfl, .inl ⟨rfl, _, SqL.of (k1 _ _ h6)⟩, .str nm, rfl, p6, _, _, rfl, rfl, k1 _ _ h6, small1000 (by rw [List.length_map]; omega), ?_⟩
        rw [sn]
        exact fin _ key
    case rest =>
      obtain ⟨p1, ss, y2, y3, y4, rfl, dr, m1, h1, hs3, hok, eQ⟩ := hm
      obtain ⟨zs, hzs⟩ := dr.dr
      refine ⟨.ref pd, rfl, pd, zs, 28, rfl, hzs, by decide, fun first ys f0 f1 _ => ⟨Nat.zero_le _, fun p6 n6 => ?_⟩⟩
      have dr1 := dr.draw ys
      have h1' : upd H2 pd (.lst (ys.map V.int)) p1 = some (.lst (ss.map V.str)) := by rw [upd_ne m1]; exact h1
      generalize upd H2 pd (.lst (ys.map V.int)) = G at dr1 h1' n6
      have m6 : p6 ≠ pd := dr1.ne n6
      have n60 : H p6 = none := by
        cases e : H p6 with
        | none => rfl
        | some o =>
          rw [dr1.but p6 o e m6] at n6
          cases n6
      have m16 : p1 ≠ p6 := ne_of_none h1' n6
      refine ⟨28, rfl, by decide, by decide, for_range (n := 28) (fun i σ H5 => ∃ (y2 y3 y4 y7 y8 y9 y10 : Option V) (ns : List Str), σ = [some (.ref pd), some (.ref p1), y2, y3, y4, some (.int first), some (.ref p6), y7, y8, y9, y10] ∧ Dr H H5 pd ∧ H5 p1 = some (.lst (ss.map V.str)) ∧ H5 p6 = some (.lst (ns.map V.str)) ∧ ns.map fo = (List.range i).map (sgAt first) ∧ ∀ n ∈ ns, isName n = true)
        ⟨y2, y3, y4, none, none, none, none, [], rfl, dr1.new n6, by rw [upd_ne m16]; exact h1', upd_same, rfl, fun n hn => by cases hn⟩ ?_ ?_⟩
      · rintro k σ H5 hk ⟨z2, z3, z4, z7, z8, z9, z10, ns, rfl, dr5, e1, e6, hn, hp⟩
        obtain ⟨st0, hst0, hm0⟩ := at_in (xs := ss.map V.str) (r := ((0 : Int) + ((k : Nat) : Int)) % 3) (n := 3) (by omega) (by omega) (by rw [List.length_map, hs3]; exact Nat.le_refl _)
        obtain ⟨st, hst, rfl⟩ := List.mem_map.mp hm0
        have ok := hok st hst
        have h28 : (0 : Int) < 28 := by decide
        have hn0 : ns.length = k := by rw [← List.length_map (f := fo), hn, List.length_map, List.length_range]
        have fin : ∀ (w3 : Str), StOk w3 7 → (17 < (first + 5 * (0 + ((k : Nat) : Int))) % 28 → w3 ≠ "") → ∃ (x0 x1 x2 x4 x5 x7 y9 y10 : Option V) (st : Str) (sg : Int) (p6' : Addr) (ns : List Str), [some (V.ref pd), some (V.ref p1), z2, some (.str w3), z4, some (.int first), some (.ref p6), some (.int (0 + ((k : Nat) : Int))), some (.int ((first + 5 * (0 + ((k : Nat) : Int))) % 28)), z9, z10] = [x0, x1, x2, some (.str st), x4, x5, some (.ref p6'), x7, some (.int sg), y9, y10] ∧ (∃ k : Int, x7 = some (.int k)) ∧ StOk st 7 ∧ 0 ≤ sg ∧ sg < 28 ∧ (17 < sg → st ≠ "") ∧ H5 p6' = some (.lst (ns.map V.str)) ∧ ns.length < 100 ∧
            ∀ n H3 y9 y10, Pn sg n → Same H5 H3 → (fun σ H5 => ∃ (y2 y3 y4 y7 y8 y9 y10 : Option V) (ns : List Str), σ = [some (.ref pd), some (.ref p1), y2, y3, y4, some (.int first), some (.ref p6), y7, y8, y9, y10] ∧ Dr H H5 pd ∧ H5 p1 = some (.lst (ss.map V.str)) ∧ H5 p6 = some (.lst (ns.map V.str)) ∧ ns.map fo = (List.range (k + 1)).map (sgAt first) ∧ ∀ n ∈ ns, isName n = true) [x0, x1, x2, some (.str st), x4, x5, some (.ref p6'), x7, some (.int sg), y9, y10] (upd H3 p6' (.lst ((ns ++ [n]).map V.str))) := fun w3 o3 w4 =>
          ⟨_, _, _, _, _, _, _, _, w3, _, p6, ns, rfl, ⟨_, rfl⟩, o3, Int.emod_nonneg _ (by decide), Int.emod_lt_of_pos _ h28, w4, e6, by omega, fun n H3 y9 y10 pn s3 => ⟨_, _, _, _, _, _, _, ns ++ [n], rfl, ⟨fun b o e nb => ?_, ?_⟩, ?_, upd_same, by rw [List.map_append, hn, List.range_succ, List.map_append]; show _ ++ [fo n] = _; rw [pn.fo]; rfl, fun m hm => ?_⟩⟩
        · refine ⟨.int first, rfl, .int (0 + ((k : Nat) : Int)), rfl, 5, _, rfl, rfl, .inl ⟨by decide, by decide⟩, _, _, rfl, rfl, .inl ⟨_, rfl, _, 28, rfl, rfl, h28, ?_⟩⟩
          refine ⟨.ref p1, rfl, .int (0 + ((k : Nat) : Int)), rfl, _, 3, rfl, rfl, by show (0 : Int) < 3; decide, p1, _, _, .str st, rfl, rfl, SqL.of e1, hst0, ?_⟩
          refine ⟨_, rfl, _, 17, rfl, rfl, _, rfl, ite2 (fun _ => ?_) (fun g => iteF (fin st ok fun h => absurd (decide_eq_true h) g))⟩
          exact ⟨.str st, rfl, rfl, _, rfl, ite2 (fun _ => fin "a" ⟨by decide +kernel, by decide +kernel⟩ (fun _ => by decide +kernel)) (fun g => fin st ok fun _ e => g (by rw [e]; rfl))⟩
        · have nb6 : b ≠ p6 := ne_of_none e n60
          rw [upd_ne nb6]
          exact s3 _ _ (dr5.but b o e nb)
        · obtain ⟨ys, hy⟩ := dr5.dr
          exact ⟨ys, by rw [upd_ne m6.symm]; exact s3 _ _ hy⟩
        · rw [upd_ne m16]
          exact s3 _ _ e1
        · rcases List.mem_append.mp hm with hm | hm
          · exact hp m hm
          · rw [List.mem_singleton.mp hm]
            exact pn.nm
      · rintro σ H5 ⟨z2, z3, z4, z7, z8, z9, z10, ns, rfl, dr5, e1, e6, hn, hp⟩
        exact ⟨.ref p6, rfl, by rw [eQ]; exact q H5 p6 ns dr5 m6 e6 (pool_of f0 f1 hn hp) ⟩
    · refine ⟨Nat.zero_le _, fun p1 n1 => ?_⟩
      have m1 : p1 ≠ pd := d0.ne n1
      refine ⟨3, rfl, by decide, by decide, for_range (n := 3) (fun i σ H5 => ∃ (y2 y3 y4 : Option V) (ss : List Str), σ = [some (.ref pd), some (.ref p1), y2, y3, y4, none, none, none, none, none, none] ∧ Dr H H5 pd ∧ H5 p1 = some (.lst (ss.map V.str)) ∧ ss.length = i ∧ ∀ s ∈ ss, StOk s 7)
        ⟨none, none, none, [], rfl, d0.new n1, upd_same, rfl, fun s hs => by cases hs⟩ ?_ ?_⟩
      · rintro i σ H5 hi ⟨y2, y3, y4, ss, rfl, dr5, e1, hn, ok⟩
        obtain ⟨zs, hzs⟩ := dr5.dr
        refine ⟨.ref pd, rfl, pd, zs, 8, rfl, hzs, by decide, fun r ys r0 r1 _ => ?_⟩
        obtain ⟨m, rfl⟩ := Int.eq_ofNat_of_zero_le r0
        have dr6 := dr5.draw ys
        have e6 : upd H5 pd (.lst (ys.map V.int)) p1 = some (.lst (ss.map V.str)) := by rw [upd_ne m1]; exact e1
        generalize upd H5 pd (.lst (ys.map V.int)) = G at dr6 e6
        refine ⟨(m : Int), rfl, by omega, by omega, for_range (n := m) (fun j σ H7 => ∃ (st : Str) (z4 : Option V), σ = [some (.ref pd), some (.ref p1), some (.int (0 + ((i : Nat) : Int))), some (.str st), z4, none, none, none, none, none, none] ∧ Dr H H7 pd ∧ H7 p1 = some (.lst (ss.map V.str)) ∧ StOk st j) ⟨"", y4, rfl, dr6, e6, by decide +kernel, by decide +kernel⟩ ?_ ?_⟩
        · rintro j σ H7 hj ⟨st, z4, rfl, dr7, e7, oj⟩
          obtain ⟨zs7, hzs7⟩ := dr7.dr
          refine ⟨.str st, rfl, .ref pd, rfl, pd, zs7, 8, rfl, hzs7, by decide, fun t ys7 t0 t1 _ => ?_⟩
          obtain ⟨c, hc⟩ := at_cp (z := ("abcdefgh" : Str)) (n := 8) t0 t1 (by decide +kernel)
          have o1 := oj.app (StOk.sign (z := ("abcdefgh" : Str)) (by decide +kernel) hc)
          have l1 := o1.1
          rw [strLen_append] at l1
          refine ⟨"abcdefgh", t, c, rfl, rfl, by decide +kernel, hc, st, _, rfl, rfl, by rw [sizeLine_eq]; omega, ?_⟩
          exact ⟨_, _, rfl, dr7.draw ys7, by rw [upd_ne m1]; exact e7, o1⟩
        · rintro σ H7 ⟨st, z4, rfl, dr7, e7, oj⟩
          refine ⟨.ref p1, rfl, .inl ⟨rfl, _, SqL.of e7⟩, .str st, rfl, p1, _, _, rfl, rfl, e7, small1000 (by rw [List.length_map]; omega), ?_⟩
          have dx := dr7.dr
          refine ⟨_, _, _, ss ++ [st], rfl, ⟨fun b o e nb => ?_, ?_⟩, ?_, by rw [List.length_append, hn]; rfl, fun s hs => ?_⟩
          · rw [upd_ne (ne_of_none e n1)]
            exact dr7.but b o e nb
          · obtain ⟨ys, hy⟩ := dx
            exact ⟨ys, by rw [upd_ne m1.symm]; exact hy⟩
          · rw [upd_same, List.map_append]
            rfl
          · rcases List.mem_append.mp hs with hs | hs
            · exact ok s hs
            · rw [List.mem_singleton.mp hs]
              exact ⟨by have := oj.1; omega, oj.2⟩
      · rintro σ H5 ⟨y2, y3, y4, ss, rfl, dr5, e1, hn, ok⟩
        exact ⟨p1, ss, y2, y3, y4, rfl, dr5, m1, e1, hn, ok, rfl⟩
end
end K01
namespace K01
open PySem PySem.Spec PyProof.Rows L2
/-- the pool at pp -/
structure Pl (pd pp : Addr) (H : Hp) (ns : List Str) : Prop where
  at_ : H pp = some (.lst (ns.map V.str))
  ne : pp ≠ pd
  po : Pool ns
theorem Pl.up {pd pp : Addr} {H H' : Hp} {ns : List Str} (l : Pl pd pp H ns) (d : Dr H H' pd) : Pl pd pp H' ns := ⟨d.but _ _ l.at_ l.ne, l.ne, l.po⟩
theorem Pl.getN {pd pp : Addr} {H : Hp} {ns : List Str} (l : Pl pd pp H ns) {j : Nat} (h : j < 28) : ∃ n, ns[j]? = some n ∧ atI (ns.map V.str) (j : Int) = some (.str n) ∧ isName n = true := by
  have h1 : j < ns.length := by rw [l.po.len]; exact h
  refine ⟨ns[j], List.getElem?_eq_getElem h1, atI_nat (by rw [List.getElem?_map, List.getElem?_eq_getElem h1]; rfl), l.po.nm _ (List.getElem_mem h1)⟩
theorem Pl.get {pd pp : Addr} {H : Hp} {ns : List Str} (l : Pl pd pp H ns) {r : Int} (h0 : 0 ≤ r) (h1 : r < 28) : ∃ n, ns[r.toNat]? = some n ∧ atI (ns.map V.str) r = some (.str n) ∧ isName n = true := by
  have z := l.getN (j := r.toNat) (by omega)
  have e : ((r.toNat : Nat) : Int) = r := by omega
  rw [e] at z
  exact z
/-! data without lists -/
mutual
def noL : D → Bool
  | .list _ => false
  | .dict _ => false
  | .tuple ds => noLA ds
  | _ => true
def noLA : List D → Bool
  | [] => true
  | d :: ds => noL d && noLA ds
end
theorem noLA_all : ∀ {ds : List D}, (∀ d ∈ ds, noL d = true) → noLA ds = true
  | [], _ => by rw [noLA]
  | d :: ds, h => by
    rw [noLA, h d List.mem_cons_self, noLA_all fun e he => h e (List.mem_cons_of_mem _ he)]
    rfl
mutual
theorem Vr.upN {pd : Addr} {H H' : Hp} (k : ∀ b xs, H b = some (.tup xs) → H' b = some (.tup xs)) : ∀ (d : D) {v : V}, noL d = true → Vr pd H v d → Vr pd H' v d
  | .none, _, _, h => by cases h; exact .no
  | .bool b, _, _, h => by cases h; exact .bo b
  | .int i, _, _, h => by cases h; exact .num i
  | .str x, _, _, h => by cases h; exact .txt x
  | .list ds, _, n, h => by rw [noL] at n; cases n
  | .tuple ds, _, n, h => by
    rw [noL] at n
    cases h with
    | tu h1 h2 h3 => exact .tu (k _ _ h1) h2 (VrA.upN k ds n h3)
  | .dict _, _, _, h => by cases h
theorem VrA.upN {pd : Addr} {H H' : Hp} (k : ∀ b xs, H b = some (.tup xs) → H' b = some (.tup xs)) : ∀ (ds : List D) {vs : List V}, noLA ds = true → VrA pd H vs ds → VrA pd H' vs ds
  | [], _, _, h => by cases h; exact .nil
  | d :: ds, _, n, h => by
    rw [noLA, Bool.and_eq_true] at n
    cases h with
    | cons h1 h2 => exact .cons (Vr.upN k d n.1 h1) (VrA.upN k ds n.2 h2)
end
theorem noL_str (s : Str) : noL (.str s) = true := by rw [noL] <;> simp
theorem noL_tup {ds : List D} (h : ∀ d ∈ ds, noL d = true) : noL (.tuple ds) = true := by
  rw [noL]
  exact noLA_all h
/-- a drawn lock -/
def LkD (ns : List Str) (d : D) : Prop := (∃ j s, j < 7 ∧ ns[j]? = some s ∧ d = .str s) ∨ (nmD d = false ∧ LiS d ∧ SeqAt.shaped d = true ∧ noL d = true)
abbrev sLock : Stmt := top 25
theorem scLock : FnScope ["_law_draws_here", "_law_pool_here", "_law_at"] ["_law_draws_here", "_law_pool_here", "_law_at"] (defScope sLock) := ⟨rfl, rfl, rfl, by decide +kernel, rfl, by decide +kernel, by decide +kernel⟩
theorem at_cases8 {a b c d e f g h v : V} {r : Int} (h0 : 0 ≤ r) (h1 : r < 8) (hv : atI [a, b, c, d, e, f, g, h] r = some v) : v = a ∨ v = b ∨ v = c ∨ v = d ∨ v = e ∨ v = f ∨ v = g ∨ v = h := by
  obtain ⟨u, hu, hm⟩ := at_in (xs := [a, b, c, d, e, f, g, h]) (n := 8) h0 h1 (Nat.le_refl _)
  rw [hv] at hu
  injection hu with hu
  subst hu
  simpa using hm
theorem sh_str {s : Str} (h : PyData.strOk s = true) : SeqAt.shaped (.str s) = true := by
  unfold SeqAt.shaped
  rw [PyData.canLay0, h]
  rfl
section
variable {P : Program} {w : World} {K : PySem.W.Frag} {mg : Str → Option Value} {base : Heap} {aR pd pp : Addr}
def spLock (pd pp : Addr) : Sp := fun vs H Q _ => ∃ (ns : List Str) (at_ : Nat), vs = [.ref pd, .ref pp, .int at_] ∧ Dr H H pd ∧ Pl pd pp H ns ∧ at_ < 7 ∧ ∀ (H' : Hp) (v : V) (d : D), Dr H H' pd → Vr pd H' v d → LkD ns d → Q v H'
theorem ok_lock {f fN : Addr} {fd fdN : FuncData} (F : FnP K "_law_lock" sLock f fd) (FN : FnP K "_law_next" sNext fN fdN) (gN : mg "_law_next" = some (.ref fN)) (ml : mg "len" = none) (mi : mg "int" = none) :
    FnOk P w K mg base CX0 2 f fd ["_law_draws_here", "_law_pool_here", "_law_at"] (spLock pd pp) := by
  have GN : FnOk P w K mg base CX0 1 fN fdN ["_law_draws_here", "_law_many"] spNext := ok_next FN ml mi
  have bN : Binds K fdN ["_law_draws_here", "_law_many"] [] := FN.bindsN fun _ _ _ _ _ _ us hl => match us, hl with | [_, _], _ => rfl
  refine F.ok scLock (fun vs H Q E h => ?_) (fun cdv A outer s H vs Q E hr h => ?_)
  · obtain ⟨ns, j, rfl, _⟩ := h
    rfl
  · obtain ⟨ns, j, rfl, d0, pl, hj, q⟩ := h
    refine ⟨_, PSs.nox (pss_cons (ps_if (pt_cmpR op_lt (pe_call GN hr (by rfl) gN FN.kp bN .nil pass0 (pa_cons (pv 0) (pa_cons pe_int pa_nil))) pe_int (nomark _)) (pss_one (ps_ret (pe_ix ix_list (pv 1) (pv 2) (fun _ _ => rfl)))) pss_nil)
      (pss_one (ps_ret (pe_ix ix_list (pe_lst (pa_cons (pe_ix ix_list (pv 1) pe_int (fun _ _ => rfl)) (pa_cons pe_str (pa_cons pe_str (pa_cons pe_int (pa_cons pe_non (pa_cons pe_str (pa_cons (pe_tup (pa_cons (pe_ix ix_list (pv 1) (pv 2) (fun _ _ => rfl)) pa_nil)) (pa_cons (pe_ix ix_list (pv 1) pe_int (fun _ _ => rfl)) pa_nil))))))))) (pe_call GN hr (by rfl) gN FN.kp bN .nil pass0 (pa_cons (pv 0) (pa_cons pe_int pa_nil))) (fun _ _ => rfl))))), ?_⟩
    obtain ⟨nj, ej, aj, kj⟩ := pl.getN (j := j) (by omega)
    obtain ⟨n0, e0, a0, k0⟩ := pl.getN (j := 0) (by omega)
    obtain ⟨n1, e1, a1, k1⟩ := pl.getN (j := 1) (by omega)
    obtain ⟨zs, hzs⟩ := d0.dr
    refine ⟨.ref pd, rfl, pd, zs, 8, rfl, hzs, by decide, fun r ys r0 r1 _ => ?_⟩
    have dr1 := d0.draw ys
    generalize upd H pd (.lst (ys.map V.int)) = G at dr1
    have plG := pl.up dr1
    refine ⟨_, _, rfl, rfl, _, rfl, ite2 (fun h1 => ?_) (fun h1 => ?_)⟩
    · exact ⟨.ref pp, rfl, .int j, rfl, pp, _, j, .str nj, rfl, rfl, SqL.of plG.at_, aj, q G (.str nj) (.str nj) dr1 (.txt _) (.inl ⟨j, nj, hj, ej, rfl⟩)⟩
    · refine ⟨.ref pp, rfl, pp, _, 0, .str n0, rfl, rfl, SqL.of plG.at_, a0, .ref pp, rfl, .int j, rfl, pp, _, j, .str nj, rfl, rfl, SqL.of plG.at_, aj, by show 1 ≤ sizeLine; decide, fun T nT => ?_⟩
      have mT := dr1.ne nT
      have dr2 := dr1.new (o := .tup [V.str nj]) nT
      have eT : upd G T (.tup [V.str nj]) T = some (.tup [V.str nj]) := upd_same
      generalize upd G T (.tup [V.str nj]) = G2 at dr2 eT
      have pl2 := pl.up dr2
      refine ⟨.ref pp, rfl, pp, _, 1, .str n1, rfl, rfl, SqL.of pl2.at_, a1, by show 8 ≤ sizeLine; decide, fun L nL => ?_⟩
      have mL := dr2.ne nL
      have dr3 := dr2.new (o := .lst [V.str n0, .str "", .str "Lock", .int 5, .non, .str "lock", .ref T, .str n1]) nL
      have eL : upd G2 L (.lst [V.str n0, .str "", .str "Lock", .int 5, .non, .str "lock", .ref T, .str n1]) L = some (.lst [V.str n0, .str "", .str "Lock", .int 5, .non, .str "lock", .ref T, .str n1]) := upd_same
      have eT3 := (same_upd (o := .lst [V.str n0, .str "", .str "Lock", .int 5, .non, .str "lock", .ref T, .str n1]) nL) _ _ eT
      generalize upd G2 L (.lst [V.str n0, .str "", .str "Lock", .int 5, .non, .str "lock", .ref T, .str n1]) = G3 at dr3 eL eT3
      obtain ⟨zs3, hzs3⟩ := dr3.dr
      refine ⟨.ref pd, rfl, pd, zs3, 8, rfl, hzs3, by decide, fun r ys r0 r1 _ => ?_⟩
      have dr4 := dr3.draw ys
      have up : ∀ b ob, G3 b = some ob → b ≠ pd → upd G3 pd (.lst (ys.map V.int)) b = some ob := fun b ob e ne => by rw [upd_ne ne]; exact e
      have eL4 := up _ _ eL mL
      have eT4 := up _ _ eT3 mT
      generalize upd G3 pd (.lst (ys.map V.int)) = G4 at dr4 eL4 eT4
      obtain ⟨v, hv, _⟩ := at_in (xs := [V.str n0, .str "", .str "Lock", .int 5, .non, .str "lock", .ref T, .str n1]) (n := 8) r0 r1 (Nat.le_refl _)
      refine ⟨L, _, r, v, rfl, rfl, SqL.of eL4, hv, ?_⟩
      have big : ∀ s : Str, s.length ≤ 4 → PyData.strOk s = true → isName s = false → LkD ns (.str s) := fun s h1 h2 h3 => .inr ⟨h3, fun t e => by injection e with e; rw [← e]; omega, sh_str h2, by rw [noL] <;> simp⟩
      rcases at_cases8 r0 r1 hv with rfl | rfl | rfl | rfl | rfl | rfl | rfl | rfl
      · exact q G4 _ _ dr4 (.txt _) (.inl ⟨0, n0, by decide, e0, rfl⟩)
      · exact q G4 _ _ dr4 (.txt _) (big "" (by decide +kernel) (by decide +kernel) (by decide +kernel))
      · exact q G4 _ _ dr4 (.txt _) (big "Lock" (by decide +kernel) (by decide +kernel) (by decide +kernel))
      · exact q G4 _ _ dr4 (.num _) (.inr ⟨rfl, fun t e => (by cases e), by decide +kernel, by decide +kernel⟩)
      · exact q G4 _ _ dr4 .no (.inr ⟨rfl, fun t e => (by cases e), by decide +kernel, by decide +kernel⟩)
      · exact q G4 _ _ dr4 (.txt _) (big "lock" (by decide +kernel) (by decide +kernel) (by decide +kernel))
      · exact q G4 _ _ dr4 (.tu eT4 mT (.cons (.txt _) .nil)) (.inr ⟨rfl, fun t e => (by cases e), sh_tup (lay_strs (ws := [nj]) fun w hw => by rw [List.mem_singleton.mp hw]; exact nm_ok kj) (by have := depth_strs [nj]; simp only [List.map_cons, List.map_nil] at this; omega), noL_tup fun e he => by rw [List.mem_singleton.mp he]; exact noL_str _⟩)
      · exact q G4 _ _ dr4 (.txt _) (.inl ⟨1, n1, by decide, e1, rfl⟩)
end
end K01
namespace K01
open PySem PySem.Spec PyProof.Rows L2
/-- a part of a drawn row -/
structure EltD (ns : List Str) (e : D) : Prop where
  nm : nmD e = true → toStr e ∈ ns
  li : LiS e
  sh : SeqAt.shaped e = true
  nl : noL e = true
structure RwD (ns : List Str) (d : D) : Prop where
  el : ∀ ds, d = .tuple ds → ds.length ≤ 8 ∧ ∀ e ∈ ds, EltD ns e
  kd : isDescr d = true → ∃ j, j < 13 ∧ ns[j]? = some (rowOf d).k
theorem EltD.str {ns : List Str} {s : Str} {j : Nat} (h : isName s = true) (hj : ns[j]? = some s) : EltD ns (.str s) :=
  ⟨fun _ => List.mem_of_getElem? hj, fun t e => by injection e with e; rw [← e]; have := nm_len h; omega, sh_str (nm_ok h), noL_str _⟩
theorem EltD.bad {ns : List Str} {e : D} (h : nmD e = false) (l : LiS e) (s : SeqAt.shaped e = true) (n : noL e = true) : EltD ns e := ⟨fun z => (by rw [h] at z; cases z), l, s, n⟩
theorem EltD.no {ns : List Str} : EltD ns .none := .bad rfl (fun t e => (by cases e)) (by decide +kernel) (by decide +kernel)
theorem LkD.elt {ns : List Str} (po : Pool ns) {d : D} (h : LkD ns d) : EltD ns d := by
  rcases h with ⟨j, s, _, hj, rfl⟩ | ⟨h1, h2, h3, h4⟩
  · exact .str (po.nm _ (List.mem_of_getElem? hj)) hj
  · exact .bad h1 h2 h3 h4
theorem RwD.tup {ns : List Str} {s : Str} {j : Nat} {r : List D} (h1 : isName s = true) (hj : ns[j]? = some s) (h13 : j < 13) (hr : ∀ e ∈ r, EltD ns e) (hl : r.length ≤ 7) : RwD ns (.tuple (.str s :: r)) := by
  refine ⟨fun ds e => ?_, fun hd => ?_⟩
  · injection e with e
    subst e
    refine ⟨by rw [List.length_cons]; omega, fun e he => ?_⟩
    rcases List.mem_cons.mp he with rfl | he
    · exact .str h1 hj
    · exact hr e he
  · match r, hd with
    | _ :: _, _ => exact ⟨j, h13, hj⟩
theorem RwD.non {ns : List Str} {d : D} (h : isTup d = false) : RwD ns d := by
  refine ⟨fun ds e => ?_, fun hd => ?_⟩
  · rw [e] at h
    cases h
  · cases d <;> first | cases hd | cases h
/-- no list, or a list made since H, of no lists -/
def FrV (H : Hp) (v : V) (d : D) : Prop := noL d = true ∨ ∃ a ds, v = .ref a ∧ H a = none ∧ d = .list ds ∧ noLA ds = true
theorem RwD.fr {ns : List Str} {H : Hp} {v : V} {ds : List D} (h : RwD ns (.tuple ds)) : FrV H v (.tuple ds) := .inl (noL_tup fun e he => ((h.el ds rfl).2 e he).nl)
abbrev sDes : Stmt := top 26
theorem scDes : FnScope ["_law_draws_here", "_law_pool_here", "_law_locks", "_law_at", "_law_act", "_law_lock_here", "_law_place", "_law_first", "_law_row", "_law_second"] ["_law_draws_here", "_law_pool_here", "_law_locks", "_law_at"] (defScope sDes) := ⟨rfl, rfl, rfl, by decide +kernel, rfl, by decide +kernel, by decide +kernel⟩
/-- the row before a change -/
structure RowS (pd pp pl : Addr) (H0 : Hp) (Dn : Ends) (Q : VK) (σ : L2.St) (H : Hp) (ns : List Str) (act first : Int) (p j8 : Nat) (k : Str) (l : D) (f1 : Str) (fs : List D) : Prop where
  st : ∃ at_ x5 x6 x9, σ = [some (.ref pd), some (.ref pp), some (.ref pl), at_, some (.int act), x5, x6, some (.int first), some (.ref p), x9]
  dr : Dr H0 H pd
  pl : Pl pd pp H ns
  f0 : 0 ≤ first
  f28 : first < 28
  np : p ≠ pd
  hj : ns[j8]? = some k
  j13 : j8 < 13
  hf : ns[first.toNat]? = some f1
  le : EltD ns l
  fk : ∀ e ∈ fs, EltD ns e
  fl : fs.length ≤ 1
  tp : ∃ xs, H p = some (.tup xs) ∧ VrA pd H xs (.str k :: l :: .str f1 :: fs)
  rt : Dn.rt = Q
def tRow (pd pp pl : Addr) (H0 : Hp) (Q : VK) : TS := fun Dn σ H => ∃ ns act first p j8 k l f1 fs, RowS pd pp pl H0 Dn Q σ H ns act first p j8 k l f1 fs ∧ ∀ (H' : Hp) (v : V) (d : D), Dr H0 H' pd → Vr pd H' v d → RwD ns d → FrV H0 v d → Q v H'
section
variable {P : Program} {w : World} {K : PySem.W.Frag} {mg : Str → Option Value} {base : Heap} {aR pd pp pl : Addr}
def spDes (pd pp pl : Addr) : Sp := fun vs H Q _ => ∃ (ns : List Str) (lv : List V) (ld : List D) (at_ : Nat), vs = [.ref pd, .ref pp, .ref pl, .int at_] ∧ Dr H H pd ∧ Pl pd pp H ns ∧ H pl = some (.lst lv) ∧ pl ≠ pd ∧ VrA pd H lv ld ∧ (∀ d ∈ ld, LkD ns d) ∧ at_ < 5 ∧ ∀ (H' : Hp) (v : V) (d : D), Dr H H' pd → Vr pd H' v d → RwD ns d → FrV H v d → Q v H'
theorem ok_des {f fN : Addr} {fd fdN : FuncData} (F : FnP K "_law_description" sDes f fd) (FN : FnP K "_law_next" sNext fN fdN) (gN : mg "_law_next" = some (.ref fN)) (ml : mg "len" = none) (mi : mg "int" = none) (mL : mg "list" = none) :
    FnOk P w K mg base CX0 2 f fd ["_law_draws_here", "_law_pool_here", "_law_locks", "_law_at"] (spDes pd pp pl) := by
  have GN : FnOk P w K mg base CX0 1 fN fdN ["_law_draws_here", "_law_many"] spNext := ok_next FN ml mi
  have bN : Binds K fdN ["_law_draws_here", "_law_many"] [] := FN.bindsN fun _ _ _ _ _ _ us hl => match us, hl with | [_, _], _ => rfl
  refine F.ok scDes (fun vs H Q E h => ?_) (fun cdv A outer s H vs Q E hr h => ?_)
  · obtain ⟨ns, lv, ld, j, rfl, _⟩ := h
    rfl
  · obtain ⟨ns, lv, ld, j, rfl, d0, pl0, el, nl, vl, kl, hj, q⟩ := h
    have sz : ∀ {n : Nat}, n ≤ 1000 → n ≤ sizeLine := fun h => by rw [sizeLine_eq]; omega
    have nS : ∀ {ns : List Str} {i : Nat} {s : Str}, Pool ns → ns[i]? = some s → EltD ns (.str s) := fun po h => .str (po.nm _ (List.mem_of_getElem? h)) h
    refine ⟨_, PSs.nox (pss_cons (ps_set (i := 4) scDes.nd rfl (.inl rfl) (pe_call GN hr (by rfl) gN FN.kp bN .nil pass0 (pa_cons (pv 0) (pa_cons pe_int pa_nil))))
      (pss_cons (ps_set (i := 5) scDes.nd rfl (.inl rfl) pe_non)
      (pss_cons (ps_set (i := 6) scDes.nd rfl (.inl rfl) (pe_call GN hr (by rfl) gN FN.kp bN .nil pass0 (pa_cons (pv 0) (pa_cons pe_int pa_nil))))
      (pss_cons (ps_if (pt_cmpR op_lt (pv 6) (pe_callB call_len_seq (by rfl) ml PySem.boot_len (pa_cons (pv 2) pa_nil)) (nomark _)) (pss_one (ps_set (i := 5) scDes.nd rfl (.inl rfl) (pe_ix ix_list (pv 2) (pv 6) (fun _ _ => rfl)))) pss_nil)
      (imp (t' := fun Dn σ H2 => ∃ (x9 : Option V) (v5 : V) (d5 : D) (pl6 : Int), σ = [some (.ref pd), some (.ref pp), some (.ref pl), some (.int j), x9, some v5, some (.int pl6), none, none, none] ∧ (∃ i, x9 = some (.int i)) ∧ Dr H H2 pd ∧ Vr pd H2 v5 d5 ∧ EltD ns d5 ∧ Dn.rt = Q)
      (pss_cons (ps_set (i := 7) scDes.nd rfl (.inl rfl) (pe_call GN hr (by rfl) gN FN.kp bN .nil pass0 (pa_cons (pv 0) (pa_cons pe_int pa_nil))))
      (pss_cons (ps_set (i := 8) scDes.nd rfl (.inl rfl) (pe_tup (pa_cons (pe_ix ix_list (pv 1) (pe_op op_add pe_int (pv 3)) (fun _ _ => rfl)) (pa_cons (pv 5) (pa_cons (pe_ix ix_list (pv 1) (pv 7) (fun _ _ => rfl)) pa_nil)))))
      (pss_cons (ps_set (i := 9) scDes.nd rfl (.inl rfl) (pe_call GN hr (by rfl) gN FN.kp bN .nil pass0 (pa_cons (pv 0) (pa_cons pe_int pa_nil))))
      (pss_cons (ps_if (pt_cmpR op_ne (pv 9) (pv 7) (nomark _)) (pss_one (ps_set (i := 8) scDes.nd rfl (.inl rfl) (pe_op op_catH (pv 8) (pe_tup (pa_cons (pe_ix ix_list (pv 1) (pv 9) (fun _ _ => rfl)) pa_nil))))) pss_nil)
      (imp (t' := tRow pd pp pl H Q)
      (pss_cons (ps_if (pt_cmpR op_eq (pv 4) pe_int (nomark _)) (pss_one (ps_ret (pe_ix ix_list (pe_lst (pa_cons (pe_callTy call_list_of (by rfl) mL (by decide +kernel) (pa_cons (pv 8) pa_nil)) (pa_cons (pe_slice (r := rSlH) sl_tupH (pv 8) po_none (po_some pe_int)) (pa_cons (pe_op op_catH (pv 8) (pe_tup (pa_cons (pe_ix ix_list (pv 1) pe_int (fun _ _ => rfl)) (pa_cons (pe_ix ix_list (pv 1) pe_int (fun _ _ => rfl)) pa_nil)))) (pa_cons pe_int (pa_cons pe_non pa_nil)))))) (pe_call GN hr (by rfl) gN FN.kp bN .nil pass0 (pa_cons (pv 0) (pa_cons pe_int pa_nil))) (fun _ _ => rfl)))) pss_nil)
      (imp (t' := tRow pd pp pl H Q)
      (pss_cons (ps_if (pt_cmpR op_eq (pv 4) pe_int (nomark _)) (pss_one (ps_ret (pe_op op_catH (pe_tup (pa_cons (pe_ix ix_list (pv 1) (pe_call GN hr (by rfl) gN FN.kp bN .nil pass0 (pa_cons (pv 0) (pa_cons pe_int pa_nil))) (fun _ _ => rfl)) pa_nil)) (pe_slice (r := rSlH) sl_tupH (pv 8) (po_some pe_int) po_none)))) pss_nil)
      (imp (t' := tRow pd pp pl H Q)
      (pss_cons (ps_if (pt_cmpR op_eq (pv 4) pe_int (nomark _)) (pss_one (ps_ret (pe_op op_catH (pe_tup (pa_cons (pe_ix ix_tup (pv 8) pe_int (fun _ _ => rfl)) (pa_cons (pe_ix ix_list (pv 1) (pe_call GN hr (by rfl) gN FN.kp bN .nil pass0 (pa_cons (pv 0) (pa_cons pe_int pa_nil))) (fun _ _ => rfl)) pa_nil))) (pe_slice (r := rSlH) sl_tupH (pv 8) (po_some pe_int) po_none)))) pss_nil)
      (imp (t' := tRow pd pp pl H Q)
      (pss_cons (ps_if (pt_cmpR op_eq (pv 4) pe_int (nomark _)) (pss_one (ps_ret (pe_op op_catH (pe_slice (r := rSlH) sl_tupH (pv 8) po_none (po_some pe_int)) (pe_tup (pa_cons (pe_ix ix_list (pv 1) (pv 7) (fun _ _ => rfl)) (pa_cons (pe_ix ix_list (pv 1) (pv 7) (fun _ _ => rfl)) pa_nil)))))) pss_nil)
      (imp (t' := tRow pd pp pl H Q)
      (pss_cons (ps_if (pt_cmpR op_eq (pv 4) pe_int (nomark _)) (pss_one (ps_ret (pe_op op_catH (pe_slice (r := rSlH) sl_tupH (pv 8) po_none (po_some pe_int)) (pe_tup (pa_cons (pe_ix ix_list (pe_lst (pa_cs (vs := [V.int 7, .str "", .str "Size", .str "as", .non]) (by rfl))) (pe_call GN hr (by rfl) gN FN.kp bN .nil pass0 (pa_cons (pv 0) (pa_cons pe_int pa_nil))) (fun _ _ => rfl)) pa_nil))))) pss_nil)
      (imp (t' := tRow pd pp pl H Q)
      (pss_cons (ps_if (pt_cmpR op_eq (pv 4) pe_int (nomark _)) (pss_one (ps_ret (pe_op op_catH (pe_tup (pa_cons (pe_ix ix_list (pv 1) (pe_call GN hr (by rfl) gN FN.kp bN .nil pass0 (pa_cons (pv 0) (pa_cons pe_int pa_nil))) (fun _ _ => rfl)) (pa_cons (pe_ix ix_list (pv 1) pe_int (fun _ _ => rfl)) pa_nil))) (pe_slice (r := rSlH) sl_tupH (pv 8) (po_some pe_int) po_none)))) pss_nil)
      (imp (t' := tRow pd pp pl H Q)
      (pss_cons (ps_if (pt_cmpR op_eq (pv 4) pe_int (nomark _)) (pss_one (ps_ret (pe_tup (pa_cons (pe_ix ix_tup (pv 8) pe_int (fun _ _ => rfl)) (pa_cons (pe_ix ix_list (pv 1) pe_int (fun _ _ => rfl)) (pa_cons (pe_ix ix_list (pv 1) (pv 7) (fun _ _ => rfl)) (pa_cons (pe_ix ix_list (pv 1) (pv 7) (fun _ _ => rfl)) pa_nil))))))) pss_nil)
      (imp (t' := tRow pd pp pl H Q) (pss_one (ps_ret (pv 8))) (fun Dn σ H2 hm => ?s8)))
      (fun Dn σ H2 hm => ?s7))) (fun Dn σ H2 hm => ?s6))) (fun Dn σ H2 hm => ?s5))) (fun Dn σ H2 hm => ?s4))) (fun Dn σ H2 hm => ?s3))) (fun Dn σ H2 hm => ?s2))) (fun Dn σ H2 hm => ?s1)))))) (fun Dn σ H2 hm => ?s0)))))), ?_⟩
    case s8 =>
      obtain ⟨ns, act, first, p, j8, k, l, f1, fs, S, q⟩ := hm
      obtain ⟨⟨at_, x5, x6, x9, rfl⟩, dr, pl1, f0, f28, np, hj8, j13, hf, le, fk, fl, ⟨xs, e8, v8⟩, rt⟩ := S
      have kk := pl1.po.nm _ (List.mem_of_getElem? hj8)
      have rd : RwD ns (.tuple (.str k :: l :: .str f1 :: fs)) := .tup kk hj8 j13 (fun e he => by
        rcases List.mem_cons.mp he with rfl | he
        · exact le
        rcases List.mem_cons.mp he with rfl | he
        · exact nS pl1.po hf
        · exact fk e he) (by simp only [List.length_cons]; omega)
      refine ⟨.ref p, rfl, ?_⟩
      rw [rt]
      exact q H2 _ _ dr (.tu e8 np v8) rd rd.fr
    case s7 =>
      have hm0 := hm
      obtain ⟨ns, act, first, p, j8, k, l, f1, fs, S, q⟩ := hm
      obtain ⟨⟨at_, x5, x6, x9, rfl⟩, dr, pl1, f0, f28, np, hj8, j13, hf, le, fk, fl, ⟨xs, e8, v8⟩, rt⟩ := S
      have kk := pl1.po.nm _ (List.mem_of_getElem? hj8)
      refine ⟨.int act, rfl, rfl, _, rfl, ite2 (fun h1 => ?_) (fun _ => hm0)⟩
      have finX : ∀ (H' : Hp) (v : V) (d : D), Dr H H' pd → Vr pd H' v d → RwD ns d → FrV H v d → Dn.rt v H' := fun H' v d a b c e => by
        rw [rt]
        exact q H' v d a b c e
      have fin : ∀ (H' : Hp) (v : V) (ds : List D), Dr H H' pd → Vr pd H' v (.tuple ds) → RwD ns (.tuple ds) → Dn.rt v H' := fun H' v ds a b c => finX H' v _ a b c c.fr
      obtain ⟨nf, ef, af, kf⟩ := pl1.get f0 f28
      rw [hf] at ef
      cases ef
      cases v8 with
      | @cons u0 ut _ _ va vt =>
      cases vt with
      | @cons u1 uc _ _ vb vc =>
      have ev : u0 = .str k := by cases va; rfl
      subst ev
      have ln := vc.len
      obtain ⟨n27, e27, a27, k27⟩ := pl1.getN (j := 27) (by omega)
      refine ⟨.ref p, rfl, p, _, 0, .str k, rfl, rfl, SqT.of e8, at0 _ _, .ref pp, rfl, pp, _, 27, .str n27, rfl, rfl, SqL.of pl1.at_, a27, .ref pp, rfl, .int first, rfl, pp, _, first, .str f1, rfl, rfl, SqL.of pl1.at_, af, .ref pp, rfl, .int first, rfl, pp, _, first, .str f1, rfl, rfl, SqL.of pl1.at_, af, by show 4 ≤ sizeLine; decide, fun T nT => ?_⟩
      refine fin _ _ ([.str k, .str n27, .str f1, .str f1]) (dr.new nT) (.tu upd_same (dr.ne nT) (.cons (.txt _) (.cons (.txt _) (.cons (.txt _) (.cons (.txt _) .nil))))) (.tup kk hj8 j13 (fun e he => ?_) (Nat.le_of_ble_eq_true rfl))
      rcases List.mem_cons.mp he with rfl | he
      · exact nS pl1.po e27
      rcases List.mem_cons.mp he with rfl | he
      · exact nS pl1.po hf
      · rw [List.mem_singleton.mp he]
        exact nS pl1.po hf
    case s6 =>
      have hm0 := hm
      obtain ⟨ns, act, first, p, j8, k, l, f1, fs, S, q⟩ := hm
      obtain ⟨⟨at_, x5, x6, x9, rfl⟩, dr, pl1, f0, f28, np, hj8, j13, hf, le, fk, fl, ⟨xs, e8, v8⟩, rt⟩ := S
      have kk := pl1.po.nm _ (List.mem_of_getElem? hj8)
      refine ⟨.int act, rfl, rfl, _, rfl, ite2 (fun h1 => ?_) (fun _ => hm0)⟩
      have finX : ∀ (H' : Hp) (v : V) (d : D), Dr H H' pd → Vr pd H' v d → RwD ns d → FrV H v d → Dn.rt v H' := fun H' v d a b c e => by
        rw [rt]
        exact q H' v d a b c e
      have fin : ∀ (H' : Hp) (v : V) (ds : List D), Dr H H' pd → Vr pd H' v (.tuple ds) → RwD ns (.tuple ds) → Dn.rt v H' := fun H' v ds a b c => finX H' v _ a b c c.fr
      obtain ⟨nf, ef, af, kf⟩ := pl1.get f0 f28
      rw [hf] at ef
      cases ef
      cases v8 with
      | @cons u0 ut _ _ va vt =>
      cases vt with
      | @cons u1 uc _ _ vb vc =>
      have ev : u0 = .str k := by cases va; rfl
      subst ev
      have ln := vc.len
      obtain ⟨zs, hzs⟩ := dr.dr
      refine ⟨.ref pp, rfl, .ref pd, rfl, pd, zs, 9, rfl, hzs, by decide, fun r ys r0 r1 _ => ?_⟩
      have dr1 := dr.draw ys
      have up : ∀ b ob, H2 b = some ob → b ≠ pd → upd H2 pd (.lst (ys.map V.int)) b = some ob := fun b ob e ne => by rw [upd_ne ne]; exact e
      have e81 := up _ _ e8 np
      have vc1 := vc.up up
      have pl2 := pl1.up (Dr.draw dr.self ys)
      generalize upd H2 pd (.lst (ys.map V.int)) = G at dr1 e81 vc1 pl2
      obtain ⟨n27, e27, a27, k27⟩ := pl2.getN (j := 27) (by omega)
      obtain ⟨nr, er, ar, kr⟩ := pl2.get r0 (by omega)
      refine ⟨pp, _, r, .str nr, rfl, rfl, SqL.of pl2.at_, ar, .ref pp, rfl, pp, _, 27, .str n27, rfl, rfl, SqL.of pl2.at_, a27, by show 2 ≤ sizeLine; decide, fun T nT => ?_⟩
      have mT := dr1.ne nT
      have s1 : Same G (upd G T (.tup [V.str nr, .str n27])) := same_upd nT
      have eT : upd G T (.tup [V.str nr, .str n27]) T = some (.tup [V.str nr, .str n27]) := upd_same
      generalize upd G T (.tup [V.str nr, .str n27]) = G2 at s1 eT
      refine ⟨.ref p, rfl, 2, rfl, p, _, rfl, s1 _ _ e81, fun p2 H3 s3 hp2 ho2 => ?_⟩
      have ec : cutV (V.str k :: u1 :: uc) (some 2) none = uc := cut_from (V.str k :: u1 :: uc) 2
      rw [ec] at hp2
      have dr2 := dr1.same s1
      have m2 : p2 ≠ pd := by
        rcases ho2 with rfl | n
        · exact np
        · exact dr2.ne n
      have dr3 := dr2.same s3
      refine ⟨T, p2, _, _, rfl, rfl, s3 _ _ eT, hp2, sz (by simp only [List.length_cons, List.length_nil] at ln ⊢; omega), fun p3 H4 s4 hp3 ho3 => ?_⟩
      refine fin H4 _ ((.str nr :: .str n27 :: .str f1 :: fs)) (dr3.same s4) (.tu hp3 ?_ (VrA.app (.cons (.txt _) (.cons (.txt _) .nil)) (((vc1.same s1).same s3).same s4))) (.tup kr er (by omega) (fun e he => ?_) (by simp only [List.length_cons]; omega))
      · rcases ho3 with rfl | rfl | n
        · exact mT
        · exact m2
        · exact dr3.ne n
      · rcases List.mem_cons.mp he with rfl | he
        · exact nS pl1.po e27
        rcases List.mem_cons.mp he with rfl | he
        · exact nS pl1.po hf
        · exact fk e he
    case s5 =>
      have hm0 := hm
      obtain ⟨ns, act, first, p, j8, k, l, f1, fs, S, q⟩ := hm
      obtain ⟨⟨at_, x5, x6, x9, rfl⟩, dr, pl1, f0, f28, np, hj8, j13, hf, le, fk, fl, ⟨xs, e8, v8⟩, rt⟩ := S
      have kk := pl1.po.nm _ (List.mem_of_getElem? hj8)
      refine ⟨.int act, rfl, rfl, _, rfl, ite2 (fun h1 => ?_) (fun _ => hm0)⟩
      have finX : ∀ (H' : Hp) (v : V) (d : D), Dr H H' pd → Vr pd H' v d → RwD ns d → FrV H v d → Dn.rt v H' := fun H' v d a b c e => by
        rw [rt]
        exact q H' v d a b c e
      have fin : ∀ (H' : Hp) (v : V) (ds : List D), Dr H H' pd → Vr pd H' v (.tuple ds) → RwD ns (.tuple ds) → Dn.rt v H' := fun H' v ds a b c => finX H' v _ a b c c.fr
      obtain ⟨nf, ef, af, kf⟩ := pl1.get f0 f28
      rw [hf] at ef
      cases ef
      cases v8 with
      | @cons u0 ut _ _ va vt =>
      cases vt with
      | @cons u1 uc _ _ vb vc =>
      have ev : u0 = .str k := by cases va; rfl
      subst ev
      have ln := vc.len
      refine ⟨.ref p, rfl, 2, rfl, p, _, rfl, e8, fun p2 H3 s3 hp2 ho2 => ?_⟩
      have ec : cutV (V.str k :: u1 :: uc) none (some 2) = [V.str k, u1] := cut_to (V.str k :: u1 :: uc) 2
      rw [ec] at hp2
      have m2 : p2 ≠ pd := by
        rcases ho2 with rfl | n
        · exact np
        · exact dr.ne n
      have dr3 := dr.same s3
      have vb3 := vb.same s3
      refine ⟨by show 5 ≤ sizeLine; decide, fun L nL => ?_⟩
      have mL := dr3.ne nL
      have s4 : Same H3 (upd H3 L (.lst [V.int 7, .str "", .str "Size", .str "as", .non])) := same_upd nL
      have eL : upd H3 L (.lst [V.int 7, .str "", .str "Size", .str "as", .non]) L = some (.lst [V.int 7, .str "", .str "Size", .str "as", .non]) := upd_same
      have hp24 := s4 _ _ hp2
      have vb4 := vb3.same s4
      have dr4 := dr3.same s4
      generalize upd H3 L (.lst [V.int 7, .str "", .str "Size", .str "as", .non]) = G at s4 eL hp24 vb4 dr4
      obtain ⟨zs, hzs⟩ := dr4.dr
      refine ⟨.ref pd, rfl, pd, zs, 5, rfl, hzs, by decide, fun r ys r0 r1 _ => ?_⟩
      have dr5 := dr4.draw ys
      have up : ∀ b ob, G b = some ob → b ≠ pd → upd G pd (.lst (ys.map V.int)) b = some ob := fun b ob e ne => by rw [upd_ne ne]; exact e
      have eL5 := up _ _ eL mL
      have hp25 := up _ _ hp24 m2
      have vb5 := vb4.up up
      generalize upd G pd (.lst (ys.map V.int)) = G5 at dr5 eL5 hp25 vb5
      obtain ⟨v, hv, hmem⟩ := at_in (xs := [V.int 7, .str "", .str "Size", .str "as", .non]) (n := 5) r0 r1 (Nat.le_refl _)
      have hv2 : ∃ d : D, (∀ H', Vr pd H' v d) ∧ EltD ns d := by
        have bs : ∀ s : Str, s.length ≤ 4 → PyData.strOk s = true → isName s = false → EltD ns (.str s) := fun s h1 h2 h3 => .bad h3 (fun t e => by injection e with e; rw [← e]; omega) (sh_str h2) (noL_str _)
        rcases List.mem_cons.mp hmem with rfl | hmem
        · exact ⟨.int 7, fun _ => .num _, .bad rfl (fun t e => (by cases e)) (by decide +kernel) (by decide +kernel)⟩
        rcases List.mem_cons.mp hmem with rfl | hmem
        · exact ⟨.str "", fun _ => .txt _, bs _ (by decide +kernel) (by decide +kernel) (by decide +kernel)⟩
        rcases List.mem_cons.mp hmem with rfl | hmem
        · exact ⟨.str "Size", fun _ => .txt _, bs _ (by decide +kernel) (by decide +kernel) (by decide +kernel)⟩
        rcases List.mem_cons.mp hmem with rfl | hmem
        · exact ⟨.str "as", fun _ => .txt _, bs _ (by decide +kernel) (by decide +kernel) (by decide +kernel)⟩
        · rw [List.mem_singleton.mp hmem]
          exact ⟨.none, fun _ => .no, .no⟩
      obtain ⟨d, vd, ed⟩ := hv2
      refine ⟨L, _, r, v, rfl, rfl, SqL.of eL5, hv, by show 1 ≤ sizeLine; decide, fun T nT => ?_⟩
      have mT := dr5.ne nT
      have s6 : Same G5 (upd G5 T (.tup [v])) := same_upd nT
      have dr6 := dr5.same s6
      refine ⟨p2, T, _, _, rfl, rfl, s6 _ _ hp25, upd_same, by show 3 ≤ sizeLine; decide, fun p3 H4 s7 hp3 ho3 => ?_⟩
      refine fin H4 _ ([.str k, l, d]) (dr6.same s7) (.tu hp3 ?_ (.cons (.txt _) (.cons ((vb5.same s6).same s7) (.cons (vd _) .nil)))) (.tup kk hj8 j13 (fun e he => ?_) (Nat.le_of_ble_eq_true rfl))
      · rcases ho3 with rfl | rfl | n
        · exact m2
        · exact mT
        · exact dr6.ne n
      · rcases List.mem_cons.mp he with rfl | he
        · exact le
        · rw [List.mem_singleton.mp he]
          exact ed
    case s4 =>
      have hm0 := hm
      obtain ⟨ns, act, first, p, j8, k, l, f1, fs, S, q⟩ := hm
      obtain ⟨⟨at_, x5, x6, x9, rfl⟩, dr, pl1, f0, f28, np, hj8, j13, hf, le, fk, fl, ⟨xs, e8, v8⟩, rt⟩ := S
      have kk := pl1.po.nm _ (List.mem_of_getElem? hj8)
      refine ⟨.int act, rfl, rfl, _, rfl, ite2 (fun h1 => ?_) (fun _ => hm0)⟩
      have finX : ∀ (H' : Hp) (v : V) (d : D), Dr H H' pd → Vr pd H' v d → RwD ns d → FrV H v d → Dn.rt v H' := fun H' v d a b c e => by
        rw [rt]
        exact q H' v d a b c e
      have fin : ∀ (H' : Hp) (v : V) (ds : List D), Dr H H' pd → Vr pd H' v (.tuple ds) → RwD ns (.tuple ds) → Dn.rt v H' := fun H' v ds a b c => finX H' v _ a b c c.fr
      obtain ⟨nf, ef, af, kf⟩ := pl1.get f0 f28
      rw [hf] at ef
      cases ef
      cases v8 with
      | @cons u0 ut _ _ va vt =>
      cases vt with
      | @cons u1 uc _ _ vb vc =>
      have ev : u0 = .str k := by cases va; rfl
      subst ev
      have ln := vc.len
      refine ⟨.ref p, rfl, 2, rfl, p, _, rfl, e8, fun p2 H3 s3 hp2 ho2 => ?_⟩
      have ec : cutV (V.str k :: u1 :: uc) none (some 2) = [V.str k, u1] := cut_to (V.str k :: u1 :: uc) 2
      rw [ec] at hp2
      have m2 : p2 ≠ pd := by
        rcases ho2 with rfl | n
        · exact np
        · exact dr.ne n
      have dr3 := dr.same s3
      have vb3 := vb.same s3
      have at3 := s3 _ _ pl1.at_
      refine ⟨.ref pp, rfl, .int first, rfl, pp, _, first, .str f1, rfl, rfl, SqL.of at3, af, .ref pp, rfl, .int first, rfl, pp, _, first, .str f1, rfl, rfl, SqL.of at3, af, by show 2 ≤ sizeLine; decide, fun T nT => ?_⟩
      have mT := dr3.ne nT
      have s6 : Same H3 (upd H3 T (.tup [V.str f1, .str f1])) := same_upd nT
      have dr6 := dr3.same s6
      refine ⟨p2, T, _, _, rfl, rfl, s6 _ _ hp2, upd_same, by show 4 ≤ sizeLine; decide, fun p3 H4 s7 hp3 ho3 => ?_⟩
      refine fin H4 _ ([.str k, l, .str f1, .str f1]) (dr6.same s7) (.tu hp3 ?_ (.cons (.txt _) (.cons ((vb3.same s6).same s7) (.cons (.txt _) (.cons (.txt _) .nil))))) (.tup kk hj8 j13 (fun e he => ?_) (Nat.le_of_ble_eq_true rfl))
      · rcases ho3 with rfl | rfl | n
        · exact m2
        · exact mT
        · exact dr6.ne n
      · rcases List.mem_cons.mp he with rfl | he
        · exact le
        rcases List.mem_cons.mp he with rfl | he
        · exact nS pl1.po hf
        · rw [List.mem_singleton.mp he]
          exact nS pl1.po hf
    case s3 =>
      have hm0 := hm
      obtain ⟨ns, act, first, p, j8, k, l, f1, fs, S, q⟩ := hm
      obtain ⟨⟨at_, x5, x6, x9, rfl⟩, dr, pl1, f0, f28, np, hj8, j13, hf, le, fk, fl, ⟨xs, e8, v8⟩, rt⟩ := S
      have kk := pl1.po.nm _ (List.mem_of_getElem? hj8)
      refine ⟨.int act, rfl, rfl, _, rfl, ite2 (fun h1 => ?_) (fun _ => hm0)⟩
      have finX : ∀ (H' : Hp) (v : V) (d : D), Dr H H' pd → Vr pd H' v d → RwD ns d → FrV H v d → Dn.rt v H' := fun H' v d a b c e => by
        rw [rt]
        exact q H' v d a b c e
      have fin : ∀ (H' : Hp) (v : V) (ds : List D), Dr H H' pd → Vr pd H' v (.tuple ds) → RwD ns (.tuple ds) → Dn.rt v H' := fun H' v ds a b c => finX H' v _ a b c c.fr
      obtain ⟨nf, ef, af, kf⟩ := pl1.get f0 f28
      rw [hf] at ef
      cases ef
      cases v8 with
      | @cons u0 ut _ _ va vt =>
      cases vt with
      | @cons u1 uc _ _ vb vc =>
      have ev : u0 = .str k := by cases va; rfl
      subst ev
      have ln := vc.len
      obtain ⟨zs, hzs⟩ := dr.dr
      refine ⟨.ref p, rfl, p, _, 0, .str k, rfl, rfl, SqT.of e8, at0 _ _, .ref pp, rfl, .ref pd, rfl, pd, zs, 28, rfl, hzs, by decide, fun r ys r0 r1 _ => ?_⟩
      have dr1 := dr.draw ys
      have up : ∀ b ob, H2 b = some ob → b ≠ pd → upd H2 pd (.lst (ys.map V.int)) b = some ob := fun b ob e ne => by rw [upd_ne ne]; exact e
      have e81 := up _ _ e8 np
      have vc1 := vc.up up
      have pl2 := pl1.up (Dr.draw dr.self ys)
      generalize upd H2 pd (.lst (ys.map V.int)) = G at dr1 e81 vc1 pl2
      obtain ⟨nr, er, ar, kr⟩ := pl2.get r0 (by omega)
      refine ⟨pp, _, r, .str nr, rfl, rfl, SqL.of pl2.at_, ar, by show 2 ≤ sizeLine; decide, fun T nT => ?_⟩
      have mT := dr1.ne nT
      have s1 : Same G (upd G T (.tup [V.str k, .str nr])) := same_upd nT
      have eT : upd G T (.tup [V.str k, .str nr]) T = some (.tup [V.str k, .str nr]) := upd_same
      generalize upd G T (.tup [V.str k, .str nr]) = G2 at s1 eT
      refine ⟨.ref p, rfl, 2, rfl, p, _, rfl, s1 _ _ e81, fun p2 H3 s3 hp2 ho2 => ?_⟩
      have ec : cutV (V.str k :: u1 :: uc) (some 2) none = uc := cut_from (V.str k :: u1 :: uc) 2
      rw [ec] at hp2
      have dr2 := dr1.same s1
      have m2 : p2 ≠ pd := by
        rcases ho2 with rfl | n
        · exact np
        · exact dr2.ne n
      have dr3 := dr2.same s3
      refine ⟨T, p2, _, _, rfl, rfl, s3 _ _ eT, hp2, sz (by simp only [List.length_cons, List.length_nil] at ln ⊢; omega), fun p3 H4 s4 hp3 ho3 => ?_⟩
      refine fin H4 _ ((.str k :: .str nr :: .str f1 :: fs)) (dr3.same s4) (.tu hp3 ?_ (VrA.app (.cons (.txt _) (.cons (.txt _) .nil)) (((vc1.same s1).same s3).same s4))) (.tup kk hj8 j13 (fun e he => ?_) (by simp only [List.length_cons]; omega))
      · rcases ho3 with rfl | rfl | n
        · exact mT
        · exact m2
        · exact dr3.ne n
      · rcases List.mem_cons.mp he with rfl | he
        · exact nS pl1.po er
        rcases List.mem_cons.mp he with rfl | he
        · exact nS pl1.po hf
        · exact fk e he
    case s2 =>
      have hm0 := hm
      obtain ⟨ns, act, first, p, j8, k, l, f1, fs, S, q⟩ := hm
      obtain ⟨⟨at_, x5, x6, x9, rfl⟩, dr, pl1, f0, f28, np, hj8, j13, hf, le, fk, fl, ⟨xs, e8, v8⟩, rt⟩ := S
      have kk := pl1.po.nm _ (List.mem_of_getElem? hj8)
      refine ⟨.int act, rfl, rfl, _, rfl, ite2 (fun h1 => ?_) (fun _ => hm0)⟩
      have finX : ∀ (H' : Hp) (v : V) (d : D), Dr H H' pd → Vr pd H' v d → RwD ns d → FrV H v d → Dn.rt v H' := fun H' v d a b c e => by
        rw [rt]
        exact q H' v d a b c e
      have fin : ∀ (H' : Hp) (v : V) (ds : List D), Dr H H' pd → Vr pd H' v (.tuple ds) → RwD ns (.tuple ds) → Dn.rt v H' := fun H' v ds a b c => finX H' v _ a b c c.fr
      obtain ⟨nf, ef, af, kf⟩ := pl1.get f0 f28
      rw [hf] at ef
      cases ef
      cases v8 with
      | @cons u0 ut _ _ va vt =>
      cases vt with
      | @cons u1 uc _ _ vb vc =>
      have ev : u0 = .str k := by cases va; rfl
      subst ev
      have ln := vc.len
      obtain ⟨zs, hzs⟩ := dr.dr
      refine ⟨.ref pp, rfl, .ref pd, rfl, pd, zs, 9, rfl, hzs, by decide, fun r ys r0 r1 _ => ?_⟩
      have dr1 := dr.draw ys
      have up : ∀ b ob, H2 b = some ob → b ≠ pd → upd H2 pd (.lst (ys.map V.int)) b = some ob := fun b ob e ne => by rw [upd_ne ne]; exact e
      have e81 := up _ _ e8 np
      have vc1 := (VrA.cons vb vc).up up
      have pl2 := pl1.up (Dr.draw dr.self ys)
      generalize upd H2 pd (.lst (ys.map V.int)) = G at dr1 e81 vc1 pl2
      obtain ⟨nr, er, ar, kr⟩ := pl2.get r0 (by omega)
      refine ⟨pp, _, r, .str nr, rfl, rfl, SqL.of pl2.at_, ar, by show 1 ≤ sizeLine; decide, fun T nT => ?_⟩
      have mT := dr1.ne nT
      have s1 : Same G (upd G T (.tup [V.str nr])) := same_upd nT
      have eT : upd G T (.tup [V.str nr]) T = some (.tup [V.str nr]) := upd_same
      generalize upd G T (.tup [V.str nr]) = G2 at s1 eT
      refine ⟨.ref p, rfl, 1, rfl, p, _, rfl, s1 _ _ e81, fun p2 H3 s3 hp2 ho2 => ?_⟩
      have ec : cutV (V.str k :: u1 :: uc) (some 1) none = u1 :: uc := cut_from (V.str k :: u1 :: uc) 1
      rw [ec] at hp2
      have dr2 := dr1.same s1
      have m2 : p2 ≠ pd := by
        rcases ho2 with rfl | n
        · exact np
        · exact dr2.ne n
      have dr3 := dr2.same s3
      refine ⟨T, p2, _, _, rfl, rfl, s3 _ _ eT, hp2, sz (by simp only [List.length_cons, List.length_nil] at ln ⊢; omega), fun p3 H4 s4 hp3 ho3 => ?_⟩
      refine fin H4 _ ((.str nr :: l :: .str f1 :: fs)) (dr3.same s4) (.tu hp3 ?_ (VrA.app (.cons (.txt _) .nil) (((vc1.same s1).same s3).same s4))) (.tup kr er (by omega) (fun e he => ?_) (by simp only [List.length_cons]; omega))
      · rcases ho3 with rfl | rfl | n
        · exact mT
        · exact m2
        · exact dr3.ne n
      · rcases List.mem_cons.mp he with rfl | he
        · exact le
        rcases List.mem_cons.mp he with rfl | he
        · exact nS pl1.po hf
        · exact fk e he
    case s1 =>
      have hm0 := hm
      obtain ⟨ns, act, first, p, j8, k, l, f1, fs, S, q⟩ := hm
      obtain ⟨⟨at_, x5, x6, x9, rfl⟩, dr, pl1, f0, f28, np, hj8, j13, hf, le, fk, fl, ⟨xs, e8, v8⟩, rt⟩ := S
      have kk := pl1.po.nm _ (List.mem_of_getElem? hj8)
      refine ⟨.int act, rfl, rfl, _, rfl, ite2 (fun h1 => ?_) (fun _ => hm0)⟩
      have finX : ∀ (H' : Hp) (v : V) (d : D), Dr H H' pd → Vr pd H' v d → RwD ns d → FrV H v d → Dn.rt v H' := fun H' v d a b c e => by
        rw [rt]
        exact q H' v d a b c e
      have fin : ∀ (H' : Hp) (v : V) (ds : List D), Dr H H' pd → Vr pd H' v (.tuple ds) → RwD ns (.tuple ds) → Dn.rt v H' := fun H' v ds a b c => finX H' v _ a b c c.fr
      obtain ⟨nf, ef, af, kf⟩ := pl1.get f0 f28
      rw [hf] at ef
      cases ef
      cases v8 with
      | @cons u0 ut _ _ va vt =>
      cases vt with
      | @cons u1 uc _ _ vb vc =>
      have ev : u0 = .str k := by cases va; rfl
      subst ev
      have ln := vc.len
      obtain ⟨n20, e20, a20, k20⟩ := pl1.getN (j := 20) (by omega)
      obtain ⟨n21, e21, a21, k21⟩ := pl1.getN (j := 21) (by omega)
      have v8 : VrA pd H2 (V.str k :: u1 :: uc) (.str k :: l :: .str f1 :: fs) := .cons (.txt _) (.cons vb vc)
      refine ⟨.ref p, rfl, p, _, rfl, .inr (SqT.of e8), fun L1 nL1 => ?_⟩
      have m1 := dr.ne nL1
      have s1 : Same H2 (upd H2 L1 (.lst (V.str k :: u1 :: uc))) := same_upd nL1
      have eL1 : upd H2 L1 (.lst (V.str k :: u1 :: uc)) L1 = some (.lst (V.str k :: u1 :: uc)) := upd_same
      generalize upd H2 L1 (.lst (V.str k :: u1 :: uc)) = G at s1 eL1
      have dr1 := dr.same s1
      refine ⟨.ref p, rfl, 2, rfl, p, _, rfl, s1 _ _ e8, fun p2 H3 s3 hp2 ho2 => ?_⟩
      have ec : cutV (V.str k :: u1 :: uc) none (some 2) = [V.str k, u1] := cut_to (V.str k :: u1 :: uc) 2
      rw [ec] at hp2
      have m2 : p2 ≠ pd := by
        rcases ho2 with rfl | n
        · exact np
        · exact dr1.ne n
      have s13 := s1.trans s3
      have dr3 := dr1.same s3
      have at3 := s13 _ _ pl1.at_
      refine ⟨.ref p, rfl, .ref pp, rfl, pp, _, 20, .str n20, rfl, rfl, SqL.of at3, a20, .ref pp, rfl, pp, _, 21, .str n21, rfl, rfl, SqL.of at3, a21, by show 2 ≤ sizeLine; decide, fun T nT => ?_⟩
      have mT := dr3.ne nT
      have s4 : Same H3 (upd H3 T (.tup [V.str n20, .str n21])) := same_upd nT
      have eT : upd H3 T (.tup [V.str n20, .str n21]) T = some (.tup [V.str n20, .str n21]) := upd_same
      generalize upd H3 T (.tup [V.str n20, .str n21]) = G4 at s4 eT
      have dr4 := dr3.same s4
      have s14 := s13.trans s4
      refine ⟨p, T, _, _, rfl, rfl, s14 _ _ e8, eT, sz (by simp only [List.length_cons, List.length_nil] at ln ⊢; omega), fun p3 H5 s5 hp3 ho3 => ?_⟩
      have m3 : p3 ≠ pd := by
        rcases ho3 with rfl | rfl | n
        · exact np
        · exact mT
        · exact dr4.ne n
      have dr5 := dr4.same s5
      have s15 := s14.trans s5
      refine ⟨by show 5 ≤ sizeLine; decide, fun L nL => ?_⟩
      have mL := dr5.ne nL
      have s6 : Same H5 (upd H5 L (.lst [V.ref L1, .ref p2, .ref p3, .int 3, .non])) := same_upd nL
      have eL : upd H5 L (.lst [V.ref L1, .ref p2, .ref p3, .int 3, .non]) L = some (.lst [V.ref L1, .ref p2, .ref p3, .int 3, .non]) := upd_same
      generalize upd H5 L (.lst [V.ref L1, .ref p2, .ref p3, .int 3, .non]) = G6 at s6 eL
      have dr6 := dr5.same s6
      have s16 := s15.trans s6
      have f1' := s6 _ _ (s5 _ _ (s4 _ _ (s3 _ _ eL1)))
      have f2' := s6 _ _ (s5 _ _ (s4 _ _ hp2))
      have f3' := s6 _ _ hp3
      have v86 := v8.same s16
      obtain ⟨zs, hzs⟩ := dr6.dr
      refine ⟨.ref pd, rfl, pd, zs, 5, rfl, hzs, by decide, fun r ys r0 r1 _ => ?_⟩
      have dr7 := dr6.draw ys
      have up : ∀ b ob, G6 b = some ob → b ≠ pd → upd G6 pd (.lst (ys.map V.int)) b = some ob := fun b ob e ne => by rw [upd_ne ne]; exact e
      have eL7 := up _ _ eL mL
      have g1 := up _ _ f1' m1
      have g2 := up _ _ f2' m2
      have g3 := up _ _ f3' m3
      have v87 := v86.up up
      generalize upd G6 pd (.lst (ys.map V.int)) = G7 at dr7 eL7 g1 g2 g3 v87
      obtain ⟨v, hv, hmem⟩ := at_in (xs := [V.ref L1, .ref p2, .ref p3, .int 3, .non]) (n := 5) r0 r1 (Nat.le_refl _)
      refine ⟨L, _, r, v, rfl, rfl, SqL.of eL7, hv, ?_⟩
      rcases List.mem_cons.mp hmem with rfl | hmem
      · refine finX G7 _ (.list (.str k :: l :: .str f1 :: fs)) dr7 (.li g1 m1 v87) (.non rfl) (.inr ⟨L1, _, rfl, ?_, rfl, noLA_all fun e he => ?_⟩)
        · cases hL : H L1 with
          | none => rfl
          | some o =>
            rw [dr.but L1 o hL m1] at nL1
            cases nL1
        · rcases List.mem_cons.mp he with rfl | he
          · exact noL_str _
          rcases List.mem_cons.mp he with rfl | he
          · exact le.nl
          rcases List.mem_cons.mp he with rfl | he
          · exact noL_str _
          · exact (fk e he).nl
      rcases List.mem_cons.mp hmem with rfl | hmem
      · refine fin G7 _ ([.str k, l]) dr7 (.tu g2 m2 ?_) (.tup kk hj8 j13 (fun e he => by rw [List.mem_singleton.mp he]; exact le) (Nat.le_of_ble_eq_true rfl))
        cases v87 with
        | @cons _ _ _ _ _ vt =>
        cases vt with
        | @cons _ _ _ _ vb _ => exact .cons (.txt _) (.cons vb .nil)
      rcases List.mem_cons.mp hmem with rfl | hmem
      · refine fin G7 _ ((.str k :: (l :: .str f1 :: fs ++ [.str n20, .str n21]))) dr7 (.tu g3 m3 (VrA.app v87 (.cons (.txt _) (.cons (.txt _) .nil)))) (.tup kk hj8 j13 (fun e he => ?_) (by simp only [List.length_cons, List.length_append, List.length_nil]; omega))
        rcases List.mem_append.mp he with he | he
        · rcases List.mem_cons.mp he with rfl | he
          · exact le
          rcases List.mem_cons.mp he with rfl | he
          · exact nS pl1.po hf
          · exact fk e he
        · rcases List.mem_cons.mp he with rfl | he
          · exact nS pl1.po e20
          · rw [List.mem_singleton.mp he]
            exact nS pl1.po e21
      rcases List.mem_cons.mp hmem with rfl | hmem
      · exact finX G7 _ (.int 3) dr7 (.num _) (.non rfl) (.inl (by decide +kernel))
      · rw [List.mem_singleton.mp hmem]
        exact finX G7 _ .none dr7 .no (.non rfl) (.inl (by decide +kernel))
    case s0 =>
      obtain ⟨x9, v5, d5, pl6, rfl, ⟨i, rfl⟩, dr, vv, le, rt⟩ := hm
      obtain ⟨zs, hzs⟩ := dr.dr
      refine ⟨.ref pd, rfl, pd, zs, 28, rfl, hzs, by decide, fun first ys f0 f1 _ => ?_⟩
      have dr1 := dr.draw ys
      have up : ∀ b ob, H2 b = some ob → b ≠ pd → upd H2 pd (.lst (ys.map V.int)) b = some ob := fun b ob e ne => by rw [upd_ne ne]; exact e
      have vv1 := vv.up up
      generalize upd H2 pd (.lst (ys.map V.int)) = G at dr1 vv1
      have pl1 := pl0.up dr1
      obtain ⟨nk, ek, ak, kk⟩ := pl1.getN (j := 8 + j) (by omega)
      obtain ⟨nf, ef, af, kf⟩ := pl1.get f0 f1
      have ej : ((8 + j : Nat) : Int) = 8 + (j : Int) := by omega
      rw [ej] at ak
      refine ⟨.ref pp, rfl, .int j, rfl, 8, j, rfl, rfl, pp, _, 8 + (j : Int), .str nk, rfl, rfl, SqL.of pl1.at_, ak, v5, rfl, .ref pp, rfl, .int first, rfl, pp, _, first, .str nf, rfl, rfl, SqL.of pl1.at_, af, by show 3 ≤ sizeLine; decide, fun T nT => ?_⟩
      have mT := dr1.ne nT
      have s1 : Same G (upd G T (.tup [V.str nk, v5, .str nf])) := same_upd nT
      have eT : upd G T (.tup [V.str nk, v5, .str nf]) T = some (.tup [V.str nk, v5, .str nf]) := upd_same
      generalize upd G T (.tup [V.str nk, v5, .str nf]) = G2 at s1 eT
      have dr2 := dr1.same s1
      have vv2 := vv1.same s1
      obtain ⟨zs2, hzs2⟩ := dr2.dr
      refine ⟨.ref pd, rfl, pd, zs2, 28, rfl, hzs2, by decide, fun sec ys g0 g1 _ => ?_⟩
      have dr3 := dr2.draw ys
      have up : ∀ b ob, G2 b = some ob → b ≠ pd → upd G2 pd (.lst (ys.map V.int)) b = some ob := fun b ob e ne => by rw [upd_ne ne]; exact e
      have vv3 := vv2.up up
      have eT3 := up _ _ eT mT
      generalize upd G2 pd (.lst (ys.map V.int)) = G3 at dr3 vv3 eT3
      have pl3 := pl0.up dr3
      obtain ⟨n2, e2, a2, k2⟩ := pl3.get g0 g1
      refine ⟨.int sec, rfl, .int first, rfl, rfl, _, rfl, ite2 (fun _ => ?_) (fun _ => ?_)⟩
      · refine ⟨.ref T, rfl, .ref pp, rfl, .int sec, rfl, pp, _, sec, .str n2, rfl, rfl, SqL.of pl3.at_, a2, by show 1 ≤ sizeLine; decide, fun T2 nT2 => ?_⟩
        have m2 := dr3.ne nT2
        have s4 : Same G3 (upd G3 T2 (.tup [V.str n2])) := same_upd nT2
        have eT2 : upd G3 T2 (.tup [V.str n2]) T2 = some (.tup [V.str n2]) := upd_same
        generalize upd G3 T2 (.tup [V.str n2]) = G4 at s4 eT2
        have dr4 := dr3.same s4
        refine ⟨T, T2, _, _, rfl, rfl, s4 _ _ eT3, eT2, by show 4 ≤ sizeLine; decide, fun p3 H5 s5 hp3 ho3 => ?_⟩
        have dr5 := dr4.same s5
        refine ⟨ns, i, first, p3, 8 + j, nk, d5, nf, [.str n2], ⟨⟨_, _, _, _, rfl⟩, dr5, pl0.up dr5, f0, f1, ?_, ek, by omega, ef, le, fun e he => by rw [List.mem_singleton.mp he]; exact nS pl0.po e2, Nat.le_refl _, ⟨_, hp3, .cons (.txt _) (.cons ((vv3.same s4).same s5) (.cons (.txt _) (.cons (.txt _) .nil)))⟩, rt⟩, q⟩
        rcases ho3 with rfl | rfl | n
        · exact mT
        · exact m2
        · exact dr4.ne n
      · exact ⟨ns, i, first, T, 8 + j, nk, d5, nf, [], ⟨⟨_, _, _, _, rfl⟩, dr3, pl3, f0, f1, mT, ek, by omega, ef, le, fun e he => (by cases he), Nat.zero_le _, ⟨_, eT3, .cons (.txt _) (.cons vv3 (.cons (.txt _) .nil))⟩, rt⟩, q⟩
    obtain ⟨zs, hzs⟩ := d0.dr
    refine ⟨.ref pd, rfl, pd, zs, 16, rfl, hzs, by decide, fun act ys a0 a1 _ => ?_⟩
    have dr1 := d0.draw ys
    have up : ∀ b ob, H b = some ob → b ≠ pd → upd H pd (.lst (ys.map V.int)) b = some ob := fun b ob e ne => by rw [upd_ne ne]; exact e
    have vl1 := vl.up up
    have el1 := up _ _ el nl
    generalize upd H pd (.lst (ys.map V.int)) = G at dr1 vl1 el1
    obtain ⟨zs1, hzs1⟩ := dr1.dr
    refine ⟨.ref pd, rfl, pd, zs1, 8, rfl, hzs1, by decide, fun place ys p0 p1 _ => ?_⟩
    have dr2 := dr1.draw ys
    have up : ∀ b ob, G b = some ob → b ≠ pd → upd G pd (.lst (ys.map V.int)) b = some ob := fun b ob e ne => by rw [upd_ne ne]; exact e
    have vl2 := vl1.up up
    have el2 := up _ _ el1 nl
    generalize upd G pd (.lst (ys.map V.int)) = G2 at dr2 vl2 el2
    refine ⟨.int place, rfl, .ref pl, rfl, pl, lv, rfl, .inl (SqL.of el2), _, _, rfl, rfl, _, rfl, ite2 (fun h1 => ?_) (fun _ => ⟨_, .non, .none, place, rfl, ⟨act, rfl⟩, dr2, .no, .no, rfl⟩)⟩
    have h1 := of_decide_eq_true h1
    have h2 : place.toNat < lv.length := by omega
    obtain ⟨d, hd, vd⟩ := vl2.get (List.getElem?_eq_getElem h2)
    have av : atI lv ((place.toNat : Nat) : Int) = some lv[place.toNat] := atI_nat (List.getElem?_eq_getElem h2)
    have ep : ((place.toNat : Nat) : Int) = place := by omega
    rw [ep] at av
    exact ⟨.ref pl, rfl, .int place, rfl, pl, lv, place, _, rfl, rfl, SqL.of el2, av, _, _, d, place, rfl, ⟨act, rfl⟩, dr2, vd, (kl d (List.mem_of_getElem? hd)).elt pl0.po, rfl⟩
end
end K01
namespace K01
open PySem PySem.Spec PyProof.Rows L2
abbrev sRule : Stmt := top 27
theorem scRule : FnScope ["_law_row", "_law_locks", "_law_seen", "_law_at", "_law_pool_here", "_law_part"] ["_law_row", "_law_locks", "_law_seen", "_law_at", "_law_pool_here"] (defScope sRule) := ⟨rfl, rfl, rfl, by decide +kernel, rfl, by decide +kernel, by decide +kernel⟩
theorem u65 {k : Nat} {A : Around} (r : Room k A) : A.units + 65 < cLine := by
  have := r.un
  omega
theorem eqv_nm {s : Str} {e : D} (h : PyData.eqv (.str s) e = true) : e = .str s := by
  cases e with
  | str t =>
    rw [eqv_ss] at h
    rw [of_decide_eq_true h]
  | _ => simp [PyData.eqv] at h
theorem pool_any {ns : List Str} (po : Pool ns) {e : D} (h : nmD e = true → toStr e ∈ ns) : (ns.map PyData.str).any (fun z => z.eqv e) = nmD e := by
  cases hn : nmD e with
  | true =>
    have hm := h hn
    obtain ⟨e1, _⟩ := nm_str hn
    rw [List.any_eq_true]
    refine ⟨.str (toStr e), List.mem_map.mpr ⟨_, hm, rfl⟩, ?_⟩
    rw [e1]
    show PyData.eqv (.str (toStr e)) (.str (toStr e)) = true
    rw [eqv_ss]
    exact decide_eq_true rfl
  | false =>
    rw [List.any_eq_false]
    intro z hz
    obtain ⟨n, hm, rfl⟩ := List.mem_map.mp hz
    intro he
    have := eqv_nm he
    subst this
    have z2 : isName n = false := hn
    rw [po.nm n hm] at z2
    cases z2
theorem sh_pool {ns : List Str} (po : Pool ns) : SeqAt.shaped (.list (ns.map .str)) = true := by
  have := depth_strs ns
  exact sh_lst (lay_strs fun w hw => nm_ok (po.nm w hw)) (by omega)
section
variable {P : Program} {w : World} {K : PySem.W.Frag} {mg : Str → Option Value} {base : Heap} {aR pd pp pl ps : Addr}
theorem Pl.dp {H : Hp} {ns : List Str} (l : Pl pd pp H ns) : Dp K H (.ref pp) (.list (ns.map .str)) := (Vr.li l.at_ l.ne (VrA.strs ns) : Vr pd H (.ref pp) (.list (ns.map .str))).dp K
def spRule (pd pp : Addr) : Sp := fun vs H Q _ => ∃ (v : V) (d : D) (pl ps : Addr) (ws ks ns : List Str), vs = [v, .ref pl, .ref ps, .int (ks.length : Nat), .ref pp] ∧ Vr pd H v d ∧ RwD ns d ∧ Pl pd pp H ns ∧ H pl = some (.lst (ws.map V.str)) ∧ H ps = some (.lst ((ws ++ ks).map V.str)) ∧ ∀ H', Same H H' → Q (.str (kindRule d ws ks)) H'
/-- behind the form -/
def tRul (pd pp : Addr) (R : Rw → List Str → List Str → Prop) (H0 : Hp) (Q : VK) : TS := fun Dn σ H => ∃ (p pl ps : Addr) (r : Rw) (ws ks : List Str) (x5 : Option V), σ = [some (.ref p), some (.ref pl), some (.ref ps), some (.int (ks.length : Nat)), some (.ref pp), x5] ∧ Rok r ∧ H p = some (.tup (.str r.k :: optV r.l :: r.fs.map V.str)) ∧ H pl = some (.lst (ws.map V.str)) ∧ H ps = some (.lst ((ws ++ ks).map V.str)) ∧ Dn.rt = Q ∧ Same H0 H ∧ R r ws ks ∧ ∀ H', Same H0 H' → Q (.str (rowRule r ws ks)) H'
def tRu1 (pd pp : Addr) (H0 : Hp) (Q : VK) : TS := fun Dn σ H => ∃ (p pl ps : Addr) (a b : D) (c : List D) (ub : V) (xs : List V) (ws ks ns : List Str) (x5 : Option V), σ = [some (.ref p), some (.ref pl), some (.ref ps), some (.int (ks.length : Nat)), some (.ref pp), x5] ∧ (c.length = 1 ∨ c.length = 2) ∧ nmD a = true ∧ c.all nmD = true ∧ EltD ns b ∧ H p = some (.tup xs) ∧ VrA pd H xs (a :: b :: c) ∧ Pl pd pp H ns ∧ H pl = some (.lst (ws.map V.str)) ∧ H ps = some (.lst ((ws ++ ks).map V.str)) ∧ Dn.rt = Q ∧ Same H0 H ∧ ∀ H', Same H0 H' → Q (.str (kindRule (.tuple (a :: b :: c)) ws ks)) H'
theorem ok_rule {f : Addr} {fd : FuncData} (F : FnP K "_law_rule" sRule f fd) (ml : mg "len" = none) (mi : mg "isinstance" = none) (mt : mg "tuple" = none) (mL : mg "list" = none) :
    FnOk P w K mg base CX0 1 f fd ["_law_row", "_law_locks", "_law_seen", "_law_at", "_law_pool_here"] (spRule pd pp) := by
  refine F.ok scRule (fun vs H Q E h => ?_) (fun cdv A outer s H vs Q E hr h => ?_)
  · obtain ⟨v, d, pl, ps, ws, ks, ns, rfl, _⟩ := h
    rfl
  · obtain ⟨v, d, pl, ps, ws, ks, ns, rfl, hv, rw_, po, e1, e2, q⟩ := h
    have form : ∀ {e : D} {ws ks : List Str}, isDescr e = false → kindRule e ws ks = "form" := fun h => by
      unfold kindRule
      rw [h]
      rfl
    refine ⟨_, PSs.nox (pss_cons (ps_if (PW.pt (pw_or (pt_not (pt_val (pe_callB call_isi (by rfl) mi (by decide +kernel) (pa_cons (pv 0) (pa_cons (pe_bltn (v := .ty "tuple") (by rfl) mt (by decide +kernel) rfl) pa_nil)))))
        (pw_or (pt_cmpR op_lt (pe_callB call_len_seq (by rfl) ml PySem.boot_len (pa_cons (pv 0) pa_nil)) pe_int (nomark _)) (pw_or1 (pt_cmpR op_gt (pe_callB call_len_seq (by rfl) ml PySem.boot_len (pa_cons (pv 0) pa_nil)) pe_int (nomark _)))))) (pss_one (ps_ret pe_str)) pss_nil)
      (pss_cons (ps_for PassesOwn.never rfl (pi_list (pe_op op_cat (pe_lst (pa_cons (pe_ix ix_tup (pv 0) pe_int (fun _ _ => rfl)) pa_nil)) (pe_callTy call_list_of (by rfl) mL (by decide +kernel) (pa_cons (pe_slice (r := rSlH) sl_tupH (pv 0) (po_some pe_int) po_none) pa_nil)))) (pg_name (i := 5) scRule.nd rfl (.inl rfl))
        (pss_one (ps_if (pt_cmpR (r := rNotInD K) (op_notInD (u65 hr)) (pv 5) (pv 4) rfl) (pss_one (ps_ret pe_str)) pss_nil)))
      (imp (t' := tRu1 pd pp H Q)
      (pss_cons (ps_if (PW.pt (pw_and (pt_cmpR op_notN (pe_ix ix_tup (pv 0) pe_int (fun _ _ => rfl)) pe_non (nomark _)) (pw_and1 (pt_cmpR (r := rNotInD K) (op_notInD (u65 hr)) (pe_ix ix_tup (pv 0) pe_int (fun _ _ => rfl)) (pv 4) rfl)))) (pss_one (ps_ret pe_str)) pss_nil)
      (imp (t' := tRul pd pp (fun _ _ _ => True) H Q)
      (pss_cons (ps_if (pt_cmpR op_gt (pv 3) pe_int (nomark _)) (pss_one (ps_ret pe_str)) pss_nil)
      (pss_cons (ps_if (PW.pt (pw_or (pt_cmpR (r := rIn K false) op_in_seq (pe_ix ix_tup (pv 0) pe_int (fun _ _ => rfl)) (pv 2) rfl) (pw_or1 (PW.pt (pw_and (pt_cmpR op_eq (pe_callB call_len_seq (by rfl) ml PySem.boot_len (pa_cons (pv 0) pa_nil)) pe_int (nomark _)) (pw_and1 (pt_cmpR op_eq (pe_ix ix_tup (pv 0) pe_int (fun _ _ => rfl)) (pe_ix ix_tup (pv 0) pe_int (fun _ _ => rfl)) (nomark _)))))))) (pss_one (ps_ret pe_str)) pss_nil)
      (imp (t' := tRul pd pp (fun r ws ks => ¬ 3 ≤ ks.length ∧ ¬ (r.k ∈ ws ∨ r.k ∈ ks ∨ hasRep r.fs = true)) H Q)
      (pss_cons (ps_if (PW.pt (pw_and (pt_cmpR op_notN (pe_ix ix_tup (pv 0) pe_int (fun _ _ => rfl)) pe_non (nomark _)) (pw_and1 (pt_cmpR (r := rIn K true) op_notIn_seq (pe_ix ix_tup (pv 0) pe_int (fun _ _ => rfl)) (pv 1) rfl)))) (pss_one (ps_ret pe_str)) pss_nil)
      (pss_one (ps_ret pe_str))) (fun Dn σ H2 hm => ?s3))))
      (fun Dn σ H2 hm => ?s2))) (fun Dn σ H2 hm => ?s1)))), ?_⟩
    case s3 =>
      obtain ⟨p, pl, ps, r, ws, ks, x5, rfl, rok, ep, el, es, rt, s0, ⟨h1, h2⟩, q⟩ := hm
      have fin : ∀ v, Q v H2 → Dn.rt v H2 := fun v h => by rw [rt]; exact h
      have at1 : atI (V.str r.k :: optV r.l :: r.fs.map V.str) 1 = some (optV r.l) := show atI (V.str r.k :: optV r.l :: r.fs.map V.str) ((1 : Nat) : Int) = some (optV r.l) from atI_nat rfl
      have q1 := q H2 s0
      unfold rowRule at q1
      rw [if_neg h1, if_neg h2] at q1
      refine ⟨.ref p, rfl, p, _, 1, _, rfl, rfl, SqT.of ep, at1, rfl, _, rfl, ?_⟩
      cases hl2 : r.l with
      | none =>
        rw [hl2] at q1
        exact iteF (iteF (fin _ q1))
      | some x =>
        rw [hl2] at q1 at1 ep
        refine iteT ⟨.ref p, rfl, p, _, 1, .str x, rfl, rfl, SqT.of ep, at1, .ref pl, rfl, pl, _, rfl, .inl (SqL.of el), rfl, strs_flat ws, _, rfl, ?_⟩
        show if (!inV (V.str x) (ws.map V.str)) = true then _ else _
        rw [inV_mem]
        have q2 : Q (.str (if x ∈ ws then "" else "unknown")) H2 := q1
        refine ifN (fun h4 => ?_) (fun h4 => ?_)
        · rw [if_pos h4] at q2
          exact fin _ q2
        · rw [if_neg h4] at q2
          exact fin _ q2
    case s2 =>
      obtain ⟨p, pl, ps, r, ws, ks, x5, rfl, rok, ep, el, es, rt, s0, _, q⟩ := hm
      have fin : ∀ v, Q v H2 → Dn.rt v H2 := fun v h => by rw [rt]; exact h
      have q1 := q H2 s0
      unfold rowRule at q1
      refine ⟨.int (ks.length : Nat), rfl, _, _, rfl, rfl, _, rfl, ite2 (fun h1 => ?_) (fun h1 => ?_)⟩
      · have h1 := of_decide_eq_true h1
        rw [if_pos (by omega)] at q1
        exact fin _ q1
      have h1 : ¬ 3 ≤ ks.length := fun z => h1 (decide_eq_true (by omega))
      rw [if_neg h1] at q1
      have twice : (r.k ∈ ws ∨ r.k ∈ ks ∨ hasRep r.fs = true) → Dn.rt (.str "twice") H2 := fun z => by
        rw [if_pos z] at q1
        exact fin _ q1
      refine ⟨.ref p, rfl, p, _, 0, .str r.k, rfl, rfl, SqT.of ep, at0 _ _, .ref ps, rfl, ps, _, rfl, .inl (SqL.of es), rfl, strs_flat _, _, rfl, ?_⟩
      show if inV (V.str r.k) ((ws ++ ks).map V.str) = true then _ else _
      rw [inV_mem]
      refine ite2 (fun h2 => ?_) (fun h2 => ?_)
      · refine iteT (twice ?_)
        rcases List.mem_append.mp (of_decide_eq_true h2) with z | z
        · exact .inl z
        · exact .inr (.inl z)
      have h2 : r.k ∉ ws ++ ks := fun z => h2 (decide_eq_true z)
      have nt : hasRep r.fs = false → ¬ (r.k ∈ ws ∨ r.k ∈ ks ∨ hasRep r.fs = true) := fun z y => by
        rcases y with y | y | y
        · exact h2 (List.mem_append.mpr (.inl y))
        · exact h2 (List.mem_append.mpr (.inr y))
        · rw [z] at y
          cases y
      refine ⟨.ref p, rfl, p, _, rfl, .inr (SqT.of ep), rfl, _, rfl, ?_⟩
      obtain ⟨k, l, fs⟩ := r
      match fs, rok.n with
      | [f], _ =>
        refine iteF (iteF ⟨p, pl, ps, _, ws, ks, x5, rfl, rok, ep, el, es, rt, s0, ⟨h1, nt (by rfl)⟩, q⟩)
      | [f, g], _ =>
        have a2 : atI (V.str k :: optV l :: [f, g].map V.str) 2 = some (.str f) := show atI (V.str k :: optV l :: [f, g].map V.str) ((2 : Nat) : Int) = some (.str f) from atI_nat rfl
        have a3 : atI (V.str k :: optV l :: [f, g].map V.str) 3 = some (.str g) := show atI (V.str k :: optV l :: [f, g].map V.str) ((3 : Nat) : Int) = some (.str g) from atI_nat rfl
        have hr2 : hasRep [f, g] = decide (f = g) := by
          show (inV (.str f) (([] : List Str).map V.str) || (inV (.str g) ([f].map V.str) || false)) = _
          rw [inV_mem, inV_mem, Bool.or_false, decide_eq_false (by simp), Bool.false_or, decide_eq_decide]
          simp only [List.mem_singleton]
          exact eq_comm
        refine iteT ⟨.ref p, rfl, p, _, 2, .str f, rfl, rfl, SqT.of ep, a2, .ref p, rfl, p, _, 3, .str g, rfl, rfl, SqT.of ep, a3, rfl, _, rfl, ite2 (fun z => ?_) (fun z => ?_)⟩
        · have z : f = g := by injection of_decide_eq_true z
          exact twice (.inr (.inr (by rw [hr2]; exact decide_eq_true z)))
        · have z : ¬ f = g := fun e => z (decide_eq_true (by rw [e]))
          exact ⟨p, pl, ps, _, ws, ks, x5, rfl, rok, ep, el, es, rt, s0, ⟨h1, nt (by rw [hr2]; exact decide_eq_false z)⟩, q⟩
    case s1 =>
      obtain ⟨p, pl, ps, a, b, c, ub, xs, ws, ks, ns, x5, rfl, hc, na, nc, eb, ep, vx, po, el, es, rt, s0, q⟩ := hm
      have fin : ∀ v, Q v H2 → Dn.rt v H2 := fun v h => by rw [rt]; exact h
      have vx0 := vx
      cases vx with
      | @cons ua us _ _ va vx =>
      cases vx with
      | @cons ub uc _ _ vb vc =>
      have atB : atI (ua :: ub :: uc) 1 = some ub := show atI (ua :: ub :: uc) ((1 : Nat) : Int) = some ub from atI_nat rfl
      have ed : isDescr (.tuple (a :: b :: c)) = (isNo b || nmD b) := by
        show (decide (c.length = 1 ∨ c.length = 2) && ((isNo b || nmD b) && (nmD a && c.all nmD))) = _
        rw [decide_eq_true hc, na, nc, Bool.true_and, Bool.and_true, Bool.and_true]
      have go : (isNo b || nmD b) = true → tRul pd pp (fun _ _ _ => True) H Q Dn [some (.ref p), some (.ref pl), some (.ref ps), some (.int (ks.length : Nat)), some (.ref pp), x5] H2 := fun hb => by
        have hd : isDescr (.tuple (a :: b :: c)) = true := by rw [ed, hb]
        obtain ⟨e1, rok⟩ := descr_row hd
        have vr : VrA pd H2 (ua :: ub :: uc) (rowL (rowOf (.tuple (a :: b :: c)))) := by
          have e2 : a :: b :: c = rowL (rowOf (.tuple (a :: b :: c))) := by
            have e3 : PyData.tuple (a :: b :: c) = .tuple (rowL (rowOf (.tuple (a :: b :: c)))) := e1
            injection e3
          rw [← e2]
          exact vx0
        have q2 : ∀ H', Same H H' → Q (.str (rowRule (rowOf (.tuple (a :: b :: c))) ws ks)) H' := fun H' s' => by
          have := q H' s'
          unfold kindRule at this
          rw [if_pos hd] at this
          exact this
        generalize rowOf (.tuple (a :: b :: c)) = r at rok vr q2
        refine ⟨p, pl, ps, r, ws, ks, x5, rfl, rok, ?_, el, es, rt, s0, True.intro, q2⟩
        cases vr with
        | @cons _ _ _ _ wa vr =>
        cases vr with
        | @cons _ _ _ _ wb wc =>
          have e0 : ua = .str r.k := by cases wa; rfl
          have e1 := VrA.opt wb
          have e2 := wc.strs_inv
          subst e0
          subst e1
          subst e2
          exact ep
      refine ⟨.ref p, rfl, p, _, 1, ub, rfl, rfl, SqT.of ep, atB, rfl, _, rfl, ?_⟩
      rw [vb.non]
      cases hn : isNo b with
      | true => exact iteF (iteF (go (by rw [hn]; rfl)))
      | false =>
        refine iteT ⟨.ref p, rfl, p, _, 1, ub, rfl, rfl, SqT.of ep, atB, .ref pp, rfl, b, _, vb.dp K, po.dp, eb.sh, sh_pool po.po, _, rfl, ?_⟩
        rw [pool_any po.po eb.nm]
        cases hb : nmD b with
        | true => exact iteF (go (by rw [hb, Bool.or_true]))
        | false =>
          have z := q H2 s0
          rw [form (by rw [ed, hn, hb]; rfl)] at z
          exact iteT (fin _ z)
    obtain ⟨t0, ty0, kt0⟩ := hv.tupK (K := K)
    refine ⟨v, rfl, v, .ty "tuple", t0, .type "tuple", isTup d, rfl, .ty _, ty0, kt0, isTup d, rfl, ?_⟩
    have q0 : isDescr d = false → ∀ H', Same H H' → Q (.str "form") H' := fun h H' s' => by
      have := q H' s'
      rw [form h] at this
      exact this
    have hv0 := hv
    cases hv with
    | no => exact iteT (iteT (q0 rfl H (Same.refl _)))
    | bo b => exact iteT (iteT (q0 rfl H (Same.refl _)))
    | num i => exact iteT (iteT (q0 rfl H (Same.refl _)))
    | txt x => exact iteT (iteT (q0 rfl H (Same.refl _)))
    | li g1 g2 g3 => exact iteT (iteT (q0 rfl H (Same.refl _)))
    | tu g1 g2 g3 =>
      rename_i p xs ds
      have hlen := g3.len
      obtain ⟨l8, el8⟩ := rw_.el ds rfl
      have nd : ¬ (ds.length = 3 ∨ ds.length = 4) → isDescr (.tuple ds) = false := fun h => by
        match ds, h with
        | [], _ => rfl
        | [_], _ => rfl
        | _ :: _ :: c0, h =>
          have hc : decide (c0.length = 1 ∨ c0.length = 2) = false := decide_eq_false (by simp only [List.length_cons] at h; omega)
          show (decide (c0.length = 1 ∨ c0.length = 2) && _) = _
          rw [hc, Bool.false_and]
      refine iteF ⟨.ref p, rfl, p, xs, rfl, .inr (SqT.of g1), _, _, rfl, rfl, _, rfl, ite2 (fun h1 => ?_) (fun h1 => ?_)⟩
      · have h1 := of_decide_eq_true h1
        exact iteT (q0 (nd (by omega)) H (Same.refl _))
      have h1 : ¬ xs.length < 3 := fun z => h1 (decide_eq_true (by omega))
      refine ⟨.ref p, rfl, p, xs, rfl, .inr (SqT.of g1), _, _, rfl, rfl, _, rfl, ite2 (fun h2 => ?_) (fun h2 => ?_)⟩
      · have h2 := of_decide_eq_true h2
        exact q0 (nd (by omega)) H (Same.refl _)
      have h2 : ¬ 4 < xs.length := fun z => h2 (decide_eq_true (by omega))
      obtain ⟨a, b, c, rfl⟩ : ∃ a b c, ds = a :: b :: c := by
        match ds, hlen with
        | [], hlen =>
          simp only [List.length_nil] at hlen
          omega
        | [_], hlen =>
          simp only [List.length_cons, List.length_nil] at hlen
          omega
        | a :: b :: c, _ => exact ⟨a, b, c, rfl⟩
      have hc : c.length = 1 ∨ c.length = 2 := by
        simp only [List.length_cons] at hlen
        omega
      have g30 := g3
      cases g3 with
      | @cons ua us _ _ va g3 =>
      cases g3 with
      | @cons ub uc _ _ vb vc =>
      have lc := vc.len
      refine ⟨.ref p, rfl, p, _, 0, ua, rfl, rfl, SqT.of g1, at0 _ _, by show 1 ≤ sizeLine; decide, fun L1 n1 => ?_⟩
      have s1 : Same H (upd H L1 (.lst [ua])) := same_upd n1
      have eL1 : upd H L1 (.lst [ua]) L1 = some (.lst [ua]) := upd_same
      generalize upd H L1 (.lst [ua]) = G at s1 eL1
      refine ⟨.ref p, rfl, 2, rfl, p, _, rfl, s1 _ _ g1, fun p2 H3 s3 hp2 ho2 => ?_⟩
      have ec : cutV (ua :: ub :: uc) (some 2) none = uc := cut_from (ua :: ub :: uc) 2
      rw [ec] at hp2
      refine ⟨p2, _, rfl, .inr (SqT.of hp2), fun L2 n2 => ?_⟩
      have s4 : Same H3 (upd H3 L2 (.lst uc)) := same_upd n2
      have eL2 : upd H3 L2 (.lst uc) L2 = some (.lst uc) := upd_same
      generalize upd H3 L2 (.lst uc) = G4 at s4 eL2
      have s14 := (s1.trans s3).trans s4
      refine ⟨L1, L2, _, _, rfl, rfl, s4 _ _ (s3 _ _ eL1), eL2, by rw [sizeLine_eq]; simp only [List.length_cons, List.length_nil]; omega, fun L3 n3 => ?_⟩
      have s5 : Same G4 (upd G4 L3 (.lst ([ua] ++ uc))) := same_upd n3
      have eL3 : upd G4 L3 (.lst ([ua] ++ uc)) L3 = some (.lst ([ua] ++ uc)) := upd_same
      have s15 := s14.trans s5
      generalize upd G4 L3 (.lst ([ua] ++ uc)) = G5 at s15 eL3
      have v5 : VrA pd G5 (ua :: uc) (a :: c) := (VrA.cons va vc).same s15
      have po5 : Pl pd pp G5 ns := ⟨s15 _ _ po.at_, po.ne, po.po⟩
      refine ⟨L3, rfl, ⟨_, SqL.of eL3⟩, for_it (walk_list (xs := ua :: uc)) (fun i σ H6 => ∃ x5, σ = [some (.ref p), some (.ref pl), some (.ref ps), some (.int (ks.length : Nat)), some (.ref pp), x5] ∧ H6 = G5 ∧ ((a :: c).take i).all nmD = true) ⟨none, rfl, rfl, rfl⟩ (fun _ _ _ _ ⟨_, _, e, _⟩ => by rw [e]; exact SqL.of eL3) ?_ ?_⟩
      · rintro i u σ H6 H7 hi ⟨x5, rfl, rfl, hall⟩ ⟨rfl, hu⟩
        obtain ⟨d, hd, vd⟩ := v5.get hu
        have ed : EltD ns d := by
          have hm := List.mem_of_getElem? hd
          rcases List.mem_cons.mp hm with rfl | hm
          · exact el8 _ List.mem_cons_self
          · exact el8 _ (List.mem_cons_of_mem _ (List.mem_cons_of_mem _ hm))
        refine ⟨u, rfl, .ref pp, rfl, d, _, vd.dp K, po5.dp, ed.sh, sh_pool po.po, _, rfl, ?_⟩
        rw [pool_any po.po ed.nm]
        cases hn : nmD d with
        | true =>
          refine iteF ⟨_, rfl, rfl, ?_⟩
          rw [List.take_add_one, hd, List.all_append, hall]
          show (true && ([d].all nmD)) = true
          simp [hn]
        | false =>
          refine iteT (q0 ?_ _ s15)
          have hm := List.mem_of_getElem? hd
          have hac : (nmD a && c.all nmD) = false := by
            cases h7 : (nmD a && c.all nmD) with
            | false => rfl
            | true =>
              rw [Bool.and_eq_true] at h7
              rcases List.mem_cons.mp hm with rfl | hm
              · rw [hn] at h7
                cases h7.1
              · have := List.all_eq_true.mp h7.2 d hm
                rw [hn] at this
                cases this
          show (decide (c.length = 1 ∨ c.length = 2) && ((isNo b || nmD b) && (nmD a && c.all nmD))) = false
          rw [hac, Bool.and_false, Bool.and_false]
      · rintro σ H6 ⟨x5, rfl, rfl, hall⟩
        have la : (ua :: uc).length = (a :: c).length := v5.len
        rw [la, List.take_length] at hall
        have hall : (nmD a && c.all nmD) = true := hall
        rw [Bool.and_eq_true] at hall
        exact ⟨p, pl, ps, a, b, c, ub, _, ws, ks, ns, x5, rfl, hc, hall.1, hall.2, el8 _ (List.mem_cons_of_mem _ List.mem_cons_self), s15 _ _ g1, g30.same s15, po5, s15 _ _ e1, s15 _ _ e2, rfl, s15, q⟩
end
end K01
namespace K01
open PySem PySem.Spec PyProof.Rows L2
abbrev sJudge : Stmt := top 28
theorem scJudge : FnScope ["_law_locks", "_law_rows", "_law_pool_here", "_law_seen", "_law_at", "_law_lock_here", "_law_row", "_law_rule_here"] ["_law_locks", "_law_rows", "_law_pool_here"] (defScope sJudge) := ⟨rfl, rfl, rfl, by decide +kernel, rfl, by decide +kernel, by decide +kernel⟩
section
variable {P : Program} {w : World} {K : PySem.W.Frag} {mg : Str → Option Value} {base : Heap} {aR pd pp : Addr}
def spJudge (pd pp : Addr) : Sp := fun vs H Q _ => ∃ (a b : Addr) (xs ys : List V) (ls rs : List D) (ns : List Str), vs = [.ref a, .ref b, .ref pp] ∧ H a = some (.lst xs) ∧ VrA pd H xs ls ∧ H b = some (.lst ys) ∧ VrA pd H ys rs ∧ (∀ d ∈ ls, LkD ns d) ∧ (∀ d ∈ rs, RwD ns d) ∧ Pl pd pp H ns ∧ ls.length ≤ 100 ∧ rs.length ≤ 100 ∧
  (hallF ls rs = none → ∀ H', Same H H' → Q .non H') ∧ (∀ n r, hallF ls rs = some (n, r) → ∀ p H', Same H H' → H p = none → H' p = some (.tup [.int (n : Nat), .str r]) → Q (.ref p) H')
theorem ok_judge {f fR : Addr} {fd fdR : FuncData} (F : FnP K "_law_judge" sJudge f fd) (FR : FnP K "_law_rule" sRule fR fdR) (gR : mg "_law_rule" = some (.ref fR)) (ml : mg "len" = none) (mi : mg "isinstance" = none) (mt : mg "tuple" = none) (mL : mg "list" = none) (me : mg "enumerate" = none) :
    FnOk P w K mg base CX0 2 f fd ["_law_locks", "_law_rows", "_law_pool_here"] (spJudge pd pp) := by
  have GR : FnOk P w K mg base CX0 1 fR fdR ["_law_row", "_law_locks", "_law_seen", "_law_at", "_law_pool_here"] (spRule pd pp) := ok_rule FR ml mi mt mL
  have bR : Binds K fdR ["_law_row", "_law_locks", "_law_seen", "_law_at", "_law_pool_here"] [] := FR.bindsN fun _ _ _ _ _ _ us hl => match us, hl with | [_, _, _, _, _], _ => rfl
  refine F.ok scJudge (fun vs H Q E h => ?_) (fun cdv A outer s H vs Q E hr h => ?_)
  · obtain ⟨a, b, xs, ys, ls, rs, ns, rfl, _⟩ := h
    rfl
  · obtain ⟨a, b, xs, ys, ls, rs, ns, rfl, ha, hx, hb, hy, kl, kr, po, nl, nr, qn, qs⟩ := h
    refine ⟨_, PSs.nox (pss_cons (ps_set (i := 3) scJudge.nd rfl (.inl rfl) (pe_lst pa_nil))
      (pss_cons (ps_for PassesOwn.never rfl (pi_enum (by rfl) me (pa_cons (pv 0) pa_nil)) (pg_tup rfl (pgs_cons (pg_name (i := 4) scJudge.nd rfl (.inl rfl)) (pgs_cons (pg_name (i := 5) scJudge.nd rfl (.inl rfl)) pgs_nil)))
        (pss_cons (ps_if (pt_cmpR (r := rNotInD K) (op_notInD (u65 hr)) (pv 5) (pv 2) rfl) (pss_one (ps_ret (pe_tup (pa_cons (pe_op op_add (pv 4) pe_int) (pa_cons pe_str pa_nil))))) pss_nil)
        (pss_cons (ps_if (pt_cmpR op_gt (pv 4) pe_int (nomark _)) (pss_one (ps_ret (pe_tup (pa_cons (pe_op op_add (pv 4) pe_int) (pa_cons pe_str pa_nil))))) pss_nil)
        (pss_cons (ps_if (pt_cmpR (r := rIn K false) op_in_seq (pv 5) (pv 3) rfl) (pss_one (ps_ret (pe_tup (pa_cons (pe_op op_add (pv 4) pe_int) (pa_cons pe_str pa_nil))))) pss_nil)
        (pss_one (ps_expr (pe_bm PySem.F.plainAttrs_list PySem.F.slot_list_append PySem.F.type_list_append mt_append (pv 3) (pa_cons (pv 5) pa_nil))))))))
      (pss_cons (ps_for PassesOwn.never rfl (pi_enum (by rfl) me (pa_cons (pv 1) pa_nil)) (pg_tup rfl (pgs_cons (pg_name (i := 4) scJudge.nd rfl (.inl rfl)) (pgs_cons (pg_name (i := 6) scJudge.nd rfl (.inl rfl)) pgs_nil)))
        (pss_cons (ps_set (i := 7) scJudge.nd rfl (.inl rfl) (pe_call GR hr (by rfl) gR FR.kp bR .nil pass0 (pa_cons (pv 6) (pa_cons (pv 0) (pa_cons (pv 3) (pa_cons (pv 4) (pa_cons (pv 2) pa_nil)))))))
        (pss_cons (ps_if (pt_cmpR op_ne (pv 7) pe_str (nomark _)) (pss_one (ps_ret (pe_tup (pa_cons (pe_op op_add (pe_op op_add (pe_callB call_len_seq (by rfl) ml PySem.boot_len (pa_cons (pv 0) pa_nil)) (pv 4)) pe_int) (pa_cons (pv 7) pa_nil))))) pss_nil)
        (pss_one (ps_expr (pe_bm PySem.F.plainAttrs_list PySem.F.slot_list_append PySem.F.type_list_append mt_append (pv 3) (pa_cons (pe_ix ix_tup (pv 6) pe_int (fun _ _ => rfl)) pa_nil)))))))
      (pss_cons (ps_if (pt_cmpR op_eq (pe_callB call_len_seq (by rfl) ml PySem.boot_len (pa_cons (pv 1) pa_nil)) pe_int (nomark _)) (pss_one (ps_ret (pe_tup (pa_cons (pe_op op_add (pe_callB call_len_seq (by rfl) ml PySem.boot_len (pa_cons (pv 0) pa_nil)) pe_int) (pa_cons pe_str pa_nil))))) pss_nil)
      (pss_one (ps_ret pe_non)))))), ?_⟩
    have lx := hx.len
    have ly := hy.len
    have two : (2 : Nat) ≤ sizeLine := by decide
    refine ⟨Nat.zero_le _, fun p5 n5 => ?_⟩
    have s0 : Same H (upd H p5 (.lst [])) := same_upd n5
    refine ⟨.ref a, rfl, a, xs, rfl, SqL.of (s0 _ _ ha), for_it walk_enum (fun i σ H3 => ∃ (y4 y5 : Option V) (ws : List Str), σ = [some (.ref a), some (.ref b), some (.ref pp), some (.ref p5), y4, y5, none, none] ∧ Same H H3 ∧ H3 p5 = some (.lst (ws.map V.str)) ∧ ls.take i = ws.map .str ∧ ws.length = i ∧ lockF [] ls = lockF ws (ls.drop i))
      ⟨none, none, [], rfl, s0, upd_same, rfl, rfl, rfl⟩ (fun _ _ _ _ ⟨_, _, _, _, sm, _⟩ => SqL.of (sm _ _ ha)) ?_ ?_⟩
    · rintro i xv σ H3 H4 hi ⟨y4, y5, ws, rfl, sm, e5, ew, lw, ef⟩ ⟨T, v1, v2, rfl, nT, rfl, e1, e2⟩
      cases e1
      have e2 : xs[i]? = some v2 := e2
      obtain ⟨d, hd, vd⟩ := hx.get e2
      have s1 : Same H3 (upd H3 T (.tup [.int (i : Nat), v2])) := same_upd nT
      have eT : upd H3 T (.tup [.int (i : Nat), v2]) T = some (.tup [.int (i : Nat), v2]) := upd_same
      generalize upd H3 T (.tup [.int (i : Nat), v2]) = G at s1 eT
      have sm4 := sm.trans s1
      have e54 := s1 _ _ e5
      have dr : ls.drop i = d :: ls.drop (i + 1) := List.drop_eq_getElem?_toList_append.trans (by rw [hd]; rfl)
      rw [dr] at ef
      have ef : lockF [] ls = if lockRule d ws = "" then lockF (ws ++ [toStr d]) (ls.drop (i + 1)) else some (ws.length + 1, lockRule d ws) := ef
      have ed := (kl d (List.mem_of_getElem? hd)).elt po.po
      have po4 : Pl pd pp G ns := ⟨sm4 _ _ po.at_, po.ne, po.po⟩
      have ne1 : ("form" : Str) ≠ "" := by decide +kernel
      have ne2 : ("many" : Str) ≠ "" := by decide +kernel
      have ne3 : ("twice" : Str) ≠ "" := by decide +kernel
      have bad : ∀ r : Str, r ≠ "" → lockRule d ws = r → ∀ p2, G p2 = none → Q (.ref p2) (upd G p2 (.tup [.int ((i : Int) + 1), .str r])) := fun r hne hr2 p2 np2 => by
        rw [if_neg (by rw [hr2]; exact hne)] at ef
        have e9 : hallF ls rs = some (ws.length + 1, lockRule d ws) := by
          unfold hallF
          rw [ef]
        refine qs _ _ e9 p2 _ (sm4.trans (same_upd np2)) (sm4.free np2) ?_
        rw [upd_same, lw, hr2]
        rfl
      refine ⟨T, _, rfl, SqT.of eT, rfl, .int (i : Nat), [v2], rfl, v2, [], rfl, rfl, ?_⟩
      refine ⟨v2, rfl, .ref pp, rfl, d, _, (vd.same sm4).dp K, po4.dp, ed.sh, sh_pool po.po, _, rfl, ?_⟩
      rw [pool_any po.po ed.nm]
      cases hn : nmD d with
      | false => exact iteT ⟨.int (i : Nat), rfl, _, _, rfl, rfl, two, bad "form" ne1 (by unfold lockRule; rw [hn]; rfl)⟩
      | true =>
        refine iteF ⟨.int (i : Nat), rfl, _, _, rfl, rfl, _, rfl, ite2 (fun h1 => ?_) (fun h1 => ?_)⟩
        · have h1 := of_decide_eq_true h1
          exact ⟨.int (i : Nat), rfl, _, _, rfl, rfl, two, bad "many" ne2 (by unfold lockRule; rw [hn, if_pos rfl, if_pos (by omega)])⟩
        have h1 : ¬ 4 ≤ ws.length := fun z => h1 (decide_eq_true (by omega))
        obtain ⟨e3, _⟩ := nm_str hn
        have ev : v2 = .str (toStr d) := by
          rw [e3] at vd
          cases vd
          rfl
        subst ev
        refine ⟨_, rfl, .ref p5, rfl, p5, _, rfl, .inl (SqL.of e54), rfl, strs_flat ws, _, rfl, ?_⟩
        show if inV (V.str (toStr d)) (ws.map V.str) = true then _ else _
        rw [inV_mem]
        refine ite2 (fun h2 => ?_) (fun h2 => ?_)
        · exact ⟨.int (i : Nat), rfl, _, _, rfl, rfl, two, bad "twice" ne3 (by unfold lockRule; rw [hn, if_pos rfl, if_neg h1, if_pos (of_decide_eq_true h2)])⟩
        have h2 : toStr d ∉ ws := fun z => h2 (decide_eq_true z)
        have hr2 : lockRule d ws = "" := by unfold lockRule; rw [hn, if_pos rfl, if_neg h1, if_neg h2]
        rw [if_pos hr2] at ef
        refine ⟨.ref p5, rfl, .inl ⟨rfl, _, SqL.of e54⟩, _, rfl, p5, _, _, rfl, rfl, e54, small1000 (by rw [List.length_map]; omega), ?_⟩
        refine ⟨_, _, ws ++ [toStr d], rfl, Same.put sm4 n5, ?_, ?_, by rw [List.length_append, lw]; rfl, ef⟩
        · rw [upd_same, List.map_append]
          rfl
        · rw [List.take_add_one, hd, ew, List.map_append]
          show _ ++ [d] = _ ++ [PyData.str (toStr d)]
          rw [← e3]
    · rintro σ H3 ⟨y4, y5, ws, rfl, sm, e5, ew, lw, ef⟩
      rw [lx, List.take_length] at ew
      rw [lx] at lw
      rw [lx, List.drop_length] at ef
      have ef : lockF [] ls = none := ef
      have em : ls.map toStr = ws := by rw [ew, toStr_map]
      have ea : xs = ws.map V.str := by
        have z := hx
        rw [ew] at z
        exact z.strs_inv
      have eh : ∀ o, (match kindF ls.length ws [] rs with | some p => some p | none => if rs.length = 0 then some (ls.length + 1, ("end" : Str)) else none) = o → hallF ls rs = o := fun o z => by
        unfold hallF
        rw [ef, em]
        exact z
      refine ⟨.ref b, rfl, b, ys, rfl, SqL.of (sm _ _ hb), for_it walk_enum (fun j σ H4 => ∃ (z4 z5 z6 z7 : Option V) (ks : List Str), σ = [some (.ref a), some (.ref b), some (.ref pp), some (.ref p5), z4, z5, z6, z7] ∧ Same H H4 ∧ H4 p5 = some (.lst ((ws ++ ks).map V.str)) ∧ ks.length = j ∧ kindF ls.length ws [] rs = kindF ls.length ws ks (rs.drop j))
        ⟨y4, y5, none, none, [], rfl, sm, by rw [List.append_nil]; exact e5, rfl, rfl⟩ (fun _ _ _ _ ⟨_, _, _, _, _, _, sm, _⟩ => SqL.of (sm _ _ hb)) ?_ ?_⟩
      · rintro j xv σ H4 H5 hj ⟨z4, z5, z6, z7, ks, rfl, sm4, e54, lk, ek⟩ ⟨T, v1, v2, rfl, nT, rfl, e1, e2⟩
        cases e1
        have e2 : ys[j]? = some v2 := e2
        obtain ⟨d, hd, vd⟩ := hy.get e2
        have s1 : Same H4 (upd H4 T (.tup [.int (j : Nat), v2])) := same_upd nT
        have eT : upd H4 T (.tup [.int (j : Nat), v2]) T = some (.tup [.int (j : Nat), v2]) := upd_same
        generalize upd H4 T (.tup [.int (j : Nat), v2]) = G at s1 eT
        have sm5 := sm4.trans s1
        have e55 := s1 _ _ e54
        have dr : rs.drop j = d :: rs.drop (j + 1) := List.drop_eq_getElem?_toList_append.trans (by rw [hd]; rfl)
        rw [dr] at ek
        have ek : kindF ls.length ws [] rs = if kindRule d ws ks = "" then kindF ls.length ws (ks ++ [(rowOf d).k]) (rs.drop (j + 1)) else some (ls.length + ks.length + 1, kindRule d ws ks) := ek
        have hk : ks.length ≤ 100 := by omega
        have po5 : Pl pd pp G ns := ⟨sm5 _ _ po.at_, po.ne, po.po⟩
        refine ⟨T, _, rfl, SqT.of eT, rfl, .int (j : Nat), [v2], rfl, v2, [], rfl, rfl, ?_⟩
        refine ⟨v2, rfl, .ref a, rfl, .ref p5, rfl, .int (j : Nat), rfl, .ref pp, rfl, v2, d, a, p5, ws, ks, ns, by rw [lk]; rfl, vd.same sm5, kr d (List.mem_of_getElem? hd), po5, by rw [← ea]; exact sm5 _ _ ha, e55, fun H6 s6 => ?_⟩
        have sm6 := sm5.trans s6
        have e56 := s6 _ _ e55
        refine ⟨_, rfl, rfl, _, rfl, ?_⟩
        by_cases h1 : kindRule d ws ks = ""
        · rw [if_pos h1] at ek
          obtain ⟨hn, _⟩ := kindRule_ok h1
          obtain ⟨er, _⟩ := descr_row hn
          have vr : Vr pd H6 v2 (rowD (rowOf d)) := by
            rw [← er]
            exact vd.same sm6
          generalize rowOf d = r at vr ek
          have hb1 : (!decide (V.str (kindRule d ws ks) = V.str "")) = false := by rw [h1]; rfl
          rw [hb1]
          cases vr with
          | @tu p us _ g1 g2 g3 =>
            cases g3 with
            | @cons u0 ut _ _ va vt =>
              have ev : u0 = .str r.k := by cases va; rfl
              subst ev
              refine iteF ⟨.ref p5, rfl, .inl ⟨rfl, _, SqL.of e56⟩, .ref p, rfl, p, _, 0, .str r.k, rfl, rfl, SqT.of g1, at0 _ _, p5, _, _, rfl, rfl, e56, small1000 (by rw [List.length_map, List.length_append]; omega), ?_⟩
              refine ⟨_, _, _, _, ks ++ [r.k], rfl, Same.put sm6 n5, ?_, by rw [List.length_append, lk]; rfl, ek⟩
              rw [upd_same, ← List.append_assoc, List.map_append (l₁ := ws ++ ks)]
              rfl
        · rw [if_neg h1] at ek
          have hb1 : (!decide (V.str (kindRule d ws ks) = V.str "")) = true := by
            rw [decide_eq_false (fun z => h1 (by injection z))]
            rfl
          rw [hb1]
          refine iteT ⟨.ref a, rfl, a, _, rfl, .inl (SqL.of (sm6 _ _ ha)), .int (j : Nat), rfl, _, _, rfl, rfl, _, 1, rfl, rfl, _, rfl, two, fun p2 np2 => ?_⟩
          refine qs _ _ (eh _ (by rw [ek])) p2 _ (sm6.trans (same_upd np2)) (sm6.free np2) ?_
          rw [upd_same, lx, lk]
          rfl
      · rintro σ H4 ⟨z4, z5, z6, z7, ks, rfl, sm4, e54, lk, ek⟩
        rw [ly] at lk
        rw [ly, List.drop_length] at ek
        have ek : kindF ls.length ws [] rs = none := ek
        refine ⟨.ref b, rfl, b, _, rfl, .inl (SqL.of (sm4 _ _ hb)), rfl, _, rfl, ite2 (fun h1 => ?_) (fun h1 => ?_)⟩
        · have hr0 : rs.length = 0 := by
            have z := of_decide_eq_true h1
            injection z with z
            omega
          refine ⟨.ref a, rfl, a, _, rfl, .inl (SqL.of (sm4 _ _ ha)), _, 1, rfl, rfl, two, fun p2 np2 => ?_⟩
          refine qs _ _ (eh _ (by rw [ek]; exact if_pos hr0)) p2 _ (sm4.trans (same_upd np2)) (sm4.free np2) ?_
          rw [upd_same, lx]
          rfl
        · have hr0 : ¬ rs.length = 0 := fun z => h1 (decide_eq_true (by rw [ly, z]; rfl))
          exact qn (eh _ (by rw [ek]; exact if_neg hr0)) H4 sm4
end
end K01
namespace K01
open PySem PySem.Spec PyProof.Rows L2
abbrev sMade : Stmt := top 29
theorem scMade : FnScope ["_law_locks", "_law_rows"] ["_law_locks", "_law_rows"] (defScope sMade) := ⟨rfl, rfl, rfl, by decide +kernel, rfl, by decide +kernel, by decide +kernel⟩
section
variable {P : Program} {w : World} {K : PySem.W.Frag} {mg : Str → Option Value} {base : Heap} {aR pd C CL : Addr}
def spIn2 (pd C CL : Addr) : Sp := fun vs H Q E => ∃ ws rest, vs = ws ++ rest ∧ ws.length = 2 ∧ rest.length ≤ sizeLine ∧ ∀ p, H p = none → spIni pd C CL (ws ++ [V.ref p]) (upd H p (.tup rest)) Q E
def spMade (pd C CL : Addr) : Sp := fun vs H Q E => ∃ (pl pr : Addr) (xl xr : List V) (ls rs : List D), vs = [.ref pl, .ref pr] ∧ (∃ o, H pd = some o) ∧ H pl = some (.lst xl) ∧ VrA pd H xl ls ∧ H pr = some (.lst xr) ∧ VrA pd H xr rs ∧ (∀ d ∈ ls, LiS d) ∧ (∀ d ∈ rs, LiT d) ∧ ls.length ≤ 100 ∧ rs.length ≤ 5 ∧
  (hallF ls rs = none → ∀ x H' ws qs, Same H H' → H x = none → ls = ws.map .str → rs = qs.map rowD → Hok ws qs → HallAt pd C H' x ws qs → Q (.ref x) H') ∧
  (∀ n r, hallF ls rs = some (n, r) → ∀ d H', Same H H' → H d = none → H' d = some (.xd [("rule", .str r), ("line", .int (n : Nat))]) → E (.ref CL) (some d) H')
theorem ini_q {H : Hp} {Q : VK} {E : XK} {pl : Addr} {xl xr : List V} {ls rs : List D} (hpd : ∃ o, H pd = some o) (el : H pl = some (.lst xl)) (vl : VrA pd H xl ls) (vr : VrA pd H xr rs) (ll : ∀ d ∈ ls, LiS d) (lr : ∀ d ∈ rs, LiT d) (nl : ls.length ≤ 100) (nr : rs.length ≤ 5)
    (yes : hallF ls rs = none → ∀ x H' ws qs, Same H H' → H x = none → ls = ws.map .str → rs = qs.map rowD → Hok ws qs → HallAt pd C H' x ws qs → Q (.ref x) H')
    (nope : ∀ n r, hallF ls rs = some (n, r) → ∀ d H', Same H H' → H d = none → H' d = some (.xd [("rule", .str r), ("line", .int (n : Nat))]) → E (.ref CL) (some d) H') :
    ∀ x dx, H x = none → H dx = none → dx ≠ x → spIn2 pd C CL (V.ref x :: V.ref pl :: xr) (upd (upd H dx (.own x)) x (.ins C dx [])) (fun v H2 => v = .non ∧ Q (.ref x) H2) E := by
  intro x dx nx ndx nd
  have lx := vr.len
  refine ⟨[.ref x, .ref pl], xr, rfl, rfl, by rw [lx, sizeLine_eq]; omega, fun p np => ?_⟩
  have mx : x ≠ pd := not_pd hpd nx
  have s1 : Same H (upd H dx (.own x)) := same_upd ndx
  have nx1 : upd H dx (.own x) x = none := by rw [upd_ne nd.symm]; exact nx
  have s2 : Same (upd H dx (.own x)) (upd (upd H dx (.own x)) x (.ins C dx [])) := same_upd nx1
  have ex : upd (upd H dx (.own x)) x (.ins C dx []) x = some (.ins C dx []) := upd_same
  generalize upd (upd H dx (.own x)) x (.ins C dx []) = G at s2 ex np
  have s12 := s1.trans s2
  have s3 : Same G (upd G p (.tup xr)) := same_upd np
  have ep : upd G p (.tup xr) p = some (.tup xr) := upd_same
  have s13 := s12.trans s3
  have mp : p ≠ pd := not_pd (let ⟨o, h⟩ := hpd; ⟨o, s12 _ _ h⟩) np
  generalize upd G p (.tup xr) = G3 at s3 ep s13
  refine ⟨x, dx, pl, p, xl, xr, ls, rs, rfl, s3 _ _ ex, mx, let ⟨o, h⟩ := hpd; ⟨o, s13 _ _ h⟩, s13 _ _ el, vl.same s13, ep, mp, vr.same s13, ll, lr, nl, by omega, fun hn H' ws qs k e1 e2 ok hh => ⟨rfl, yes hn x H' ws qs (fun b o e => k b o (s13 _ _ e) (ne_of_none e nx)) nx e1 e2 ok hh⟩, fun n r hf d H' k nd2 ed => nope n r hf d H' (s13.trans k) (s13.free nd2) ed⟩
theorem ok_made {f fI : Addr} {fd : FuncData} (F : FnP K "_law_made" sMade f fd) (GI : FnR P w K mg base (L2.CX P w) 5 fI (spIn2 pd C CL)) (M : Mk K C fI) (gC : mg "Hall" = some (.ref C)) (ml : mg "len" = none) :
    FnOk P w K mg base (L2.CX P w) 7 f fd ["_law_locks", "_law_rows"] (spMade pd C CL) := by
  refine F.ok scMade (fun vs H Q E h => ?_) (fun cdv A outer s H vs Q E hr h => ?_)
  · obtain ⟨pl, pr, xl, xr, ls, rs, rfl, _⟩ := h
    rfl
  · obtain ⟨pl, pr, xl, xr, ls, rs, rfl, hpd, el, vl, er, vr, ll, lr, nl, nr, yes, nope⟩ := h
    refine ⟨_, (pss_cons (ps_if (pt_cmpR op_eq (pe_callB call_len_seq (by rfl) ml PySem.boot_len (pa_cons (pv 1) pa_nil)) pe_int (nomark _)) (pss_one (ps_ret (StX.pe_makeR M GI hr (by rfl) gC (passes_call (takes_of rfl rfl rfl rfl) (fun _ _ _ _ h => h)) (pa_cons (pv 0) pa_nil)))) pss_nil)
      (pss_cons (ps_if (pt_cmpR op_eq (pe_callB call_len_seq (by rfl) ml PySem.boot_len (pa_cons (pv 1) pa_nil)) pe_int (nomark _)) (pss_one (ps_ret (StX.pe_makeR M GI hr (by rfl) gC (passes_call (takes_of rfl rfl rfl rfl) (fun _ _ _ _ h => h)) (pa_cons (pv 0) (pa_cons (pe_ix ix_list (pv 1) pe_int (fun _ _ => rfl)) pa_nil))))) pss_nil)
      (pss_cons (ps_if (pt_cmpR op_eq (pe_callB call_len_seq (by rfl) ml PySem.boot_len (pa_cons (pv 1) pa_nil)) pe_int (nomark _)) (pss_one (ps_ret (StX.pe_makeR M GI hr (by rfl) gC (passes_call (takes_of rfl rfl rfl rfl) (fun _ _ _ _ h => h)) (pa_cons (pv 0) (pa_cons (pe_ix ix_list (pv 1) pe_int (fun _ _ => rfl)) (pa_cons (pe_ix ix_list (pv 1) pe_int (fun _ _ => rfl)) pa_nil)))))) pss_nil)
      (pss_cons (ps_if (pt_cmpR op_eq (pe_callB call_len_seq (by rfl) ml PySem.boot_len (pa_cons (pv 1) pa_nil)) pe_int (nomark _)) (pss_one (ps_ret (StX.pe_makeR M GI hr (by rfl) gC (passes_call (takes_of rfl rfl rfl rfl) (fun _ _ _ _ h => h)) (pa_cons (pv 0) (pa_cons (pe_ix ix_list (pv 1) pe_int (fun _ _ => rfl)) (pa_cons (pe_ix ix_list (pv 1) pe_int (fun _ _ => rfl)) (pa_cons (pe_ix ix_list (pv 1) pe_int (fun _ _ => rfl)) pa_nil))))))) pss_nil)
      (pss_cons (ps_if (pt_cmpR op_eq (pe_callB call_len_seq (by rfl) ml PySem.boot_len (pa_cons (pv 1) pa_nil)) pe_int (nomark _)) (pss_one (ps_ret (StX.pe_makeR M GI hr (by rfl) gC (passes_call (takes_of rfl rfl rfl rfl) (fun _ _ _ _ h => h)) (pa_cons (pv 0) (pa_cons (pe_ix ix_list (pv 1) pe_int (fun _ _ => rfl)) (pa_cons (pe_ix ix_list (pv 1) pe_int (fun _ _ => rfl)) (pa_cons (pe_ix ix_list (pv 1) pe_int (fun _ _ => rfl)) (pa_cons (pe_ix ix_list (pv 1) pe_int (fun _ _ => rfl)) pa_nil)))))))) pss_nil)
      (pss_one (ps_ret (StX.pe_makeR M GI hr (by rfl) gC (passes_call (takes_of rfl rfl rfl rfl) (fun _ _ _ _ h => h)) (pa_cons (pv 0) (pa_cons (pe_ix ix_list (pv 1) pe_int (fun _ _ => rfl)) (pa_cons (pe_ix ix_list (pv 1) pe_int (fun _ _ => rfl)) (pa_cons (pe_ix ix_list (pv 1) pe_int (fun _ _ => rfl)) (pa_cons (pe_ix ix_list (pv 1) pe_int (fun _ _ => rfl)) (pa_cons (pe_ix ix_list (pv 1) pe_int (fun _ _ => rfl)) pa_nil)))))))))))))), ?_⟩
    have Z := ini_q (C := C) (CL := CL) hpd el vl vr ll lr nl nr yes nope
    have lx := vr.len
    match xr, er, Z, lx with
    | [], er, Z, lx => exact ⟨.ref pr, rfl, pr, _, rfl, .inl (SqL.of er), rfl, _, rfl, iteT ⟨.ref pl, rfl, Z⟩⟩
    | [a], er, Z, lx => exact ⟨.ref pr, rfl, pr, _, rfl, .inl (SqL.of er), rfl, _, rfl, iteF ⟨.ref pr, rfl, pr, _, rfl, .inl (SqL.of er), rfl, _, rfl, iteT ⟨.ref pl, rfl, .ref pr, rfl, pr, _, 0, a, rfl, rfl, SqL.of er, show atI _ ((0 : Nat) : Int) = some a from atI_nat rfl, Z⟩⟩⟩
    | [a, b], er, Z, lx => exact ⟨.ref pr, rfl, pr, _, rfl, .inl (SqL.of er), rfl, _, rfl, iteF ⟨.ref pr, rfl, pr, _, rfl, .inl (SqL.of er), rfl, _, rfl, iteF ⟨.ref pr, rfl, pr, _, rfl, .inl (SqL.of er), rfl, _, rfl, iteT ⟨.ref pl, rfl, .ref pr, rfl, pr, _, 0, a, rfl, rfl, SqL.of er, show atI _ ((0 : Nat) : Int) = some a from atI_nat rfl, .ref pr, rfl, pr, _, 1, b, rfl, rfl, SqL.of er, show atI _ ((1 : Nat) : Int) = some b from atI_nat rfl, Z⟩⟩⟩⟩
    | [a, b, c], er, Z, lx => exact ⟨.ref pr, rfl, pr, _, rfl, .inl (SqL.of er), rfl, _, rfl, iteF ⟨.ref pr, rfl, pr, _, rfl, .inl (SqL.of er), rfl, _, rfl, iteF ⟨.ref pr, rfl, pr, _, rfl, .inl (SqL.of er), rfl, _, rfl, iteF ⟨.ref pr, rfl, pr, _, rfl, .inl (SqL.of er), rfl, _, rfl, iteT ⟨.ref pl, rfl, .ref pr, rfl, pr, _, 0, a, rfl, rfl, SqL.of er, show atI _ ((0 : Nat) : Int) = some a from atI_nat rfl, .ref pr, rfl, pr, _, 1, b, rfl, rfl, SqL.of er, show atI _ ((1 : Nat) : Int) = some b from atI_nat rfl, .ref pr, rfl, pr, _, 2, c, rfl, rfl, SqL.of er, show atI _ ((2 : Nat) : Int) = some c from atI_nat rfl, Z⟩⟩⟩⟩⟩
    | [a, b, c, d], er, Z, lx => exact ⟨.ref pr, rfl, pr, _, rfl, .inl (SqL.of er), rfl, _, rfl, iteF ⟨.ref pr, rfl, pr, _, rfl, .inl (SqL.of er), rfl, _, rfl, iteF ⟨.ref pr, rfl, pr, _, rfl, .inl (SqL.of er), rfl, _, rfl, iteF ⟨.ref pr, rfl, pr, _, rfl, .inl (SqL.of er), rfl, _, rfl, iteF ⟨.ref pr, rfl, pr, _, rfl, .inl (SqL.of er), rfl, _, rfl, iteT ⟨.ref pl, rfl, .ref pr, rfl, pr, _, 0, a, rfl, rfl, SqL.of er, show atI _ ((0 : Nat) : Int) = some a from atI_nat rfl, .ref pr, rfl, pr, _, 1, b, rfl, rfl, SqL.of er, show atI _ ((1 : Nat) : Int) = some b from atI_nat rfl, .ref pr, rfl, pr, _, 2, c, rfl, rfl, SqL.of er, show atI _ ((2 : Nat) : Int) = some c from atI_nat rfl, .ref pr, rfl, pr, _, 3, d, rfl, rfl, SqL.of er, show atI _ ((3 : Nat) : Int) = some d from atI_nat rfl, Z⟩⟩⟩⟩⟩⟩
    | [a, b, c, d, e], er, Z, lx => exact ⟨.ref pr, rfl, pr, _, rfl, .inl (SqL.of er), rfl, _, rfl, iteF ⟨.ref pr, rfl, pr, _, rfl, .inl (SqL.of er), rfl, _, rfl, iteF ⟨.ref pr, rfl, pr, _, rfl, .inl (SqL.of er), rfl, _, rfl, iteF ⟨.ref pr, rfl, pr, _, rfl, .inl (SqL.of er), rfl, _, rfl, iteF ⟨.ref pr, rfl, pr, _, rfl, .inl (SqL.of er), rfl, _, rfl, iteF ⟨.ref pl, rfl, .ref pr, rfl, pr, _, 0, a, rfl, rfl, SqL.of er, show atI _ ((0 : Nat) : Int) = some a from atI_nat rfl, .ref pr, rfl, pr, _, 1, b, rfl, rfl, SqL.of er, show atI _ ((1 : Nat) : Int) = some b from atI_nat rfl, .ref pr, rfl, pr, _, 2, c, rfl, rfl, SqL.of er, show atI _ ((2 : Nat) : Int) = some c from atI_nat rfl, .ref pr, rfl, pr, _, 3, d, rfl, rfl, SqL.of er, show atI _ ((3 : Nat) : Int) = some d from atI_nat rfl, .ref pr, rfl, pr, _, 4, e, rfl, rfl, SqL.of er, show atI _ ((4 : Nat) : Int) = some e from atI_nat rfl, Z⟩⟩⟩⟩⟩⟩
    | _ :: _ :: _ :: _ :: _ :: _ :: _, er, Z, lx =>
      simp only [List.length_cons] at lx
      omega
end
end K01
namespace L2
open PySem PySem.Spec PyProof.Rows
/-- isinstance(e, (C, D ..)), e the exception that the suite holds, with its fields -/
def rIsE3 (K : PySem.W.Frag) (cls : Value) (dd : Option Addr) (a : Addr) : List V → Hp → VK → Prop := fun xs H Q => ∃ (D d T : Addr) (fs : List (Str × V)) (cs : List Addr) (b : Bool), cls = .ref D ∧ dd = some d ∧ H d = some (.xd fs) ∧ ExcC K D ∧ xs = [.ref a, .ref T] ∧ SqT K H T (cs.map V.ref) ∧ PySem.W.kitAny K (.ref D) (cs.map Value.ref) = some b ∧ Q (.bl b) H
theorem vals_refs_eq : ∀ {cs : List Addr} {us : List Value}, Vals (cs.map V.ref) us → us = cs.map Value.ref
  | [], _, h => by cases h; rfl
  | c :: cs, _, h => by
    cases h with
    | cons h1 h2 =>
      rw [vals_refs_eq h2]
      cases h1
      rfl
theorem call_isE3 {X : Cx} {a : Addr} {cls : Value} {dd : Option Addr} {oe : Obj} {pn : List (Addr × Obj)} (hz : Zc cls dd oe) (hf : ∃ vs, oe.data = .fields vs) : CallR (X.suite a ((a, oe) :: pn)) (.builtin "isinstance") (rIsE3 X.K cls dd a) := by
  intro pins s σ H xs us Q I r h
  obtain ⟨D, d, T, fs, cs, b, rfl, rfl, hd, C, rfl, hT, e, q⟩ := h
  cases r with
  | cons rx rr =>
    cases rr with
    | cons rt rr =>
      cases rr
      cases rx
      cases rt
      obtain ⟨hget, _⟩ := I.pin (a, oe) (List.mem_append.mpr (.inl List.mem_cons_self))
      obtain ⟨vs, hv⟩ := hf
      obtain ⟨mA, hns, _⟩ := (show ObjOk X.prog X.w H s.heap d (.xd fs) from I.hok d _ hd)
      obtain ⟨od, hod, _⟩ := lookIn_ns hns
      have J : PySem.W.InstAt s.heap a oe D (some od) := by
        obtain ⟨oc, od', oda, osl⟩ := oe
        obtain ⟨h1, h2⟩ := hz
        dsimp only at h1 h2 hv
        subst h1 h2 hv
        exact ⟨hget, rfl, rfl, hod⟩
      obtain ⟨its, rv, ⟨ot, e1, e2, n, e3⟩, _⟩ := I.tuple hT
      have ei := vals_refs_eq rv
      subst ei
      obtain ⟨oc, od2, oda, osl⟩ := ot
      dsimp only at e2 e3
      subst e2 e3
      exact PySem.W.kia_tup (PySem.W.kitx_excA C.hg C.hk C.hs C.hd C.ha C.hn C.ht C.hm) I.kIn J e1 e (fun z => nomatch z) fun tk => ⟨.bl b, H, I.kept (t' := tk) fun _ _ z => z, rfl, q⟩
/-- a method called in a try's body -/
def tMethW (C : Addr) (m : Str) (sp : Sp) (E : L2.St → XK) (ta : TE) (t : TA) : TE := fun σ H Q => ta σ H fun x H1 => ∃ a dx fs, x = .ref a ∧ H1 a = some (.ins C dx fs) ∧ fs.lookup m = none ∧ t σ H1 fun vs H2 => sp (.ref a :: vs) H2 Q (E σ)
section
variable {X : Cx} {CX : CXT} {k : Nat} {f C : Addr} {fd : FuncData} {ps : List Str} {sp : Sp} {E : L2.St → XK} {m : Str} {pos apos : Pos} {e o : Expr} {es : List Expr} {ta : TE} {t : TA}
theorem pe_methW {pl : Sem Bool} (he : PE X o ta) (c : Cls X.K C) (hm : Meth X.K C m f) (F : FnOk X.prog X.w X.K X.mg X.base CX k f fd ps sp) (hr : Room k X.A) (hb : Binds X.K fd ps []) (hx : ∀ σ, PassesAt CX X σ (E σ)) (ha : PA X (e :: es) t)
    (hst : starEach (e :: es) X.env = (false, eval e X.env) :: starEach es X.env := by rfl) (hpl : (backTo pos (starEach es X.env)).any (·.1) = false := by rfl)
    (ht : eval (.Call (.Attribute o m apos) (e :: es) [] pos) X.env = (do
      let ov ← eval o X.env
      standAt apos.atName
      let (f, first) ← holding [ov] (getMethod ov m pl)
      callWith pos f first (backTo pos (starEach (e :: es) X.env)) (backToKw pos (keywordEach [] X.env))) := by rfl) :
    PE X (.Call (.Attribute o m apos) (e :: es) [] pos) (tMethW C m sp E ta t) := by
  refine ⟨fun pins s σ H Q I h => ?_⟩
  refine PySem.W.methodCall_KW (pl := pl) (thn (he.run pins s σ H _ I h) fun u s1 ⟨x, H1, I1, rx, a, dx, fs, ex, ea, l, q⟩ => ?_) ht
  subst ex
  obtain rfl : u = Value.ref a := rx
  refine getmeth_ok I1 ea c hm l ?_
  refine PySem.W.callWith_K (first := [.ref a]) (h₀ := X.base) I.ok.mod.kin hm.kp (thn (ha.run pos pins s1 σ H1 _ I1 q) fun us s2 ⟨vs, H2, I2, r, q2⟩ => ⟨I2.kIn, ?_⟩) hst hpl
  exact run_fnS (us := .ref a :: us) (vs := .ref a :: vs) F hr hb (hx σ) I2 (.cons rfl r) q2
end
end L2
namespace K01
open PySem PySem.Spec PyProof.Rows L2
abbrev sMiss : Stmt := top 30
theorem scMiss : FnScope ["_law_hall", "_law_name", "_law_which", "_law_found", "e"] ["_law_hall", "_law_name", "_law_which"] (defScope sMiss) := ⟨rfl, rfl, rfl, by decide +kernel, rfl, by decide +kernel, by decide +kernel⟩
section
variable {P : Program} {w : World} {K : PySem.W.Frag} {mg : Str → Option Value} {base : Heap} {aR pd C CN CL CP CH : Addr}
def spMiss (pd C : Addr) : Sp := fun vs H Q _ => ∃ (x : Addr) (k : Str) (wh : Int) (ls : List Str) (rs : List Rw), vs = [.ref x, .str k, .int wh] ∧ HallAt pd C H x ls rs ∧ (∃ o, H pd = some o) ∧ Hok ls rs ∧ Ksh k ∧ PyData.strOk k = true ∧ findR k rs = none ∧ ∀ H', Same H H' → Q (.bl true) H'
theorem ok_miss {f fG fO : Addr} {fd fdG fdO : FuncData} (F : FnP K "_law_missed" sMiss f fd) (FG : FnM K "guard_of" "Hall.guard_of" sGo fG fdG) (mG : Meth K C "guard_of" fG) (GG : FnOk P w K mg base (L2.CX P w) 4 fG fdG ["self", "kind"] (spGo pd C CN))
    (FO : FnM K "fields_of" "Hall.fields_of" sFo fO fdO) (mO : Meth K C "fields_of" fO) (GO : FnOk P w K mg base (L2.CX P w) 4 fO fdO ["self", "kind"] (spFo pd C CN)) (T : HallC K C) (B : ErC P w K mg base "NoSuch" CN ["name"])
    (gH : mg "HandsError" = some (.ref CH)) (gL : mg "BadLine" = some (.ref CL)) (gP : mg "BadPart" = some (.ref CP)) (mi : mg "isinstance" = none)
    (exm : PySem.W.exmOne K (.ref CN) (.ref CN) = some true) (kH : PySem.W.kitOne K (.ref CN) (.ref CH) = some true) (kA : PySem.W.kitAny K (.ref CN) [.ref CL, .ref CP] = some false) :
    FnOk P w K mg base CX0 5 f fd ["_law_hall", "_law_name", "_law_which"] (spMiss pd C) := by
  have bG : Binds K fdG ["self", "kind"] [] := FG.bindsN fun _ _ _ _ _ _ us hl => match us, hl with | [_, _], _ => rfl
  have bO : Binds K fdO ["self", "kind"] [] := FO.bindsN fun _ _ _ _ _ _ us hl => match us, hl with | [_, _], _ => rfl
  refine F.ok scMiss (fun vs H Q E h => ?_) (fun cdv A outer s H vs Q E hr h => ?_)
  · obtain ⟨x, k, wh, ls, rs, rfl, _⟩ := h
    rfl
  · obtain ⟨x, k, wh, ls, rs, rfl, hx, hpd, ok, hk, sk, hn, q⟩ := h
    refine ⟨_, pss_cons (ps_set (i := 3) scMiss.nd rfl (.inl rfl) pe_non)
      (pss_cons (ps_try_as1 (i := 4) rfl rfl scMiss.nd rfl rfl ⟨rfl, by decide, .inl B.g⟩ (fun W pn xe tk _ => pss_one (ps_if (pt_cmpR op_eq (pv 2) pe_int (nomark _))
            (pss_one (ps_expr (pe_methW (pv 0) T.cl mG GG hr bG (fun σ => passAt tk σ) (pa_cons (pv 1) pa_nil)))) (pss_one (ps_expr (pe_methW (pv 0) T.cl mO GO hr bO (fun σ => passAt tk σ) (pa_cons (pv 1) pa_nil))))))
          (fun a oe cls d pn hz hf => pss_one (ps_set (i := 3) scMiss.nd rfl (.inl rfl) (pe_tup (pa_cons (pe_xf B.xf (B.no "name" List.mem_cons_self) hz hf (pv 4)) (pa_cons (pe_callB (r := rIsE2 K cls d a) (call_isE2 hz hf) (by rfl) mi (by decide +kernel) (pa_cons (pv 4) (pa_cons (pe_glob (v := .ref CH) (by rfl) gH rfl) pa_nil)))
            (pa_cons (pe_callB (r := rIsE3 K cls d a) (call_isE3 hz hf) (by rfl) mi (by decide +kernel) (pa_cons (pv 4) (pa_cons (pe_tup (pa_cons (pe_glob (v := .ref CL) (by rfl) gL rfl) (pa_cons (pe_glob (v := .ref CP) (by rfl) gP rfl) pa_nil))) pa_nil))) pa_nil)))))))
      (pss_one (ps_ret (pe_cmpR (op_eqD hr.units) (pv 3) (pe_tup (pa_cons (pv 1) (pa_cons pe_bl (pa_cons pe_bl pa_nil)))) (nomark _))))), ?_⟩
    have hx0 := hx
    obtain ⟨⟨dx, a1, a2, a3, a4, ex, v1, v2, v3, v4⟩, nx⟩ := hx
    have no : ∀ {r : Rw} {B : Prop}, findR k rs = some r → B := fun h => by
      rw [hn] at h
      cases h
    have sh : SeqAt.shaped (.tuple [.str k, .bool true, .bool false]) = true := sh_tup (by
      rw [PyData.canLayAll0, PyData.canLay0, sk]
      rfl) (by simp only [PyData.depthAll, PyData.depth]; omega)
    have eq : PyData.eqv (.tuple [.str k, .bool true, .bool false]) (.tuple [.str k, .bool true, .bool false]) = true := by
      simp [PyData.eqv, PyData.eqvAll, eqv_ss]
    refine ⟨.int wh, rfl, rfl, _, rfl, ite2 (fun _ => ⟨.ref x, rfl, x, dx, _, rfl, ex, hf0 _ _ _ _ (by decide +kernel), .str k, rfl, x, k, ls, rs, rfl, hx0, ok, hk, fun r h => no h, fun _ d H' sm nd hd => ⟨exm, fun a na => ?_⟩⟩)
      (fun _ => ⟨.ref x, rfl, x, dx, _, rfl, ex, hf0 _ _ _ _ (by decide +kernel), .str k, rfl, x, k, ls, rs, rfl, hx0, hpd, ok, hk, fun r h => no h, fun _ d H' sm nd hd => ⟨exm, fun a na => ?_⟩⟩)⟩
    all_goals
      refine ⟨.ref a, rfl, rfl, rfl, d, [("name", .str k)], .str k, rfl, hd, rfl, .ref a, rfl, CN, d, [("name", .str k)], rfl, rfl, hd, B.ec, .ref CH, .ref CH, true, rfl, fun u ru => ru, kH, .ref a, rfl, by show 2 ≤ sizeLine; decide, fun T nT => ?_⟩
      have s1 : Same H' (upd H' T (.tup [V.ref CL, V.ref CP])) := same_upd nT
      have eT : upd H' T (.tup [V.ref CL, V.ref CP]) T = some (.tup [V.ref CL, V.ref CP]) := upd_same
      generalize upd H' T (.tup [V.ref CL, V.ref CP]) = G at s1 eT
      refine ⟨CN, d, T, [("name", .str k)], [CL, CP], false, rfl, rfl, s1 _ _ hd, B.ec, rfl, SqT.of eT, kA, by show 3 ≤ sizeLine; decide, fun T1 n1 => ?_⟩
      have s2 : Same G (upd G T1 (.tup [V.str k, .bl true, .bl false])) := same_upd n1
      have eT1 : upd G T1 (.tup [V.str k, .bl true, .bl false]) T1 = some (.tup [V.str k, .bl true, .bl false]) := upd_same
      generalize upd G T1 (.tup [V.str k, .bl true, .bl false]) = G2 at s2 eT1
      refine ⟨.ref T1, rfl, .str k, rfl, by show 3 ≤ sizeLine; decide, fun T2 n2 => ?_⟩
      have s3 : Same G2 (upd G2 T2 (.tup [V.str k, .bl true, .bl false])) := same_upd n2
      refine ⟨_, _, .tup (SqT.of (s3 _ _ eT1)) (.cons (.str _) (.cons (.bl _) (.cons (.bl _) .nil))), .tup (SqT.of upd_same) (.cons (.str _) (.cons (.bl _) (.cons (.bl _) .nil))), sh, sh, ?_⟩
      rw [eq]
      exact q _ (((sm.trans s1).trans s2).trans s3)
end
end K01
namespace L2
open PySem PySem.Spec PyProof.Rows
/-- x == y of two objects of an own class, by the class's __eq__ -/
def rEqO (C : Addr) (sp : Sp) (E : XK) : R2 := fun x y H Q => ∃ a b dx dy fs gs, x = .ref a ∧ y = .ref b ∧ H a = some (.ins C dx fs) ∧ H b = some (.ins C dy gs) ∧ sp [.ref a, .ref b] H (fun v H' => ∃ r, v = .bl r ∧ Q (.bl r) H') E
theorem op_eqO {X : Cx} {CX : CXT} {n : Nat} {C f : Addr} {fd : FuncData} {ps : List Str} {sp : Sp} {E : XK} (F : FnOk X.prog X.w X.K X.mg X.base CX n f fd ps sp) (hr : Room n X.A)
    (hs : PySem.W.findIn X.K (.ref C) "__eq__" = some (some (.ref f))) (hf : PySem.W.isFn X.K (.ref f) = true) (hb : Binds X.K fd ps []) (hx : Passes CX X E) : OpR X (compareOp .Eq) (rEqO C sp E) := by
  intro pins s σ H x y v u Q I rx ry hq
  obtain ⟨a, b, dx, dy, fs, gs, rfl, rfl, ha, hb', hsp⟩ := hq
  cases rx
  cases ry
  show wpAny (model X.prog X.w) X.A (richCompare .Eq (.ref a) (.ref b)) (EP X pins σ Q) X.xe s
  obtain ⟨mA, J, _⟩ := ins_get I.hok ha
  obtain ⟨mB, J', _⟩ := ins_get I.hok hb'
  obtain ⟨od, J, _⟩ := J.look
  obtain ⟨od', J', _⟩ := J'.look
  obtain ⟨m, hF⟩ := I.fr
  refine PySem.W.cmp_K (op := .Eq) (tb := .ref C) hr.units0 hF I.ok.mod.kin J J'.type (by simp [PySem.W.notFirst]) hs hf ?_
  have hl := F.len _ _ _ _ hsp
  have r2 : Vals [V.ref a, V.ref b] [Value.ref a, Value.ref b] := .cons rfl (.cons rfl .nil)
  refine wpAny_call (codeAny_mono (F.run X.A X.stack s H ⟨[.ref a, .ref b], []⟩ [.ref a, .ref b] [.ref a, .ref b] _ E hr I.env0 (by
    have := hb s [.ref a, .ref b] I.kIn (by simpa using hl)
    simpa using this) r2 hsp) fun r s' hq => ?_)
  cases r with
  | error e => exact hx pins σ H s e s' I hq
  | ok fl =>
    cases fl with
    | ret w =>
      obtain ⟨z, H', I', rz, r, ez, q⟩ := I.after hq
      subst ez
      cases rz
      exact ⟨.bl r, H', I', rfl, q⟩
    | next => exact False.elim hq
    | brk => exact False.elim hq
    | cont => exact False.elim hq
end L2
namespace K01
open PySem PySem.Spec PyProof.Rows L2
theorem nm_ksh {s : Str} (h : isName s = true) : Ksh s := by
  have h8 := nm_len h
  refine ⟨by omega, ?_⟩
  have ok := nm_ok h
  have hx : ∀ c ∈ s.cps.toList, c < 16 ^ 8 := fun c hc => by
    have z : s.cps.all (· < 0x110000) = true := ok
    rw [← Array.all_toList] at z
    have y := List.all_eq_true.mp z c hc
    have y := of_decide_eq_true y
    omega
  have z := PySem.StrLaws.reprText_len s hx
  omega
theorem findR_self : ∀ {rs : List Rw} {i : Nat} {q : Rw}, (rs.map fun r => r.k).Nodup → rs[i]? = some q → findR q.k rs = some q
  | [], i, q, _, h => by cases h
  | r :: rs, 0, q, _, h => by
    cases h
    unfold findR
    exact if_pos rfl
  | r :: rs, i + 1, q, nd, h => by
    rw [List.map_cons, List.nodup_cons] at nd
    have h : rs[i]? = some q := h
    unfold findR
    rw [if_neg]
    · exact findR_self nd.2 h
    · intro e
      exact nd.1 (List.mem_map.mpr ⟨q, List.mem_of_getElem? h, e.symm⟩)
theorem findR_none : ∀ {rs : List Rw} {k : Str}, k ∉ rs.map (fun r => r.k) → findR k rs = none
  | [], _, _ => rfl
  | r :: rs, k, h => by
    rw [List.map_cons, List.mem_cons] at h
    unfold findR
    rw [if_neg (fun e => h (.inl e.symm))]
    exact findR_none fun z => h (.inr z)
theorem Prs.re {pd D D' : Addr} {H : Hp} {ys : List V} (hD : H D' = some (.lst ys)) : ∀ {vs : List V} {ps : List (Str × Str)}, Prs pd D H vs ps → Prs pd D' H vs ps
  | _, _, .nil => .nil
  | _, _, .cons h1 h2 h3 h4 => .cons h1 h2 (ne_of h1 hD (by intro z; cases z)) (h4.re hD)
def pairD (p : Str × Str) : D := .tuple [.str p.1, .str p.2]
theorem pairs_eqv : ∀ ps : List (Str × Str), PyData.eqvAll (ps.map pairD) (ps.map pairD) = true
  | [] => rfl
  | p :: ps => by
    rw [List.map_cons, PyData.eqvAll, pairs_eqv ps, Bool.and_true]
    simp [pairD, PyData.eqv, PyData.eqvAll]
theorem pairs_lay : ∀ {ps : List (Str × Str)}, (∀ p ∈ ps, isName p.1 = true ∧ isName p.2 = true) → PyData.canLayAll0 (ps.map pairD) = true ∧ PyData.depthAll (ps.map pairD) ≤ 2
  | [], _ => ⟨rfl, Nat.zero_le _⟩
  | p :: ps, h => by
    obtain ⟨h1, h2⟩ := h p List.mem_cons_self
    obtain ⟨h3, h4⟩ := pairs_lay (ps := ps) fun q hq => h q (List.mem_cons_of_mem _ hq)
    refine ⟨?_, ?_⟩
    · rw [List.map_cons, PyData.canLayAll0, h3, Bool.and_true]
      show PyData.canLay0 (.tuple [.str p.1, .str p.2]) = true
      rw [PyData.canLay0, PyData.canLayAll0, PyData.canLayAll0, PyData.canLay0, nm_ok h1, PyData.canLay0, nm_ok h2]
      rfl
    · rw [List.map_cons]
      simp only [PyData.depthAll]
      have : (pairD p).depth ≤ 2 := by
        show PyData.depth (.tuple [.str p.1, .str p.2]) ≤ 2
        simp only [PyData.depth, PyData.depthAll]
        omega
      omega
theorem sorts_pair (rs : List Rw) : sortsD rs = (sortsP rs).map pairD := (sortsP_D rs).symm
theorem sorts_nm {rs : List Rw} (h : ∀ r ∈ rs, Rok r) : ∀ p ∈ sortsP rs, isName p.1 = true ∧ isName p.2 = true := fun p hp => by
  obtain ⟨r, hr, hp⟩ := List.mem_flatMap.mp hp
  obtain ⟨f, hf, rfl⟩ := List.mem_map.mp hp
  exact ⟨(h r hr).k, (h r hr).fs f hf⟩
theorem sh_sorts {rs : List Rw} (h : ∀ r ∈ rs, Rok r) : SeqAt.shaped (.list (sortsD rs)) = true := by
  rw [sorts_pair]
  obtain ⟨h1, h2⟩ := pairs_lay (sorts_nm h)
  exact sh_lst h1 (by omega)
theorem eq_sorts (rs : List Rw) : PyData.eqv (.list (sortsD rs)) (.list (sortsD rs)) = true := by
  rw [sorts_pair]
  have := pairs_eqv (sortsP rs)
  simpa [PyData.eqv] using this
theorem eq_strL (ws : List Str) : PyData.eqv (.list (ws.map .str)) (.list (ws.map .str)) = true := by
  have := eqvs ws ws
  rw [decide_eq_true rfl] at this
  simpa [PyData.eqv] using this
theorem eq_strT (ws : List Str) : PyData.eqv (.tuple (ws.map .str)) (.tuple (ws.map .str)) = true := by
  have := eqvs ws ws
  rw [decide_eq_true rfl] at this
  simpa [PyData.eqv] using this
theorem eq_rowL (rs : List Rw) : PyData.eqv (.list (rs.map rowD)) (.list (rs.map rowD)) = true := by
  have := eqv_rows rs rs
  rw [decide_eq_true rfl] at this
  simpa [PyData.eqv] using this
theorem sh_strL {ws : List Str} (h : ∀ w ∈ ws, isName w = true) : SeqAt.shaped (.list (ws.map .str)) = true := by
  have := depth_strs ws
  exact sh_lst (lay_strs fun w hw => nm_ok (h w hw)) (by omega)
theorem sh_rowL {rs : List Rw} (h : ∀ r ∈ rs, Rok r) : SeqAt.shaped (.list (rs.map rowD)) = true := by
  obtain ⟨h1, h2⟩ := rows_lay h
  exact sh_lst h1 (by omega)
theorem rowText_join (q : Rw) : Txt.join " " ("kind" :: rowW q) = rowText q := by
  unfold rowText
  apply TL.ext_tl
  rw [TL.join_eq, TL.tl_join, TL.tl_append, TL.join_eq, TL.tl_join]
  show TL.joinL (TL.tl " ") (TL.tl "kind" :: TL.tl q.k :: _) = _
  show TL.tl "kind" ++ (TL.tl " " ++ TL.joinL (TL.tl " ") ((rowW q).map TL.tl)) = _
  rw [← List.append_assoc]
  have e : TL.tl "kind" ++ TL.tl " " = TL.tl "kind " := by decide +kernel
  rw [e]
theorem hall_len {ls : List Str} {rs : List Rw} (ok : Hok ls rs) : ((hallLines ls rs).map (·.length)).sum + (hallLines ls rs).length * ("\n" : Str).length ≤ 16777216 := by
  have e1 : ("\n" : Str).length = 1 := by decide +kernel
  have e9 : ("lock " : Str).length = 5 := by decide +kernel
  have r3 := ok.rl
  have l4 := ok.ll
  have hl : ∀ w ∈ hallLines ls rs, w.length ≤ 60 := fun w hw => by
    rcases List.mem_append.mp hw with hw | hw
    · obtain ⟨l, h1, rfl⟩ := List.mem_map.mp hw
      have := nm_len (ok.ln l h1)
      rw [strLen_append]
      omega
    · obtain ⟨r, h1, rfl⟩ := List.mem_map.mp hw
      exact (rowW_len (ok.rn r h1)).2.2
  have y := sum_le hl
  have ln : (hallLines ls rs).length ≤ 7 := by
    simp only [hallLines, List.length_append, List.length_map]
    omega
  rw [e1]
  omega
end K01
namespace K01
open PySem PySem.Spec PyProof.Rows L2
abbrev sHold : Stmt := top 31
theorem scHold : FnScope ["_law_hall", "_law_locks", "_law_rows", "_law_row", "_law_sorts", "_law_lock_here", "_law_lines", "_law_fields", "_law_field"] ["_law_hall", "_law_locks", "_law_rows"] (defScope sHold) := ⟨rfl, rfl, rfl, by decide +kernel, rfl, by decide +kernel, by decide +kernel⟩
def tHq (rs : List Rw) (x pl pr : Addr) (H0 : Hp) : TS := fun Dn σ H => ∃ (q : Rw) (p p4 p6 : Addr) (y7 : Option V) (lines : List Str), σ = [some (.ref x), some (.ref pl), some (.ref pr), some (.ref p), some (.ref p4), some (.str (optT q.l)), some (.ref p6), y7, none] ∧ Rok q ∧ findR q.k rs = some q ∧ Same H0 H ∧ H0 p6 = none ∧ H p = some (.tup (.str q.k :: optV q.l :: q.fs.map V.str)) ∧ p ≠ p6 ∧ H p6 = some (.lst (lines.map V.str)) ∧ lines.length < 100 ∧
  ∀ y7 H3, (∀ b o, H b = some o → b ≠ p6 → H3 b = some o) → H3 p6 = some (.lst ((lines ++ [rowText q]).map V.str)) → Dn.nx [some (.ref x), some (.ref pl), some (.ref pr), some (.ref p), some (.ref p4), some (.str (optT q.l)), some (.ref p6), y7, none] H3
def hInv (pd x pl pr p6 : Addr) (H : Hp) (ls : List Str) (rs : List Rw) (i : Nat) (σ : L2.St) (H5 : Hp) : Prop := ∃ (y3 y5 y7 : Option V) (p4 : Addr) (acc : List V), σ = [some (.ref x), some (.ref pl), some (.ref pr), y3, some (.ref p4), y5, some (.ref p6), y7, none] ∧ Same H H5 ∧ p4 ≠ p6 ∧ H5 p4 = some (.lst acc) ∧ Prs pd p6 H5 acc (sortsP (rs.take i)) ∧ acc.length ≤ 2 * i ∧ H5 p6 = some (.lst ((ls.map (fun l : Str => ("lock " : Str) ++ l) ++ (rs.take i).map rowText).map V.str))
section
variable {P : Program} {w : World} {K : PySem.W.Frag} {mg : Str → Option Value} {base : Heap} {aR pd C CN : Addr}
theorem tupT {G : Hp} {a : Addr} {ds : List D} (h : Vr pd G (.ref a) (.tuple ds)) : ∃ t, TyX K G (.ref a) t ∧ PySem.W.kitOne K t (.type "tuple") = some true := h.tupK
def spHold (pd C : Addr) : Sp := fun vs H Q _ => ∃ (x pl pr : Addr) (ls : List Str) (rs : List Rw) (rv : List V), vs = [.ref x, .ref pl, .ref pr] ∧ HallAt pd C H x ls rs ∧ (∃ o, H pd = some o) ∧ Hok ls rs ∧ H pl = some (.lst (ls.map V.str)) ∧ H pr = some (.lst rv) ∧ VrA pd H rv (rs.map rowD) ∧ ∀ H', Same H H' → Q (.bl true) H'
theorem ok_hold {f fG fO fT : Addr} {fd fdG fdO fdT : FuncData} (F : FnP K "_law_holds" sHold f fd) (FG : FnM K "guard_of" "Hall.guard_of" sGo fG fdG) (mG : Meth K C "guard_of" fG) (GG : FnOk P w K mg base (L2.CX P w) 4 fG fdG ["self", "kind"] (spGo pd C CN))
    (FO : FnM K "fields_of" "Hall.fields_of" sFo fO fdO) (mO : Meth K C "fields_of" fO) (GO : FnOk P w K mg base (L2.CX P w) 4 fO fdO ["self", "kind"] (spFo pd C CN))
    (FT : FnM K "text" "Hall.text" sTx fT fdT) (mT : Meth K C "text" fT) (GT : FnOk P w K mg base CX0 1 fT fdT ["self"] (spTx pd C)) (T : HallC K C) (mi : mg "isinstance" = none) (mt : mg "tuple" = none) (mL : mg "list" = none) :
    FnOk P w K mg base (L2.CX P w) 5 f fd ["_law_hall", "_law_locks", "_law_rows"] (spHold pd C) := by
  have bG : Binds K fdG ["self", "kind"] [] := FG.bindsN fun _ _ _ _ _ _ us hl => match us, hl with | [_, _], _ => rfl
  have bO : Binds K fdO ["self", "kind"] [] := FO.bindsN fun _ _ _ _ _ _ us hl => match us, hl with | [_, _], _ => rfl
  have bT : Binds K fdT ["self"] [] := FT.bindsN fun _ _ _ _ _ _ us hl => match us, hl with | [_], _ => rfl
  refine F.ok scHold (fun vs H Q E h => ?_) (fun cdv A outer s H vs Q E hr h => ?_)
  · obtain ⟨x, pl, pr, ls, rs, rv, rfl, _⟩ := h
    rfl
  · obtain ⟨x, pl, pr, ls, rs, rv, rfl, hx, hpd, ok, el, er, vr, q⟩ := h
    have hr1 := hr.mono (show 1 ≤ 4 by decide)
    have hx0 := hx
    refine ⟨_, (pss_cons (ps_if (PW.pt (pw_or (pt_not (pt_val (pe_callB call_isi (by rfl) mi (by decide +kernel) (pa_cons (pe_fld (pv 0) rfl) (pa_cons (pe_bltn (v := .ty "tuple") (by rfl) mt (by decide +kernel) rfl) pa_nil)))))
        (pw_or1 (pt_cmpR (op_neD hr.units) (pe_callTy call_list_of (by rfl) mL (by decide +kernel) (pa_cons (pe_fld (pv 0) rfl) pa_nil)) (pv 1) (nomark _))))) (pss_one (ps_ret pe_bl)) pss_nil)
      (pss_cons (ps_if (PW.pt (pw_or (pt_not (pt_val (pe_callB call_isi (by rfl) mi (by decide +kernel) (pa_cons (pe_fld (pv 0) rfl) (pa_cons (pe_bltn (v := .ty "tuple") (by rfl) mt (by decide +kernel) rfl) pa_nil)))))
        (pw_or1 (pt_cmpR (op_neD hr.units) (pe_callTy call_list_of (by rfl) mL (by decide +kernel) (pa_cons (pe_fld (pv 0) rfl) pa_nil)) (pv 2) (nomark _))))) (pss_one (ps_ret pe_bl)) pss_nil)
      (pss_cons (ps_if (PW.pt (pw_or (pt_not (pt_val (pe_callB call_isi (by rfl) mi (by decide +kernel) (pa_cons (pe_fld (pv 0) rfl) (pa_cons (pe_bltn (v := .ty "tuple") (by rfl) mt (by decide +kernel) rfl) pa_nil)))))
        (pw_or1 (pt_cmpR (op_neD hr.units) (pe_callTy call_list_of (by rfl) mL (by decide +kernel) (pa_cons (pe_fld (pv 0) rfl) pa_nil))
          (pe_lc (own := [("_law_row", 3)]) (g := gName 3) (tt := tYes) rfl scHold.nd (pi_list (pv 2)) (blkOk_by (N := ["_law_hall", "_law_locks", "_law_rows", "_law_row", "_law_sorts", "_law_lock_here", "_law_lines", "_law_fields", "_law_field"]) (sc := defScope sHold) (by decide +kernel)) (fun _ _ _ _ _ => pg_name (i := 3) scHold.nd rfl (.inl rfl)) (fun _ _ _ _ _ => pts_nil)
            (fun _ _ _ _ _ => pe_ix (r := rIxT K) ix_tup (pv 3) pe_int (fun _ _ => rfl))) (nomark _))))) (pss_one (ps_ret pe_bl)) pss_nil)
      (imp (t' := fun Dn σ H2 => σ = [some (.ref x), some (.ref pl), some (.ref pr), none, none, none, none, none, none] ∧ Dn.rt = Q ∧ Same H H2)
      (pss_cons (ps_set (i := 4) scHold.nd rfl (.inl rfl) (pe_lst pa_nil))
      (pss_cons (ps_setLc (i := 6) (own := [("_law_lock_here", 5)]) (g := gName 5) (tt := tYes) rfl scHold.nd rfl rfl (sw_true rfl rfl rfl (by decide +kernel)) (pi_list (pv 1)) (blkOk_by (N := ["_law_hall", "_law_locks", "_law_rows", "_law_row", "_law_sorts", "_law_lock_here", "_law_lines", "_law_fields", "_law_field"]) (sc := defScope sHold) (by decide +kernel)) (fun _ _ _ _ _ => pg_name (i := 5) scHold.nd rfl (.inl rfl)) (fun _ _ _ _ _ => pts_nil)
        (fun _ _ _ _ _ => pe_op op_add_str pe_str (pv 5)))
      (pss_cons (ps_for (passes_of rfl) rfl (pi_list (pv 2)) (pg_name (i := 3) scHold.nd rfl (.inr rfl))
        (pss_cons (ps_set (i := 4) scHold.nd rfl (.inl rfl) (pe_op op_cat (pv 4) (pe_lc (own := [("_law_field", 8)]) (g := gName 8) (tt := tYes) rfl scHold.nd (pi_tup (pe_slice (r := rSlH) sl_tupH (pv 3) (po_some pe_int) po_none)) (blkOk_by (N := ["_law_hall", "_law_locks", "_law_rows", "_law_row", "_law_sorts", "_law_lock_here", "_law_lines", "_law_fields", "_law_field"]) (sc := defScope sHold) (by decide +kernel)) (fun _ _ _ _ _ => pg_name (i := 8) scHold.nd rfl (.inl rfl)) (fun _ _ _ _ _ => pts_nil)
            (fun _ _ _ _ _ => pe_tup (pa_cons (pe_ix (r := rIxT K) ix_tup (pv 3) pe_int (fun _ _ => rfl)) (pa_cons (pv 8) pa_nil))))))
        (pss_cons (ps_set (i := 5) scHold.nd rfl (.inl rfl) pe_str)
        (pss_cons (ps_if (pt_cmpR op_notN (pe_ix ix_tup (pv 3) pe_int (fun _ _ => rfl)) pe_non (nomark _)) (pss_one (ps_set (i := 5) scHold.nd rfl (.inl rfl) (pe_ix ix_tup (pv 3) pe_int (fun _ _ => rfl)))) pss_nil)
        (imp (t' := tHq rs x pl pr H)
        (pss_cons (ps_expr (pe_bm PySem.F.plainAttrs_list PySem.F.slot_list_append PySem.F.type_list_append mt_append (pv 6) (pa_cons (pe_join pe_str (pe_op op_cat (pe_lst (pa_cons pe_str (pa_cons (pe_ix ix_tup (pv 3) pe_int (fun _ _ => rfl)) (pa_cons (pv 5) pa_nil)))) (pe_callTy call_list_of (by rfl) mL (by decide +kernel) (pa_cons (pe_slice (r := rSlH) sl_tupH (pv 3) (po_some pe_int) po_none) pa_nil)))) pa_nil)))
        (pss_cons (ps_set (i := 7) scHold.nd rfl (.inl rfl) (pe_meth (pv 0) T.cl mO GO hr bO .nil (passes_call (takes_of rfl rfl rfl rfl) (fun _ _ _ _ h => h)) (pa_cons (pe_ix ix_tup (pv 3) pe_int (fun _ _ => rfl)) pa_nil)))
        (pss_one (ps_if (PW.pt (pw_or (pt_cmpR op_ne (pe_meth (pv 0) T.cl mG GG hr bG .nil (passes_call (takes_of rfl rfl rfl rfl) (fun _ _ _ _ h => h)) (pa_cons (pe_ix ix_tup (pv 3) pe_int (fun _ _ => rfl)) pa_nil)) (pe_ix ix_tup (pv 3) pe_int (fun _ _ => rfl)) (nomark _))
          (pw_or (pt_not (pt_val (pe_callB call_isi (by rfl) mi (by decide +kernel) (pa_cons (pv 7) (pa_cons (pe_bltn (v := .ty "tuple") (by rfl) mt (by decide +kernel) rfl) pa_nil)))))
          (pw_or1 (pt_cmpR (op_neD hr.units) (pv 7) (pe_slice (r := rSlH) sl_tupH (pv 3) (po_some pe_int) po_none) (nomark _)))))) (pss_one (ps_ret pe_bl)) pss_nil))))
        (fun Dn σ H2 hm => ?s2))))))
      (pss_one (ps_ret (pe_and (pe_callB call_isi (by rfl) mi (by decide +kernel) (pa_cons (pe_fld (pv 0) rfl) (pa_cons (pe_bltn (v := .ty "tuple") (by rfl) mt (by decide +kernel) rfl) pa_nil)))
        (pe_and (pe_cmpR (op_eqD hr.units) (pe_callTy call_list_of (by rfl) mL (by decide +kernel) (pa_cons (pe_fld (pv 0) rfl) pa_nil)) (pv 4) (nomark _))
          (pe_one (pe_cmpR op_eq (pe_meth0 (pv 0) T.cl mT GT hr1 bT .nil pass0) (pe_join pe_str (pv 6)) (nomark _)))))))))) (fun Dn σ H2 hm => ?s1))))), ?_⟩
    case s2 =>
      obtain ⟨q, p, p4, p6, y7, lines, rfl, rk, fq, sm, n6, ep, pp6, e6, ln, go⟩ := hm
      obtain ⟨⟨dx, a1, a2, a3, a4, ex, v1, v2, v3, v4⟩, nx⟩ := hx
      have mx : x ≠ p6 := ne_of_none ex n6
      have at1 : atI (V.str q.k :: optV q.l :: q.fs.map V.str) 1 = some (optV q.l) := show atI (V.str q.k :: optV q.l :: q.fs.map V.str) ((1 : Nat) : Int) = some (optV q.l) from atI_nat rfl
      have ec : cutV (V.str q.k :: optV q.l :: q.fs.map V.str) (some 2) none = q.fs.map V.str := cut_from (V.str q.k :: optV q.l :: q.fs.map V.str) 2
      have lf : q.fs.length ≤ 2 := by rcases rk.n with z | z <;> omega
      obtain ⟨w1, w2, w3⟩ := rowW_len rk
      refine ⟨.ref p6, rfl, .inl ⟨rfl, _, SqL.of e6⟩, ⟨_, rfl⟩, .ref p, rfl, p, _, 0, .str q.k, rfl, rfl, SqT.of ep, at0 _ _, .str (optT q.l), rfl, by show 3 ≤ sizeLine; decide, fun L1 n1 => ?_⟩
      have s1 : Same H2 (upd H2 L1 (.lst [V.str "kind", .str q.k, .str (optT q.l)])) := same_upd n1
      have eL1 : upd H2 L1 (.lst [V.str "kind", .str q.k, .str (optT q.l)]) L1 = some (.lst [V.str "kind", .str q.k, .str (optT q.l)]) := upd_same
      generalize upd H2 L1 (.lst [V.str "kind", .str q.k, .str (optT q.l)]) = G1 at s1 eL1
      refine ⟨.ref p, rfl, 2, rfl, p, _, rfl, s1 _ _ ep, fun p2 G2 s2 hp2 ho2 => ?_⟩
      rw [ec] at hp2
      refine ⟨p2, _, rfl, .inr (SqT.of hp2), fun L2 n2 => ?_⟩
      have s3 : Same G2 (upd G2 L2 (.lst (q.fs.map V.str))) := same_upd n2
      have eL2 : upd G2 L2 (.lst (q.fs.map V.str)) L2 = some (.lst (q.fs.map V.str)) := upd_same
      generalize upd G2 L2 (.lst (q.fs.map V.str)) = G3 at s3 eL2
      refine ⟨L1, L2, _, _, rfl, rfl, s3 _ _ (s2 _ _ eL1), eL2, by rw [sizeLine_eq, List.length_map]; simp only [List.length_cons, List.length_nil]; omega, fun L3 n3 => ?_⟩
      have s4 : Same G3 (upd G3 L3 (.lst ([V.str "kind", .str q.k, .str (optT q.l)] ++ q.fs.map V.str))) := same_upd n3
      have eL3 : upd G3 L3 (.lst ([V.str "kind", .str q.k, .str (optT q.l)] ++ q.fs.map V.str)) L3 = some (.lst ((("kind" : Str) :: rowW q).map V.str)) := upd_same
      generalize upd G3 L3 (.lst ([V.str "kind", .str q.k, .str (optT q.l)] ++ q.fs.map V.str)) = G4 at s4 eL3
      have s14 := ((s1.trans s2).trans s3).trans s4
      have e1 : (" " : Str).length = 1 := by decide +kernel
      have e9 : ("kind" : Str).length = 4 := by decide +kernel
      have y := sum_le w1
      refine ⟨" ", L3, ("kind" : Str) :: rowW q, rfl, rfl, .inl (SqL.of eL3), by rw [List.map_cons, List.sum_cons, List.length_cons, e1, e9]; omega, p6, _, _, rfl, rfl, s14 _ _ e6, small1000 (by rw [List.length_map]; omega), ?_⟩
      rw [rowText_join]
      have k5 : ∀ b o, H2 b = some o → b ≠ p6 → upd G4 p6 (.lst (lines.map V.str ++ [V.str (rowText q)])) b = some o := fun b o e n => by
        rw [upd_ne n]
        exact s14 _ _ e
      have e65 : upd G4 p6 (.lst (lines.map V.str ++ [V.str (rowText q)])) p6 = some (.lst ((lines ++ [rowText q]).map V.str)) := by rw [upd_same, List.map_append]; rfl
      generalize upd G4 p6 (.lst (lines.map V.str ++ [V.str (rowText q)])) = G5 at k5 e65
      have kH : ∀ b o, H b = some o → G5 b = some o := fun b o e => k5 _ _ (sm _ _ e) (ne_of_none e n6)
      have sH : Same H G5 := kH
      have ep5 := k5 _ _ ep pp6
      have at0' : atI (V.str q.k :: optV q.l :: q.fs.map V.str) 0 = some (.str q.k) := at0 _ _
      refine ⟨.ref x, rfl, x, dx, _, rfl, kH _ _ ex, hf0 _ _ _ _ (by decide +kernel), .ref p, rfl, p, _, 0, .str q.k, rfl, rfl, SqT.of ep5, at0', x, q.k, ls, rs, rfl, hx0.same sH, let ⟨o, h⟩ := hpd; ⟨o, kH _ _ h⟩, ok, nm_ksh rk.k, fun r hr2 p7 G6 s6 v7 => ?_, fun hn => ?_⟩
      · rw [fq] at hr2
        cases hr2
        have sH6 := sH.trans s6
        refine ⟨.ref x, rfl, x, dx, _, rfl, sH6 _ _ ex, hf0 _ _ _ _ (by decide +kernel), .ref p, rfl, p, _, 0, .str q.k, rfl, rfl, SqT.of (s6 _ _ ep5), at0', x, q.k, ls, rs, rfl, hx0.same sH6, ok, nm_ksh rk.k, fun r hr2 => ?_, fun hn => ?_⟩
        · rw [fq] at hr2
          cases hr2
          have hs : scal (optV q.l) (optV q.l) = true := by cases q.l <;> rfl
          refine ⟨.ref p, rfl, p, _, 1, optV q.l, rfl, rfl, SqT.of (s6 _ _ ep5), at1, hs, _, rfl, ?_⟩
          rw [decide_eq_true rfl]
          obtain ⟨t7, ty7, kt7⟩ := tupT (K := K) v7
          refine iteF ⟨.ref p7, rfl, .ref p7, .ty "tuple", t7, .type "tuple", true, rfl, .ty _, ty7, kt7, true, rfl, iteF ⟨.ref p7, rfl, .ref p, rfl, 2, rfl, p, _, rfl, s6 _ _ ep5, fun p8 G8 s8 hp8 ho8 => ?_⟩⟩
          rw [ec] at hp8
          refine ⟨_, _, (v7.same s8).dp K, .tup (SqT.of hp8) ((VrA.strs (pd := pd) (H := G8) q.fs).dp K), sh_strs rk.fs, sh_strs rk.fs, _, rfl, ?_⟩
          rw [eq_strT]
          exact iteF (go _ G8 (fun b o e n => s8 _ _ (s6 _ _ (k5 b o e n))) (s8 _ _ (s6 _ _ e65)))
        · rw [fq] at hn
          cases hn
      · rw [fq] at hn
        cases hn
    case s1 =>
      obtain ⟨rfl, rt, sm⟩ := hm
      have fin : ∀ v G, Q v G → Dn.rt v G := fun v G h => by rw [rt]; exact h
      obtain ⟨⟨dx, a1, a2, a3, a4, ex, v1, v2, v3, v4⟩, nx⟩ := hx
      have lr : rv.length = rs.length := by rw [vr.len, List.length_map]
      have rl3 := ok.rl
      have ll4 := ok.ll
      have ndk : (rs.map fun r => r.k).Nodup := (List.nodup_append.mp ok.kd).2.1
      refine ⟨Nat.zero_le _, fun p4 n4 => ?_⟩
      have s1 : Same H2 (upd H2 p4 (.lst [])) := same_upd n4
      have e4 : upd H2 p4 (.lst []) p4 = some (.lst []) := upd_same
      generalize upd H2 p4 (.lst []) = G1 at s1 e4
      have sm1 := sm.trans s1
      refine ⟨.ref pl, rfl, pl, rfl, ⟨_, SqL.of (sm1 _ _ el)⟩, fun p6 n6 => lc_it (walk_list (xs := ls.map V.str)) (fun i H3 => Same G1 H3 ∧ H3 p6 = some (.lst (((ls.take i).map fun l : Str => ("lock " : Str) ++ l).map V.str))) ⟨same_upd n6, upd_same⟩ (fun i H3 _ p => SqL.of (p.1 _ _ (sm1 _ _ el))) ?_ ?_⟩
      · rintro i v H3 H4 hi ⟨sm3, eD⟩ ⟨rfl, hv⟩
        rw [List.length_map] at hi
        have e3 : ls[i]? = some ls[i] := List.getElem?_eq_getElem hi
        have hv : (ls.map V.str)[i]? = some v := hv
        rw [List.getElem?_map, e3] at hv
        cases hv
        have nl := nm_len (ok.ln _ (List.getElem_mem hi))
        refine ⟨rfl, ?_⟩
        refine iteT (B := Same G1 H4 ∧ H4 p6 = some (.lst (((ls.take (i + 1)).map fun l : Str => ("lock " : Str) ++ l).map V.str))) ?_
        have e5 : ("lock " : Str).length = 5 := by decide +kernel
        refine ⟨.str ls[i], rfl, "lock ", ls[i], rfl, rfl, by rw [e5, sizeLine_eq]; omega, _, eD, small1000 (by rw [List.length_map, List.length_map, List.length_take]; omega), Same.put sm3 n6, ?_⟩
        rw [upd_same, List.take_add_one, e3, List.map_append, List.map_append]
        rfl
      rintro G2 ⟨sm2, e6⟩
      rw [List.length_map, List.take_length] at e6
      have nH6 : H p6 = none := sm1.free n6
      have n46 : p4 ≠ p6 := ne_of_none e4 n6
      have sm3 := sm1.trans sm2
      have e42 := sm2 _ _ e4
      refine ⟨.ref pr, rfl, pr, rfl, ⟨_, SqL.of (sm3 _ _ er)⟩, for_it (walk_list (xs := rv)) (hInv pd x pl pr p6 H ls rs)
        ⟨none, none, none, p4, [], rfl, sm3, n46, e42, .nil, Nat.zero_le _, by rw [List.take_zero, List.map_nil, List.append_nil]; exact e6⟩ (fun _ _ _ _ ⟨_, _, _, _, _, _, sm, _⟩ => SqL.of (sm _ _ er)) ?_ ?_⟩
      · rintro i v σ H5 H6 hi ⟨y3, y5, y7, p4, acc, rfl, sm5, n46, e45, pa, la, e65⟩ ⟨rfl, hv⟩
        obtain ⟨d, hd, vd⟩ := vr.get hv
        rw [List.getElem?_map] at hd
        cases hq : rs[i]? with
        | none =>
          rw [hq] at hd
          cases hd
        | some q =>
          rw [hq] at hd
          cases hd
          have hi3 : i < 3 := by omega
          have rk := ok.rn q (List.mem_of_getElem? hq)
          have vd := vd.same sm5
          have lf : q.fs.length ≤ 2 := by rcases rk.n with z | z <;> omega
          cases vd with
          | @tu p us _ h1 h2 h3 =>
          have eus : us = V.str q.k :: optV q.l :: q.fs.map V.str := by
            cases h3 with
            | @cons u0 ut _ _ va vt =>
            cases vt with
            | @cons u1 uc _ _ vb vc =>
              have e1 : u0 = .str q.k := by cases va; rfl
              rw [e1, VrA.opt vb, vc.strs_inv]
          subst eus
          have ec : cutV (V.str q.k :: optV q.l :: q.fs.map V.str) (some 2) none = q.fs.map V.str := cut_from (V.str q.k :: optV q.l :: q.fs.map V.str) 2
          have at0' : atI (V.str q.k :: optV q.l :: q.fs.map V.str) 0 = some (.str q.k) := at0 _ _
          have at1 : atI (V.str q.k :: optV q.l :: q.fs.map V.str) 1 = some (optV q.l) := show atI (V.str q.k :: optV q.l :: q.fs.map V.str) ((1 : Nat) : Int) = some (optV q.l) from atI_nat rfl
          refine ⟨.ref p4, rfl, .ref p, rfl, 2, rfl, p, _, rfl, h1, fun p2 H7 s7 hp2 ho2 => ?_⟩
          rw [ec] at hp2
          refine ⟨p2, rfl, ⟨_, SqT.of hp2⟩, fun D8 n8 => lc_it (walk_tup (xs := q.fs.map V.str)) (fun j H9 => Same H7 H9 ∧ ∃ acc8, H9 D8 = some (.lst acc8) ∧ Prs pd D8 H9 acc8 ((q.fs.take j).map fun f => (q.k, f)) ∧ acc8.length ≤ j) ⟨same_upd n8, [], upd_same, .nil, Nat.le_refl _⟩ (fun j H9 _ z => SqT.of (z.1 _ _ hp2)) ?_ ?_⟩
          · rintro j u H8 H9 hj ⟨sm8, acc8, eA8, vA8, lA8⟩ ⟨rfl, hf⟩
            rw [List.length_map] at hj
            have hf0 : q.fs[j]? = some q.fs[j] := List.getElem?_eq_getElem hj
            rw [List.getElem?_map, hf0] at hf
            cases hf
            refine ⟨rfl, ?_⟩
            refine iteT (B := Same H7 H9 ∧ ∃ acc8, H9 D8 = some (.lst acc8) ∧ Prs pd D8 H9 acc8 ((q.fs.take (j + 1)).map fun f => (q.k, f)) ∧ acc8.length ≤ j + 1) ?_
            refine ⟨.ref p, rfl, p, _, 0, .str q.k, rfl, rfl, SqT.of (sm8 _ _ (s7 _ _ h1)), at0', .str q.fs[j], rfl, by show 2 ≤ sizeLine; decide, fun t nt => ?_⟩
            have st : Same H9 (upd H9 t (.tup [V.str q.k, V.str q.fs[j]])) := same_upd nt
            have et : upd H9 t (.tup [V.str q.k, V.str q.fs[j]]) t = some (.tup [V.str q.k, V.str q.fs[j]]) := upd_same
            have mt4 : t ≠ pd := not_pd (let ⟨o, h⟩ := hpd; ⟨o, sm8 _ _ (s7 _ _ (sm5 _ _ h))⟩) nt
            have ntD : t ≠ D8 := (ne_of_none eA8 nt).symm
            generalize upd H9 t (.tup [V.str q.k, V.str q.fs[j]]) = G9 at st et
            have eA9 := st _ _ eA8
            refine ⟨acc8, eA9, small1000 (by omega), Same.put (sm8.trans st) n8, acc8 ++ [V.ref t], upd_same, ?_, by rw [List.length_append]; show _ + 1 ≤ _; omega⟩
            have e9 : (q.fs.take (j + 1)).map (fun f => (q.k, f)) = (q.fs.take j).map (fun f => (q.k, f)) ++ [(q.k, q.fs[j])] := by
              rw [List.take_add_one, hf0, List.map_append]
              rfl
            rw [e9]
            refine (Prs.app (vA8.up fun b o e _ => st b o e) (.cons et mt4 ntD .nil)).up fun b o e n => ?_
            rw [upd_ne n]
            exact e
          rintro H9 ⟨sm9, acc8, eA9, vA9, lA9⟩
          rw [List.length_map, List.take_length] at vA9
          rw [List.length_map] at lA9
          have s59 := s7.trans sm9
          refine ⟨p4, D8, _, _, rfl, rfl, s59 _ _ e45, eA9, by rw [sizeLine_eq]; omega, fun p9 n9 => ?_⟩
          have s9 : Same H9 (upd H9 p9 (.lst (acc ++ acc8))) := same_upd n9
          have e9 : upd H9 p9 (.lst (acc ++ acc8)) p9 = some (.lst (acc ++ acc8)) := upd_same
          have n96 : p9 ≠ p6 := (ne_of_none (s59 _ _ e65) n9).symm
          generalize upd H9 p9 (.lst (acc ++ acc8)) = G at s9 e9
          have sG := s59.trans s9
          have eG6 := sG _ _ e65
          have smG := sm5.trans sG
          have prG : Prs pd p6 G (acc ++ acc8) (sortsP (rs.take (i + 1))) := by
            have z := Prs.app (pa.up fun b o e _ => sG b o e) ((vA9.up fun b o e _ => s9 b o e).re eG6)
            rw [List.take_add_one, hq]
            show Prs pd p6 G (acc ++ acc8) (sortsP (rs.take i ++ [q]))
            rw [sortsP_snoc]
            exact z
          have np6 : p ≠ p6 := ne_of (sG _ _ h1) eG6 (by intro z; cases z)
          have goal : ∀ y5 (Dn' : Ends), (∀ σ H', hInv pd x pl pr p6 H ls rs (i + 1) σ H' → Dn'.nx σ H') → tHq rs x pl pr H Dn' [some (.ref x), some (.ref pl), some (.ref pr), some (.ref p), some (.ref p9), some (.str (optT q.l)), some (.ref p6), y5, none] G := fun y5 Dn' hnx =>
            ⟨q, p, p9, p6, y5, _, rfl, rk, findR_self ndk hq, smG, nH6, sG _ _ h1, np6, eG6, by simp only [List.length_append, List.length_map, List.length_take]; omega, fun y7 H3 k3 e63 => hnx _ _ ⟨_, _, _, p9, acc ++ acc8, rfl, fun b o e => k3 _ _ (smG _ _ e) (ne_of_none e nH6), n96, k3 _ _ e9 n96, prG.up fun b o e n => k3 _ _ e n, by rw [List.length_append]; omega, by rw [e63, List.take_add_one, hq]; simp only [List.map_append, List.append_assoc]; rfl⟩⟩
          refine ⟨.ref p, rfl, p, _, 1, optV q.l, rfl, rfl, SqT.of (sG _ _ h1), at1, rfl, _, rfl, ?_⟩
          cases hl : q.l with
          | none =>
            rw [hl] at goal
            exact iteF (goal _ _ fun _ _ h => h)
          | some z =>
            rw [hl] at goal at1
            exact iteT ⟨.ref p, rfl, p, _, 1, .str z, rfl, rfl, SqT.of (by have := sG _ _ h1; rw [hl] at this; exact this), at1, goal _ _ fun _ _ h => h⟩
      · rintro σ H5 ⟨y3, y5, y7, p4, acc, rfl, sm5, n46, e45, pa, la, e65⟩
        rw [lr, List.take_length] at pa e65
        obtain ⟨t4, ty4, kt4⟩ := tupT (K := K) (v4.same sm5)
        have v45 := v4.same sm5
        cases v45 with
        | @tu _ xs4 _ c1 c2 c3 =>
        refine ⟨.ref x, rfl, x, C, dx, _, _, rfl, sm5 _ _ ex, T.cl, T.n4, hf4 _ _ _ _, .ref a4, .ty "tuple", t4, .type "tuple", true, rfl, .ty _, ty4, kt4, true, rfl, iteT ⟨.ref x, rfl, x, C, dx, _, _, rfl, sm5 _ _ ex, T.cl, T.n4, hf4 _ _ _ _, a4, _, rfl, .inr (SqT.of c1), fun L nL => ?_⟩⟩
        have s6 : Same H5 (upd H5 L (.lst xs4)) := same_upd nL
        have eL : upd H5 L (.lst xs4) L = some (.lst xs4) := upd_same
        generalize upd H5 L (.lst xs4) = G at s6 eL
        have sG := sm5.trans s6
        have vA := (pa.up fun b o e _ => s6 b o e).vr
        rw [sortsP_D] at vA
        refine ⟨.ref p4, rfl, _, _, .lst (SqL.of eL) ((c3.same s6).dp K), .lst (SqL.of (s6 _ _ e45)) (vA.dp K), sh_sorts ok.rn, sh_sorts ok.rn, _, rfl, ?_⟩
        rw [eq_sorts]
        refine iteT ⟨.ref x, rfl, x, dx, _, rfl, sG _ _ ex, hf0 _ _ _ _ (by decide +kernel), x, ls, rs, rfl, hx0.same sG, ok, fun H' s' => ?_⟩
        refine ⟨⟨_, rfl⟩, .ref p6, rfl, "\n", p6, hallLines ls rs, rfl, rfl, .inl (SqL.of (s' _ _ (s6 _ _ e65))), hall_len ok, rfl, ?_⟩
        have hd : decide (V.str (hallText ls rs) = V.str (Txt.join "\n" (hallLines ls rs))) = true := decide_eq_true rfl
        rw [hd]
        exact fin _ _ (q _ (sG.trans s'))
    obtain ⟨⟨dx, a1, a2, a3, a4, ex, v1, v2, v3, v4⟩, nx⟩ := hx
    obtain ⟨t1, ty1, kt1⟩ := tupT v1
    have w1 := v1
    cases v1 with
    | @tu _ xs1 _ k1 k2 k3 =>
    refine ⟨.ref x, rfl, x, C, dx, _, _, rfl, ex, T.cl, T.n1, hf1 _ _ _ _, .ref a1, .ty "tuple", t1, .type "tuple", true, rfl, .ty _, ty1, kt1, true, rfl, iteF ⟨.ref x, rfl, x, C, dx, _, _, rfl, ex, T.cl, T.n1, hf1 _ _ _ _, a1, _, rfl, .inr (SqT.of k1), fun L1 n1 => ?_⟩⟩
    have s1 : Same H (upd H L1 (.lst xs1)) := same_upd n1
    have eL1 : upd H L1 (.lst xs1) L1 = some (.lst xs1) := upd_same
    generalize upd H L1 (.lst xs1) = G1 at s1 eL1
    refine ⟨.ref pl, rfl, _, _, .lst (SqL.of eL1) ((k3.same s1).dp K), .lst (SqL.of (s1 _ _ el)) ((VrA.strs (pd := pd) (H := G1) ls).dp K), sh_strL ok.ln, sh_strL ok.ln, _, rfl, ?_⟩
    rw [eq_strL]
    refine iteF ?_
    obtain ⟨t2, ty2, kt2⟩ := tupT (v2.same s1)
    cases v2 with
    | @tu _ xs2 _ g1 g2 g3 =>
    refine ⟨.ref x, rfl, x, C, dx, _, _, rfl, s1 _ _ ex, T.cl, T.n2, hf2 _ _ _ _, .ref a2, .ty "tuple", t2, .type "tuple", true, rfl, .ty _, ty2, kt2, true, rfl, iteF ⟨.ref x, rfl, x, C, dx, _, _, rfl, s1 _ _ ex, T.cl, T.n2, hf2 _ _ _ _, a2, _, rfl, .inr (SqT.of (s1 _ _ g1)), fun L2 n2 => ?_⟩⟩
    have s2 : Same G1 (upd G1 L2 (.lst xs2)) := same_upd n2
    have eL2 : upd G1 L2 (.lst xs2) L2 = some (.lst xs2) := upd_same
    generalize upd G1 L2 (.lst xs2) = G2 at s2 eL2
    have s12 := s1.trans s2
    refine ⟨.ref pr, rfl, _, _, .lst (SqL.of eL2) ((g3.same s12).dp K), .lst (SqL.of (s12 _ _ er)) ((vr.same s12).dp K), sh_rowL ok.rn, sh_rowL ok.rn, _, rfl, ?_⟩
    rw [eq_rowL]
    refine iteF ?_
    obtain ⟨t3, ty3, kt3⟩ := tupT (v3.same s12)
    cases v3 with
    | @tu _ xs3 _ b1 b2 b3 =>
    refine ⟨.ref x, rfl, x, C, dx, _, _, rfl, s12 _ _ ex, T.cl, T.n3, hf3 _ _ _ _, .ref a3, .ty "tuple", t3, .type "tuple", true, rfl, .ty _, ty3, kt3, true, rfl, iteF ⟨.ref x, rfl, x, C, dx, _, _, rfl, s12 _ _ ex, T.cl, T.n3, hf3 _ _ _ _, a3, _, rfl, .inr (SqT.of (s12 _ _ b1)), fun L3 n3 => ?_⟩⟩
    have s3 : Same G2 (upd G2 L3 (.lst xs3)) := same_upd n3
    have eL3 : upd G2 L3 (.lst xs3) L3 = some (.lst xs3) := upd_same
    generalize upd G2 L3 (.lst xs3) = G3 at s3 eL3
    have s13 := s12.trans s3
    have er3 := s13 _ _ er
    have vr3 := vr.same s13
    have lr : rv.length = rs.length := by rw [vr.len, List.length_map]
    have rl3 := ok.rl
    have ekk : rs.map (fun r => PyData.str r.k) = (rs.map fun r => r.k).map .str := by rw [List.map_map]; rfl
    have nmk : ∀ w ∈ rs.map (fun r => r.k), isName w = true := fun w hw => by
      obtain ⟨r, hr2, rfl⟩ := List.mem_map.mp hw
      exact (ok.rn r hr2).k
    refine ⟨.ref pr, rfl, pr, rfl, ⟨_, SqL.of er3⟩, fun Dl nD => lc_it (walk_list (xs := rv)) (fun i H5 => Same G3 H5 ∧ H5 Dl = some (.lst (((rs.map fun r => r.k).take i).map V.str))) ⟨same_upd nD, upd_same⟩ (fun i H5 _ p => SqL.of (p.1 _ _ er3)) ?_ ?_⟩
    · rintro i v H5 H6 hi ⟨sm, eD⟩ ⟨rfl, hv⟩
      obtain ⟨d, hd, vd⟩ := vr3.get hv
      rw [List.getElem?_map] at hd
      cases hq : rs[i]? with
      | none =>
        rw [hq] at hd
        cases hd
      | some q =>
        rw [hq] at hd
        cases hd
        have vd := vd.same sm
        cases vd with
        | @tu p us _ h1 h2 h3 =>
        cases h3 with
        | @cons u0 ut _ _ va vt =>
          have ev : u0 = .str q.k := by cases va; rfl
          subst ev
          refine ⟨rfl, ?_⟩
          refine iteT (B := Same G3 H6 ∧ H6 Dl = some (.lst (((rs.map fun r => r.k).take (i + 1)).map V.str))) ?_
          refine ⟨.ref p, rfl, p, _, 0, .str q.k, rfl, rfl, SqT.of h1, at0 _ _, _, eD, small1000 (by rw [List.length_map, List.length_take, List.length_map]; omega), Same.put sm nD, ?_⟩
          rw [upd_same, List.take_add_one, List.getElem?_map, hq, List.map_append]
          rfl
    rintro H5 ⟨sm5, eD⟩
    rw [lr, ← List.length_map (f := fun r : Rw => r.k), List.take_length] at eD
    refine ⟨_, _, .lst (SqL.of (sm5 _ _ eL3)) ((((b3.same s13).same sm5)).dp K), .lst (SqL.of eD) ((VrA.strs (pd := pd) (H := H5) _).dp K), by rw [ekk]; exact sh_strL nmk, sh_strL nmk, _, rfl, ?_⟩
    rw [ekk, eq_strL]
    exact iteF ⟨rfl, rfl, s13.trans sm5⟩
end
end K01
namespace K01
open PySem PySem.Spec PyProof.Rows L2
def Rep (rs : List Rw) : Prop := ∀ r ∈ rs, hasRep r.fs = false
theorem toStr_id : ∀ fs : List Str, (fs.map PyData.str).map toStr = fs := toStr_map
theorem rowOf_rowD (r : Rw) : rowOf (rowD r) = r := by
  obtain ⟨k, l, fs⟩ := r
  show Rw.mk (toStr (.str k)) (if isNo (optD l) = true then none else some (toStr (optD l))) ((fs.map PyData.str).map toStr) = _
  rw [toStr_id]
  cases l with
  | none => rfl
  | some x => rfl
theorem all_nmS : ∀ {fs : List Str}, (∀ f ∈ fs, isName f = true) → (fs.map PyData.str).all nmD = true := fun h => by
  rw [List.all_map]
  exact List.all_eq_true.mpr fun f hf => h f hf
theorem descr_ok {r : Rw} (h : Rok r) : isDescr (rowD r) = true := by
  show (decide ((r.fs.map PyData.str).length = 1 ∨ (r.fs.map PyData.str).length = 2) && ((isNo (optD r.l) || nmD (optD r.l)) && (nmD (.str r.k) && (r.fs.map PyData.str).all nmD))) = true
  rw [List.length_map, decide_eq_true h.n, all_nmS h.fs, show nmD (.str r.k) = isName r.k from rfl, h.k]
  cases hl : r.l with
  | none => rfl
  | some x =>
    show (true && ((false || isName x) && true)) = true
    rw [h.l x hl]
    rfl
theorem lock_ok : ∀ {ls ws : List Str}, (∀ l ∈ ls, isName l = true) → (ws ++ ls).Nodup → ws.length + ls.length ≤ 4 → lockF ws (ls.map .str) = none
  | [], _, _, _, _ => rfl
  | l :: ls, ws, hn, nd, hl => by
    have h1 : lockRule (.str l) ws = "" := by
      unfold lockRule
      rw [show nmD (.str l) = isName l from rfl, hn l List.mem_cons_self, if_pos rfl, if_neg (by simp only [List.length_cons] at hl; omega), if_neg]
      intro hm
      exact (List.nodup_append.mp nd).2.2 _ hm _ List.mem_cons_self rfl
    show (if lockRule (.str l) ws = "" then lockF (ws ++ [toStr (.str l)]) (ls.map .str) else _) = none
    rw [if_pos h1]
    exact lock_ok (fun v hv => hn v (List.mem_cons_of_mem _ hv)) (by show (ws ++ [l] ++ ls).Nodup; rw [List.append_assoc]; exact nd) (by rw [List.length_append]; simp only [List.length_cons, List.length_nil] at hl ⊢; omega)
theorem kind_ok (n : Nat) (ls : List Str) : ∀ {rs : List Rw} {ks : List Str}, (∀ r ∈ rs, Rok r) → Rep rs → (∀ r ∈ rs, ∀ x, r.l = some x → x ∈ ls) → (ls ++ (ks ++ rs.map fun r => r.k)).Nodup → ks.length + rs.length ≤ 3 → kindF n ls ks (rs.map rowD) = none
  | [], _, _, _, _, _, _ => rfl
  | r :: rs, ks, hr, rp, hl, nd, hn => by
    have h1 : kindRule (rowD r) ls ks = "" := by
      unfold kindRule
      rw [descr_ok (hr r List.mem_cons_self), if_pos rfl, rowOf_rowD]
      unfold rowRule
      rw [if_neg (by simp only [List.length_cons] at hn; omega), if_neg]
      · cases he : r.l with
        | none => rfl
        | some x =>
          show (if x ∈ ls then ("" : Str) else "unknown") = ""
          exact if_pos (hl r List.mem_cons_self x he)
      · obtain ⟨_, h2, h3⟩ := List.nodup_append.mp nd
        intro z
        rcases z with z | z | z
        · exact h3 _ z _ (List.mem_append.mpr (.inr List.mem_cons_self)) rfl
        · exact (List.nodup_append.mp h2).2.2 _ z _ List.mem_cons_self rfl
        · rw [rp r List.mem_cons_self] at z
          cases z
    show (if kindRule (rowD r) ls ks = "" then kindF n ls (ks ++ [(rowOf (rowD r)).k]) (rs.map rowD) else _) = none
    rw [if_pos h1, rowOf_rowD]
    refine kind_ok n ls (fun q hq => hr q (List.mem_cons_of_mem _ hq)) (fun q hq => rp q (List.mem_cons_of_mem _ hq)) (fun q hq => hl q (List.mem_cons_of_mem _ hq)) ?_ (by rw [List.length_append]; simp only [List.length_cons, List.length_nil] at hn ⊢; omega)
    rw [List.append_assoc]
    exact nd
theorem hall_ok {ls : List Str} {rs : List Rw} (ok : Hok ls rs) (rp : Rep rs) : hallF (ls.map .str) (rs.map rowD) = none := by
  unfold hallF
  have h1 : lockF [] (ls.map .str) = none := lock_ok ok.ln (by simpa using (List.nodup_append.mp ok.kd).1) (by have := ok.ll; simp; omega)
  have h2 : kindF (ls.map PyData.str).length ((ls.map PyData.str).map toStr) [] (rs.map rowD) = none := by
    rw [toStr_map]
    exact kind_ok _ ls ok.rn rp ok.lk (by simpa using ok.kd) (by have := ok.rl; simp; omega)
  rw [h1, h2]
  show (if (rs.map rowD).length = 0 then _ else none) = none
  rw [if_neg]
  rw [List.length_map]
  intro z
  exact ok.r0 (List.eq_nil_of_length_eq_zero z)
theorem kind_rep (n : Nat) (ls : List Str) : ∀ {rs : List Rw} {ks : List Str}, kindF n ls ks (rs.map rowD) = none → Rep rs
  | [], _, _ => fun r hr => by cases hr
  | r :: rs, ks, h => by
    have h : (if kindRule (rowD r) ls ks = "" then kindF n ls (ks ++ [(rowOf (rowD r)).k]) (rs.map rowD) else some (n + ks.length + 1, kindRule (rowD r) ls ks)) = none := h
    by_cases e : kindRule (rowD r) ls ks = ""
    · rw [if_pos e] at h
      obtain ⟨_, e2⟩ := kindRule_ok e
      rw [rowOf_rowD] at e2
      intro q hq
      rcases List.mem_cons.mp hq with rfl | hq
      · cases hrp : hasRep q.fs with
        | false => rfl
        | true =>
          unfold rowRule at e2
          have e1 : ("many" : Str) ≠ "" := by decide +kernel
          have e3 : ("twice" : Str) ≠ "" := by decide +kernel
          split at e2
          · exact absurd e2 e1
          · rw [if_pos (.inr (.inr hrp))] at e2
            exact absurd e2 e3
      · exact kind_rep n ls h q hq
    · rw [if_neg e] at h
      cases h
theorem hall_rep {ld : List D} {rs : List Rw} (h : hallF ld (rs.map rowD) = none) : Rep rs := by
  unfold hallF at h
  cases e1 : lockF [] ld with
  | some p =>
    rw [e1] at h
    cases h
  | none =>
    rw [e1] at h
    cases e2 : kindF ld.length (ld.map toStr) [] (rs.map rowD) with
    | some p =>
      rw [e2] at h
      cases h
    | none => exact kind_rep _ _ e2
theorem str_inj : ∀ {a b : List Str}, a.map PyData.str = b.map PyData.str → a = b := fun {a b} h => by
  rw [← toStr_map a, h, toStr_map]
theorem rows_inj {a b : List Rw} (h : a.map rowD = b.map rowD) : a = b := by
  have e : ∀ c : List Rw, (c.map rowD).map rowOf = c := fun c => by
    rw [List.map_map]
    have : (rowOf ∘ rowD) = id := funext rowOf_rowD
    rw [this, List.map_id]
  rw [← e a, h, e]
section
variable {pd C CL : Addr}
theorem mq {H : Hp} {Q : VK} {E : XK} {a pr : Addr} {ws : List Str} {rs : List Rw} {rv : List V} (pdl : ∃ o, H pd = some o) (ea : H a = some (.lst (ws.map V.str))) (er : H pr = some (.lst rv)) (vr : VrA pd H rv (rs.map rowD)) (ok : Hok ws rs) (rp : Rep rs)
    (yes : ∀ x H', Same H H' → H x = none → HallAt pd C H' x ws rs → Q (.ref x) H') : ∃ pd, spMade pd C CL [.ref a, .ref pr] H Q E := by
  have h0 := hall_ok ok rp
  refine ⟨pd, a, pr, _, rv, ws.map .str, rs.map rowD, rfl, pdl, ea, VrA.strs ws, er, vr, fun d hd => ?_, fun d hd => ?_, by rw [List.length_map]; have := ok.ll; omega, by rw [List.length_map]; have := ok.rl; omega, fun _ x H' ws' qs' s' nx e1 e2 ok' hh => ?_, fun n r hf => ?_⟩
  · obtain ⟨l, hl, rfl⟩ := List.mem_map.mp hd
    intro t e
    injection e with e
    rw [← e]
    have := nm_len (ok.ln l hl)
    omega
  · obtain ⟨r, hr, rfl⟩ := List.mem_map.mp hd
    have rk := ok.rn r hr
    intro ds e
    have e : PyData.tuple (rowL r) = .tuple ds := e
    injection e with e
    subst e
    refine ⟨?_, fun d hd t et => ?_⟩
    · show (r.fs.map PyData.str).length + 1 + 1 ≤ 1000
      rw [List.length_map]
      rcases rk.n with z | z <;> omega
    · subst et
      rcases List.mem_cons.mp hd with h | hd
      · injection h with h
        rw [h]
        have := nm_len rk.k
        omega
      rcases List.mem_cons.mp hd with h | hd
      · cases hl : r.l with
        | none =>
          rw [hl] at h
          cases h
        | some z =>
          rw [hl] at h
          have h : PyData.str t = .str z := h
          injection h with h
          rw [h]
          have := nm_len (rk.l z hl)
          omega
      · obtain ⟨f, hf, h⟩ := List.mem_map.mp hd
        injection h with h
        rw [← h]
        have := nm_len (rk.fs f hf)
        omega
  · rw [← str_inj e1, ← rows_inj e2] at hh
    exact yes x H' s' nx hh
  · rw [h0] at hf
    cases hf
end
end K01
namespace K01
open PySem PySem.Spec PyProof.Rows L2
theorem chg {ls : List Str} {ini : List Rw} {q : Rw} (ok : Hok ls (ini ++ [q])) (rp : Rep (ini ++ [q])) {n : Str} (hn : isName n = true) : Rok ⟨q.k, none, [n]⟩ ∧ Hok ls (ini ++ [⟨q.k, none, [n]⟩]) ∧ Rep (ini ++ [⟨q.k, none, [n]⟩]) := by
  have rk : Rok ⟨q.k, none, [n]⟩ := ⟨(ok.rn q (by simp)).k, fun x e => (by cases e), fun f hf => by rw [List.mem_singleton.mp hf]; exact hn, .inl rfl⟩
  refine ⟨rk, ⟨ok.ln, ok.ll, fun r hr => ?_, ?_, by simp, ?_, fun r hr x hx => ?_⟩, fun r hr => ?_⟩
  · rcases List.mem_append.mp hr with hr | hr
    · exact ok.rn r (List.mem_append.mpr (.inl hr))
    · rw [List.mem_singleton.mp hr]
      exact rk
  · have := ok.rl
    rw [List.length_append] at this ⊢
    exact this
  · have := ok.kd
    rw [List.map_append] at this ⊢
    exact this
  · rcases List.mem_append.mp hr with hr | hr
    · exact ok.lk r (List.mem_append.mpr (.inl hr)) x hx
    · rw [List.mem_singleton.mp hr] at hx
      cases hx
  · rcases List.mem_append.mp hr with hr | hr
    · exact rp r (List.mem_append.mpr (.inl hr))
    · rw [List.mem_singleton.mp hr]
      rfl
theorem noL_strs (ws : List Str) : noLA (ws.map .str) = true := noLA_all fun d hd => by
  obtain ⟨w, _, rfl⟩ := List.mem_map.mp hd
  exact noL_str w
theorem noL_row (r : Rw) : noL (rowD r) = true := noL_tup fun d hd => by
  rcases List.mem_cons.mp hd with rfl | hd
  · exact noL_str _
  rcases List.mem_cons.mp hd with rfl | hd
  · cases hl : r.l with
    | none => rfl
    | some x => exact noL_str x
  · obtain ⟨w, _, rfl⟩ := List.mem_map.mp hd
    exact noL_str w
theorem noL_rows (rs : List Rw) : noLA (rs.map rowD) = true := noLA_all fun d hd => by
  obtain ⟨r, _, rfl⟩ := List.mem_map.mp hd
  exact noL_row r
theorem noL_sorts (rs : List Rw) : noLA (sortsD rs) = true := by
  rw [sorts_pair]
  refine noLA_all fun d hd => ?_
  obtain ⟨p, _, rfl⟩ := List.mem_map.mp hd
  exact noL_tup fun e he => by
    rcases List.mem_cons.mp he with rfl | he
    · exact noL_str _
    · rw [List.mem_singleton.mp he]
      exact noL_str _
theorem HallAt.upN {pd C x : Addr} {H H' : Hp} {ls : List Str} {rs : List Rw} (h : HallAt pd C H x ls rs) (k : ∀ b o, H b = some o → (∀ xs, o ≠ .lst xs) → H' b = some o) : HallAt pd C H' x ls rs := by
  obtain ⟨⟨dx, a1, a2, a3, a4, e, v1, v2, v3, v4⟩, np⟩ := h
  have kt : ∀ b xs, H b = some (.tup xs) → H' b = some (.tup xs) := fun b xs e => k _ _ e fun ys z => by cases z
  refine ⟨⟨dx, a1, a2, a3, a4, k _ _ e fun ys z => (by cases z), Vr.upN kt _ ?_ v1, Vr.upN kt _ ?_ v2, Vr.upN kt _ ?_ v3, Vr.upN kt _ ?_ v4⟩, np⟩
  · rw [noL]
    exact noL_strs ls
  · rw [noL]
    exact noL_rows rs
  · rw [noL]
    refine noLA_all fun d hd => ?_
    obtain ⟨r, _, rfl⟩ := List.mem_map.mp hd
    exact noL_str _
  · rw [noL]
    exact noL_sorts rs
theorem rule_ok : ∀ r ∈ RULEL, PyData.strOk r = true := by decide +kernel
theorem sh_found {n : Nat} {r : Str} (h : PyData.strOk r = true) (hn : n ≤ 1000) : SeqAt.shaped (.tuple [.int n, .str r, .bool true, .bool false]) = true := by
  refine sh_tup ?_ (by simp only [PyData.depthAll, PyData.depth]; omega)
  simp [PyData.canLayAll0, PyData.canLay0, h]
theorem eq_found (n : Nat) (r : Str) : PyData.eqv (.tuple [.int n, .str r, .bool true, .bool false]) (.tuple [.int n, .str r, .bool true, .bool false]) = true := by
  simp [PyData.eqv, PyData.eqvAll]
theorem fld_line (n : Int) (r : Str) : ([("rule", V.str r), ("line", V.int n)] : List (Str × V)).lookup ("line" : Str) = some (.int n) := by
  have h1 : (("line" : Str) == "rule") = false := by decide +kernel
  have h2 : (("line" : Str) == "line") = true := by decide +kernel
  simp only [List.lookup, h1, h2]
theorem fld_rule (n : Int) (r : Str) : ([("rule", V.str r), ("line", V.int n)] : List (Str × V)).lookup ("rule" : Str) = some (.str r) := by
  have h2 : (("rule" : Str) == "rule") = true := by decide +kernel
  simp only [List.lookup, h2]
/-- a drawn row in the rows' list at pr -/
inductive RV (pd pr : Addr) (H : Hp) : V → D → Prop
  | flat {v : V} {d : D} : Vr pd H v d → noL d = true → RV pd pr H v d
  | lst {a : Addr} {ys : List V} {ds : List D} : a ≠ pd → a ≠ pr → H a = some (.lst ys) → VrA pd H ys ds → noLA ds = true → RV pd pr H (.ref a) (.list ds)
inductive RVA (pd pr : Addr) (H : Hp) : List V → List D → Prop
  | nil : RVA pd pr H [] []
  | cons {v : V} {vs : List V} {d : D} {ds : List D} : RV pd pr H v d → RVA pd pr H vs ds → RVA pd pr H (v :: vs) (d :: ds)
section
variable {pd pr : Addr} {H H' : Hp}
theorem RV.up (hp : ∃ xs, H pr = some (.lst xs)) (hd : ∃ xs, H pd = some (.lst xs)) (k : ∀ b o, H b = some o → b ≠ pd → b ≠ pr → H' b = some o) {v : V} {d : D} (h : RV pd pr H v d) : RV pd pr H' v d := by
  have kt : ∀ b xs, H b = some (.tup xs) → H' b = some (.tup xs) := fun b xs e => k _ _ e (fun z => by
    obtain ⟨ys, hy⟩ := hd
    rw [z, hy] at e
    cases e) (fun z => by
    obtain ⟨ys, hy⟩ := hp
    rw [z, hy] at e
    cases e)
  cases h with
  | flat h1 h2 => exact .flat (Vr.upN kt _ h2 h1) h2
  | lst h1 h2 h3 h4 h5 => exact .lst h1 h2 (k _ _ h3 h1 h2) (VrA.upN kt _ h5 h4) h5
theorem RVA.up (hp : ∃ xs, H pr = some (.lst xs)) (hd : ∃ xs, H pd = some (.lst xs)) (k : ∀ b o, H b = some o → b ≠ pd → b ≠ pr → H' b = some o) : ∀ {vs : List V} {ds : List D}, RVA pd pr H vs ds → RVA pd pr H' vs ds
  | _, _, .nil => .nil
  | _, _, .cons h1 h2 => .cons (h1.up hp hd k) (h2.up hp hd k)
theorem RV.vr {v : V} {d : D} (h : RV pd pr H v d) : Vr pd H v d := by
  cases h with
  | flat h1 h2 => exact h1
  | lst h1 h2 h3 h4 h5 => exact .li h3 h1 h4
theorem RVA.vr : ∀ {vs : List V} {ds : List D}, RVA pd pr H vs ds → VrA pd H vs ds
  | _, _, .nil => .nil
  | _, _, .cons h1 h2 => .cons h1.vr h2.vr
theorem RVA.snoc : ∀ {vs : List V} {ds : List D} {v : V} {d : D}, RVA pd pr H vs ds → RV pd pr H v d → RVA pd pr H (vs ++ [v]) (ds ++ [d])
  | _, _, _, _, .nil, h => .cons h .nil
  | _, _, _, _, .cons h1 h2, h => .cons h1 (h2.snoc h)
theorem Dr.at_ {p : Addr} {o : HO} (d : Dr H H' pd) (n : p ≠ pd) : Dr (upd H' p o) (upd H' p o) pd := by
  obtain ⟨ys, hy⟩ := d.dr
  exact ⟨fun _ _ e _ => e, ys, by rw [upd_ne n.symm]; exact hy⟩
end
end K01
namespace K01
open PySem PySem.Spec PyProof.Rows L2
abbrev sLaw : Stmt := top 32
theorem scLaw : FnScope ["_law_script", "_law_draws_here", "_law_pool_here", "_law_locks", "_law_at", "_law_rows", "_law_due", "_law_handed", "_law_found", "_law_hall", "e", "_law_strange", "_law_other", "_law_changed", "_law_unlike", "_law_told", "_law_name"] ["_law_script"] (defScope sLaw) := ⟨rfl, rfl, rfl, by decide +kernel, rfl, by decide +kernel, by decide +kernel⟩
theorem passF {X : Cx} {P : Program} {w : World} : Passes (L2.CX P w) X E0 := fun _ _ _ _ _ _ _ ⟨_, _, _, _, _, _, _, _, _, _, _, _, f⟩ => f.elim
/-- the drawn parts -/
structure S4 (sc pd pp pl pr : Addr) (H : Hp) (ns : List Str) (lv rv : List V) (ld rd : List D) : Prop where
  pdl : ∃ o, H pd = some o
  po : Pl pd pp H ns
  el : H pl = some (.lst lv)
  vl : VrA pd H lv ld
  nl : noLA ld = true
  kl : ∀ d ∈ ld, LkD ns d
  ll : ld.length ≤ 6
  er : H pr = some (.lst rv)
  vr : VrA pd H rv rd
  kr : ∀ d ∈ rd, RwD ns d
  lr : rd.length ≤ 5
def tS4 (sc : Addr) (Q : VK) : TS := fun Dn σ H => ∃ (pd pp pl pr : Addr) (y4 : Option V) (ns : List Str) (lv rv : List V) (ld rd : List D), σ = [some (.ref sc), some (.ref pd), some (.ref pp), some (.ref pl), y4, some (.ref pr), none, none, none, none, none, none, none, none, none, none, none] ∧ S4 sc pd pp pl pr H ns lv rv ld rd ∧ Dn.rt = Q
/-- behind the try: a fault told, or a hall -/
def tS5 (sc C : Addr) (Q : VK) : TS := fun Dn σ H => ∃ (pd pp pl pr p7 : Addr) (y4 y8 y9 y11 : Option V) (y6 : V), σ = [some (.ref sc), some (.ref pd), some (.ref pp), some (.ref pl), y4, some (.ref pr), some y6, some (.ref p7), y8, y9, none, y11, none, none, none, none, none] ∧ Dn.rt = Q ∧
  ((∃ (pu pf : Addr) (n : Nat) (r : Str), y6 = .ref pu ∧ y8 = some (.ref pf) ∧ H pu = some (.tup [.int n, .str r]) ∧ H pf = some (.tup [.int n, .str r, .bl true, .bl false]) ∧ SeqAt.shaped (.tuple [.int n, .str r, .bool true, .bool false]) = true) ∨
   ∃ (x : Addr) (ns ls : List Str) (lv rv : List V) (rs : List Rw), y6 = .non ∧ y8 = some .non ∧ y9 = some (.ref x) ∧ S4 sc pd pp pl pr H ns lv rv (ls.map .str) (rs.map rowD) ∧ Hok ls rs ∧ Rep rs ∧ HallAt pd C H x ls rs ∧ H p7 = some (.lst (ls.map V.str)) ∧ p7 ≠ pd ∧ p7 ≠ pp ∧ p7 ≠ pl ∧ p7 ≠ pr)
/-- a hall of the parts -/
structure S6 (sc C x pd pp pl pr : Addr) (H : Hp) (ns ls : List Str) (rv : List V) (rs : List Rw) : Prop where
  pdl : ∃ o, H pd = some o
  po : Pl pd pp H ns
  el : H pl = some (.lst (ls.map V.str))
  er : H pr = some (.lst rv)
  vr : VrA pd H rv (rs.map rowD)
  ok : Hok ls rs
  hx : HallAt pd C H x ls rs
  kl : ∀ d ∈ ls.map PyData.str, LkD ns d
  kr : ∀ d ∈ rs.map rowD, RwD ns d
  rp : Rep rs
theorem S6.same {sc C x pd pp pl pr : Addr} {H H' : Hp} {ns ls : List Str} {rv : List V} {rs : List Rw} (s : S6 sc C x pd pp pl pr H ns ls rv rs) (k : Same H H') : S6 sc C x pd pp pl pr H' ns ls rv rs :=
  ⟨let ⟨o, h⟩ := s.pdl; ⟨o, k _ _ h⟩, ⟨k _ _ s.po.at_, s.po.ne, s.po.po⟩, k _ _ s.el, k _ _ s.er, s.vr.same k, s.ok, s.hx.same k, s.kl, s.kr, s.rp⟩
theorem S6.kinds {sc C x pd pp pl pr : Addr} {H : Hp} {ns ls : List Str} {rv : List V} {rs : List Rw} (s : S6 sc C x pd pp pl pr H ns ls rv rs) : ∀ k ∈ rs.map (fun r => r.k), isName k = true ∧ ∃ j, j < 13 ∧ ns[j]? = some k := fun k hk => by
  obtain ⟨r, hr, rfl⟩ := List.mem_map.mp hk
  refine ⟨(s.ok.rn r hr).k, ?_⟩
  obtain ⟨j, h1, h2⟩ := (s.kr _ (List.mem_map.mpr ⟨r, hr, rfl⟩)).kd (descr_ok (s.ok.rn r hr))
  rw [rowOf_rowD] at h2
  exact ⟨j, h1, h2⟩
theorem S6.locks {sc C x pd pp pl pr : Addr} {H : Hp} {ns ls : List Str} {rv : List V} {rs : List Rw} (s : S6 sc C x pd pp pl pr H ns ls rv rs) : ∀ l ∈ ls, isName l = true ∧ ∃ j, j < 7 ∧ ns[j]? = some l := fun l hl => by
  refine ⟨s.ok.ln l hl, ?_⟩
  rcases s.kl _ (List.mem_map.mpr ⟨l, hl, rfl⟩) with ⟨j, t, h1, h2, h3⟩ | ⟨h1, _⟩
  · injection h3 with h3
    exact ⟨j, h1, by rw [h3]; exact h2⟩
  · rw [show nmD (.str l) = isName l from rfl, s.ok.ln l hl] at h1
    cases h1
theorem nd_ne {ns : List Str} (nd : ns.Nodup) {i j : Nat} {a b : Str} (hi : ns[i]? = some a) (hj : ns[j]? = some b) (h : i ≠ j) : a ≠ b := fun e => by
  subst e
  obtain ⟨h1, _⟩ := List.getElem?_eq_some_iff.mp hi
  exact h ((List.getElem?_inj h1 nd).mp (hi.trans hj.symm))
theorem S6.far {sc C x pd pp pl pr : Addr} {H : Hp} {ns ls : List Str} {rv : List V} {rs : List Rw} (s : S6 sc C x pd pp pl pr H ns ls rv rs) {i : Nat} {n : Str} (hi : ns[i]? = some n) (h : 13 ≤ i) : n ∉ ls ∧ n ∉ rs.map (fun r => r.k) := by
  refine ⟨fun z => ?_, fun z => ?_⟩
  · obtain ⟨_, j, h1, h2⟩ := s.locks n z
    exact nd_ne s.po.po.nd hi h2 (by omega) rfl
  · obtain ⟨_, j, h1, h2⟩ := s.kinds n z
    exact nd_ne s.po.po.nd hi h2 (by omega) rfl
section
variable {P : Program} {w : World} {K : PySem.W.Frag} {mg : Str → Option Value} {base : Heap} {C CN CL CP CH : Addr}
def tS6 (sc C : Addr) (Q : VK) : TS := fun Dn σ H => ∃ (x pd pp pl pr : Addr) (y4 y6 y7 y8 y11 y12 y13 : Option V) (ns ls : List Str) (rv : List V) (rs : List Rw), σ = [some (.ref sc), some (.ref pd), some (.ref pp), some (.ref pl), y4, some (.ref pr), y6, y7, y8, some (.ref x), none, y11, y12, y13, none, none, none] ∧ Dn.rt = Q ∧ S6 sc C x pd pp pl pr H ns ls rv rs
def tS8 (sc C : Addr) (Q : VK) : TS := fun Dn σ H => ∃ (x pd pp pl pr : Addr) (y4 y6 y7 y8 y11 y12 y13 y14 y15 : Option V) (ns ls : List Str) (rv : List V) (rs : List Rw), σ = [some (.ref sc), some (.ref pd), some (.ref pp), some (.ref pl), y4, some (.ref pr), y6, y7, y8, some (.ref x), none, y11, y12, y13, y14, y15, none] ∧ Dn.rt = Q ∧ S6 sc C x pd pp pl pr H ns ls rv rs
def tS55 (sc C : Addr) (Q : VK) : TS := fun Dn σ H => ∃ (x pd pp pl pr xo p13 : Addr) (y4 y6 y7 y8 y11 : Option V) (ns ls : List Str) (rv : List V) (rs ini : List Rw) (qq ch : Rw), σ = [some (.ref sc), some (.ref pd), some (.ref pp), some (.ref pl), y4, some (.ref pr), y6, y7, y8, some (.ref x), none, y11, some (.ref xo), some (.ref p13), none, none, none] ∧ Dn.rt = Q ∧ S6 sc C x pd pp pl pr H ns ls rv rs ∧ HallAt pd C H xo ls rs ∧ Vr pd H (.ref p13) (rowD ch) ∧ rs = ini ++ [qq] ∧ ch ≠ qq ∧ Hok ls (ini ++ [ch]) ∧ Rep (ini ++ [ch])
/-- other locks, told -/
def Told (p14 : Addr) (ls : List Str) (rs : List Rw) (H : Hp) (v : V) : Prop := ∃ (a : Addr) (ws : List Str), v = .ref a ∧ a ≠ p14 ∧ H a = some (.lst (ws.map V.str)) ∧ ws ≠ ls ∧ Hok ws rs
def tS7 (n : Nat) (sc C : Addr) (Q : VK) : TS := fun Dn σ H => ∃ (x pd pp pl pr p14 : Addr) (y4 y6 y7 y8 y11 y12 y13 : Option V) (ns ls : List Str) (rv : List V) (rs : List Rw) (us : List V), σ = [some (.ref sc), some (.ref pd), some (.ref pp), some (.ref pl), y4, some (.ref pr), y6, y7, y8, some (.ref x), none, y11, y12, y13, some (.ref p14), none, none] ∧ Dn.rt = Q ∧ (∃ H0, S6 sc C x pd pp pl pr H0 ns ls rv rs ∧ H0 p14 = none ∧ Same H0 H) ∧ H p14 = some (.lst us) ∧ us.length ≤ n ∧ ∀ u ∈ us, Told p14 ls rs H u
def spLaw (K : PySem.W.Frag) : Sp := fun vs H Q _ => ∃ (a : Addr) (ns : List Int), vs = [.ref a] ∧ SqL K H a (ns.map V.int) ∧ ∀ H', Q (.bl true) H'
theorem ok_law {f fDs fPo fN fLk fDe fJu fMa fMi fHo fE : Addr} {fd fdDs fdPo fdN fdLk fdDe fdJu fdMa fdMi fdHo fdE : FuncData} (F : FnP K "law" sLaw f fd)
    (FDs : FnP K "_law_draws" sDraws fDs fdDs) (gDs : mg "_law_draws" = some (.ref fDs)) (GDs : FnOk P w K mg base CX0 1 fDs fdDs ["_law_script"] (spDraws K))
    (FN : FnP K "_law_next" sNext fN fdN) (gN : mg "_law_next" = some (.ref fN))
    (FPo : FnP K "_law_pool" sPool fPo fdPo) (gPo : mg "_law_pool" = some (.ref fPo)) (GPo : ∀ pd, FnOk P w K mg base CX0 2 fPo fdPo ["_law_draws_here"] (spPool pd))
    (FLk : FnP K "_law_lock" sLock fLk fdLk) (gLk : mg "_law_lock" = some (.ref fLk)) (GLk : ∀ i : Addr × Addr, FnOk P w K mg base CX0 2 fLk fdLk ["_law_draws_here", "_law_pool_here", "_law_at"] (spLock i.1 i.2))
    (FDe : FnP K "_law_description" sDes fDe fdDe) (gDe : mg "_law_description" = some (.ref fDe)) (GDe : ∀ i : Addr × Addr × Addr, FnOk P w K mg base CX0 2 fDe fdDe ["_law_draws_here", "_law_pool_here", "_law_locks", "_law_at"] (spDes i.1 i.2.1 i.2.2))
    (FJu : FnP K "_law_judge" sJudge fJu fdJu) (gJu : mg "_law_judge" = some (.ref fJu)) (GJu : ∀ i : Addr × Addr, FnOk P w K mg base CX0 2 fJu fdJu ["_law_locks", "_law_rows", "_law_pool_here"] (spJudge i.1 i.2))
    (FMa : FnP K "_law_made" sMade fMa fdMa) (gMa : mg "_law_made" = some (.ref fMa)) (GMa : ∀ pd, FnOk P w K mg base (L2.CX P w) 7 fMa fdMa ["_law_locks", "_law_rows"] (spMade pd C CL))
    (FMi : FnP K "_law_missed" sMiss fMi fdMi) (gMi : mg "_law_missed" = some (.ref fMi)) (GMi : ∀ pd, FnOk P w K mg base CX0 5 fMi fdMi ["_law_hall", "_law_name", "_law_which"] (spMiss pd C))
    (FHo : FnP K "_law_holds" sHold fHo fdHo) (gHo : mg "_law_holds" = some (.ref fHo)) (GHo : ∀ pd, FnOk P w K mg base (L2.CX P w) 5 fHo fdHo ["_law_hall", "_law_locks", "_law_rows"] (spHold pd C))
    (FE : FnM K "__eq__" "Hall.__eq__" sEq fE fdE) (GE : ∀ pd, FnOk P w K mg base CX0 1 fE fdE ["self", "other"] (spEqH pd C)) (eqs : PySem.W.findIn K (.ref C) "__eq__" = some (some (.ref fE))) (eqf : PySem.W.isFn K (.ref fE) = true)
    (BL : ErC P w K mg base "BadLine" CL ["line", "rule"]) (gH : mg "HandsError" = some (.ref CH)) (gNS : mg "NoSuch" = some (.ref CN)) (gP : mg "BadPart" = some (.ref CP))
    (exm : PySem.W.exmOne K (.ref CL) (.ref CL) = some true) (kH : PySem.W.kitOne K (.ref CL) (.ref CH) = some true) (kA : PySem.W.kitAny K (.ref CL) [.ref CN, .ref CP] = some false)
    (mr : mg "range" = none) (ml : mg "len" = none) (mi : mg "int" = none) (mL : mg "list" = none) (ms : mg "isinstance" = none) (mb : mg "bool" = none) :
    FnOk P w K mg base CX0 8 f fd ["_law_script"] (spLaw K) := by
  have GN : FnOk P w K mg base CX0 1 fN fdN ["_law_draws_here", "_law_many"] spNext := ok_next FN ml mi
  have GPo := FnOk.ex GPo
  have GLk := FnOk.ex GLk
  have GDe := FnOk.ex GDe
  have GJu := FnOk.ex GJu
  have GMa := FnOk.ex GMa
  have GMi := FnOk.ex GMi
  have GHo := FnOk.ex GHo
  have GE := FnOk.ex GE
  have bN : Binds K fdN ["_law_draws_here", "_law_many"] [] := FN.bindsN fun _ _ _ _ _ _ us hl => match us, hl with | [_, _], _ => rfl
  have bDs : Binds K fdDs ["_law_script"] [] := FDs.bindsN fun _ _ _ _ _ _ us hl => match us, hl with | [_], _ => rfl
  have bPo : Binds K fdPo ["_law_draws_here"] [] := FPo.bindsN fun _ _ _ _ _ _ us hl => match us, hl with | [_], _ => rfl
  have bLk : Binds K fdLk ["_law_draws_here", "_law_pool_here", "_law_at"] [] := FLk.bindsN fun _ _ _ _ _ _ us hl => match us, hl with | [_, _, _], _ => rfl
  have bDe : Binds K fdDe ["_law_draws_here", "_law_pool_here", "_law_locks", "_law_at"] [] := FDe.bindsN fun _ _ _ _ _ _ us hl => match us, hl with | [_, _, _, _], _ => rfl
  have bJu : Binds K fdJu ["_law_locks", "_law_rows", "_law_pool_here"] [] := FJu.bindsN fun _ _ _ _ _ _ us hl => match us, hl with | [_, _, _], _ => rfl
  have bMa : Binds K fdMa ["_law_locks", "_law_rows"] [] := FMa.bindsN fun _ _ _ _ _ _ us hl => match us, hl with | [_, _], _ => rfl
  have bMi : Binds K fdMi ["_law_hall", "_law_name", "_law_which"] [] := FMi.bindsN fun _ _ _ _ _ _ us hl => match us, hl with | [_, _, _], _ => rfl
  have bHo : Binds K fdHo ["_law_hall", "_law_locks", "_law_rows"] [] := FHo.bindsN fun _ _ _ _ _ _ us hl => match us, hl with | [_, _, _], _ => rfl
  have bE : Binds K fdE ["self", "other"] [] := FE.bindsN fun _ _ _ _ _ _ us hl => match us, hl with | [_, _], _ => rfl
  refine F.ok scLaw (fun vs H Q E h => ?_) (fun cdv A outer s H vs Q E hr h => ?_)
  · obtain ⟨a, ns, rfl, _⟩ := h
    rfl
  · obtain ⟨a, ns, rfl, hS, q⟩ := h
    have hr1 := hr.mono (show 1 ≤ 7 by decide)
    have hr2 := hr.mono (show 2 ≤ 7 by decide)
    have hr5 := hr.mono (show 5 ≤ 7 by decide)
    refine ⟨_, pss_cons (ps_set (i := 1) scLaw.nd rfl (.inl rfl) (pe_call GDs hr1 (by rfl) gDs FDs.kp bDs .nil pass0 (pa_cons (pv 0) pa_nil)))
      (pss_cons (ps_set (i := 2) scLaw.nd rfl (.inl rfl) (pe_call GPo hr2 (by rfl) gPo FPo.kp bPo .nil pass0 (pa_cons (pv 1) pa_nil)))
      (pss_cons (ps_set (i := 3) scLaw.nd rfl (.inl rfl) (pe_lst pa_nil))
      (pss_cons (ps_for (passes_of rfl) rfl (pi_range1 rfl mr (pa_cons (pe_ix ix_list (pe_lst (pa_cs (vs := [V.int 2, .int 0, .int 1, .int 3, .int 4, .int 5, .int 6]) (by rfl))) (pe_call GN hr1 (by rfl) gN FN.kp bN .nil pass0 (pa_cons (pv 1) (pa_cons pe_int pa_nil))) (fun _ _ => rfl)) pa_nil)) (pg_name (i := 4) scLaw.nd rfl (.inl rfl))
        (pss_one (ps_expr (pe_bm PySem.F.plainAttrs_list PySem.F.slot_list_append PySem.F.type_list_append mt_append (pv 3) (pa_cons (pe_call GLk hr2 (by rfl) gLk FLk.kp bLk .nil pass0 (pa_cons (pv 1) (pa_cons (pv 2) (pa_cons (pv 4) pa_nil)))) pa_nil)))))
      (pss_cons (ps_set (i := 5) scLaw.nd rfl (.inl rfl) (pe_lst pa_nil))
      (pss_cons (ps_for (passes_of rfl) rfl (pi_range1 rfl mr (pa_cons (pe_ix ix_list (pe_lst (pa_cs (vs := [V.int 1, .int 2, .int 3, .int 0, .int 4, .int 5]) (by rfl))) (pe_call GN hr1 (by rfl) gN FN.kp bN .nil pass0 (pa_cons (pv 1) (pa_cons pe_int pa_nil))) (fun _ _ => rfl)) pa_nil)) (pg_name (i := 4) scLaw.nd rfl (.inl rfl))
        (pss_one (ps_expr (pe_bm PySem.F.plainAttrs_list PySem.F.slot_list_append PySem.F.type_list_append mt_append (pv 5) (pa_cons (pe_call GDe hr2 (by rfl) gDe FDe.kp bDe .nil pass0 (pa_cons (pv 1) (pa_cons (pv 2) (pa_cons (pv 3) (pa_cons (pv 4) pa_nil))))) pa_nil)))))
      (imp (t' := tS4 a Q)
      (pss_cons (ps_set (i := 6) scLaw.nd rfl (.inl rfl) (pe_call GJu hr2 (by rfl) gJu FJu.kp bJu .nil pass0 (pa_cons (pv 3) (pa_cons (pv 5) (pa_cons (pv 2) pa_nil)))))
      (pss_cons (ps_set (i := 7) scLaw.nd rfl (.inl rfl) (pe_callTy call_list_of (by rfl) mL (by decide +kernel) (pa_cons (pv 3) pa_nil)))
      (pss_cons (ps_set (i := 8) scLaw.nd rfl (.inl rfl) pe_non)
      (pss_cons (ps_set (i := 9) scLaw.nd rfl (.inl rfl) pe_non)
      (pss_cons (ps_try_as1 (i := 10) rfl rfl scLaw.nd rfl rfl ⟨rfl, by decide, .inl BL.g⟩ (fun W pn xe tk _ => pss_one (ps_set (i := 9) scLaw.nd rfl (.inl rfl) (pe_callS GMa hr (by rfl) gMa FMa.kp bMa (fun σ => passAt tk σ) (pa_cons (pv 7) (pa_cons (pv 5) pa_nil)))))
          (fun a oe cls d pn hz hf => pss_cons (ps_set (i := 11) scLaw.nd rfl (.inl rfl) (pe_or (pe_callB (r := rIsE3 K cls d a) (call_isE3 hz hf) (by rfl) ms (by decide +kernel) (pa_cons (pv 10) (pa_cons (pe_tup (pa_cons (pe_glob (v := .ref CN) (by rfl) gNS rfl) (pa_cons (pe_glob (v := .ref CP) (by rfl) gP rfl) pa_nil))) pa_nil)))
              (pe_one (pe_callB (id := "isinstance") (r := rIsi K) call_isi (by rfl) ms (by decide +kernel) (pa_cons (pe_xf BL.xf (BL.no "line" List.mem_cons_self) hz hf (pv 10)) (pa_cons (pe_bltn (v := .ty "bool") (by rfl) mb (by decide +kernel) rfl) pa_nil))))))
            (pss_one (ps_set (i := 8) scLaw.nd rfl (.inl rfl) (pe_tup (pa_cons (pe_xf BL.xf (BL.no "line" List.mem_cons_self) hz hf (pv 10)) (pa_cons (pe_xf BL.xf (BL.no "rule" (List.mem_cons_of_mem _ List.mem_cons_self)) hz hf (pv 10)) (pa_cons (pe_callB (r := rIsE2 K cls d a) (call_isE2 hz hf) (by rfl) ms (by decide +kernel) (pa_cons (pv 10) (pa_cons (pe_glob (v := .ref CH) (by rfl) gH rfl) pa_nil))) (pa_cons (pv 11) pa_nil)))))))))
      (imp (t' := tS5 a C Q)
      (pss_cons (ps_if (pt_cmpR op_notN (pv 6) pe_non (nomark _)) (pss_one (ps_ret (pe_cmpR (op_eqD hr.units) (pv 8) (pe_op op_catH (pv 6) (pe_tup (pa_cons pe_bl (pa_cons pe_bl pa_nil)))) (nomark _)))) pss_nil)
      (pss_cons (ps_if (pt_cmpR op_notN (pv 8) pe_non (nomark _)) (pss_one (ps_ret pe_bl)) pss_nil)
      (pss_cons (ps_expr (pe_bm PySem.F.plainAttrs_list PySem.F.slot_list_append PySem.F.type_list_append mt_append (pv 7) (pa_cons pe_str pa_nil)))
      (pss_cons (ps_if (pt_not (pt_val (pe_call GHo hr5 (by rfl) gHo FHo.kp bHo .nil passF (pa_cons (pv 9) (pa_cons (pv 3) (pa_cons (pv 5) pa_nil)))))) (pss_one (ps_ret pe_bl)) pss_nil)
      (pss_cons (ps_set (i := 12) scLaw.nd rfl (.inl rfl) (pe_call GMa hr (by rfl) gMa FMa.kp bMa .nil passF (pa_cons (pv 3) (pa_cons (pv 5) pa_nil))))
      (pss_cons (ps_set (i := 13) scLaw.nd rfl (.inl rfl) (pe_tup (pa_cons (pe_ix ix_tup (pe_ix ix_list (pv 5) (pe_un un_neg pe_int) (fun _ _ => rfl)) pe_int (fun _ _ => rfl)) (pa_cons pe_non (pa_cons (pe_ix ix_list (pv 2) pe_int (fun _ _ => rfl)) pa_nil)))))
      (pss_cons (ps_if (pt_cmpR (op_eqD hr.units) (pe_ix ix_list (pv 5) (pe_un un_neg pe_int) (fun _ _ => rfl)) (pv 13) (nomark _)) (pss_one (ps_set (i := 13) scLaw.nd rfl (.inl rfl) (pe_tup (pa_cons (pe_ix ix_tup (pe_ix ix_list (pv 5) (pe_un un_neg pe_int) (fun _ _ => rfl)) pe_int (fun _ _ => rfl)) (pa_cons pe_non (pa_cons (pe_ix ix_list (pv 2) pe_int (fun _ _ => rfl)) pa_nil)))))) pss_nil)
      (imp (t' := tS55 a C Q)
      (pss_cons (ps_if (PW.pt (pw_or (pt_not (pt_cmpR (op_eqO GE hr1 eqs eqf bE pass0) (pv 9) (pv 12) (nomark _))) (pw_or1 (pt_cmpR (op_eqO GE hr1 eqs eqf bE pass0) (pv 9) (pe_call GMa hr (by rfl) gMa FMa.kp bMa .nil passF (pa_cons (pv 3) (pa_cons (pe_op op_cat (pe_slice sl_list (pv 5) po_none (po_some (pe_un un_neg pe_int))) (pe_lst (pa_cons (pv 13) pa_nil))) pa_nil))) (nomark _))))) (pss_one (ps_ret pe_bl)) pss_nil)
      (imp (t' := tS6 a C Q)
      (pss_cons (ps_set (i := 14) scLaw.nd rfl (.inl rfl) (pe_lst pa_nil))
      (pss_cons (ps_if (pt_cmpR op_lt (pe_callB call_len_seq (by rfl) ml PySem.boot_len (pa_cons (pv 3) pa_nil)) pe_int (nomark _)) (pss_one (ps_expr (pe_bm PySem.F.plainAttrs_list PySem.F.slot_list_append PySem.F.type_list_append mt_append (pv 14) (pa_cons (pe_op op_cat (pv 3) (pe_lst (pa_cons (pe_ix ix_list (pv 2) pe_int (fun _ _ => rfl)) pa_nil))) pa_nil)))) pss_nil)
      (imp (t' := tS7 1 a C Q)
      (pss_cons (ps_if (pt_cmpR op_gt (pe_callB call_len_seq (by rfl) ml PySem.boot_len (pa_cons (pv 3) pa_nil)) pe_int (nomark _)) (pss_one (ps_expr (pe_bm PySem.F.plainAttrs_list PySem.F.slot_list_append PySem.F.type_list_append mt_append (pv 14) (pa_cons (pe_op op_cat (pe_lst (pa_cons (pe_ix ix_list (pv 3) pe_int (fun _ _ => rfl)) (pa_cons (pe_ix ix_list (pv 3) pe_int (fun _ _ => rfl)) pa_nil))) (pe_slice sl_list (pv 3) (po_some pe_int) po_none)) pa_nil)))) pss_nil)
      (imp (t' := tS7 2 a C Q)
      (pss_cons (ps_for (passes_of rfl) rfl (pi_list (pv 14)) (pg_name (i := 15) scLaw.nd rfl (.inl rfl)) (pss_one (ps_if (PW.pt (pw_or (pt_cmpR (op_eqO GE hr1 eqs eqf bE pass0) (pv 9) (pe_call GMa hr (by rfl) gMa FMa.kp bMa .nil passF (pa_cons (pv 15) (pa_cons (pv 5) pa_nil))) (nomark _))
          (pw_or1 (pt_cmpR (op_eqO GE hr1 eqs eqf bE pass0) (pe_call GMa hr (by rfl) gMa FMa.kp bMa .nil passF (pa_cons (pv 15) (pa_cons (pv 5) pa_nil))) (pv 9) (nomark _))))) (pss_one (ps_ret pe_bl)) pss_nil)))
      (imp (t' := tS8 a C Q)
      (pss_cons (ps_for (passes_of rfl) rfl (pi_list (pe_op op_cat (pv 3) (pe_lst (pa_cons (pe_ix ix_list (pv 2) pe_int (fun _ _ => rfl)) (pa_cons pe_str pa_nil))))) (pg_name (i := 16) scLaw.nd rfl (.inl rfl)) (pss_one (ps_if (PW.pt (pw_or (pt_not (pt_val (pe_call GMi hr5 (by rfl) gMi FMi.kp bMi .nil pass0 (pa_cons (pv 9) (pa_cons (pv 16) (pa_cons pe_int pa_nil))))))
          (pw_or1 (pt_not (pt_val (pe_call GMi hr5 (by rfl) gMi FMi.kp bMi .nil pass0 (pa_cons (pv 9) (pa_cons (pv 16) (pa_cons pe_int pa_nil))))))))) (pss_one (ps_ret pe_bl)) pss_nil)))
      (pss_one (ps_ret (pe_call GHo hr5 (by rfl) gHo FHo.kp bHo .nil passF (pa_cons (pv 9) (pa_cons (pv 3) (pa_cons (pv 5) pa_nil)))))))
      (fun Dn σ H2 hm => ?s8))) (fun Dn σ H2 hm => ?s7))) (fun Dn σ H2 hm => ?s65)))) (fun Dn σ H2 hm => ?s6))) (fun Dn σ H2 hm => ?s55))))))))) (fun Dn σ H2 hm => ?s5))))))) (fun Dn σ H2 hm => ?s4))))))), ?_⟩
    case s8 =>
      obtain ⟨x, pd, pp, pl, pr, y4, y6, y7, y8, y11, y12, y13, y14, y15, ns, ls, rv, rs, rfl, rt, S⟩ := hm
      obtain ⟨n27, e27, a27, k27⟩ := S.po.getN (j := 27) (by omega)
      have ll := S.ok.ll
      refine ⟨.ref pl, rfl, .ref pp, rfl, pp, _, 27, .str n27, rfl, rfl, SqL.of S.po.at_, a27, by show 2 ≤ sizeLine; decide, fun L1 n1 => ?_⟩
      have s1 : Same H2 (upd H2 L1 (.lst [V.str n27, .str "kind"])) := same_upd n1
      have eL1 : upd H2 L1 (.lst [V.str n27, .str "kind"]) L1 = some (.lst [V.str n27, .str "kind"]) := upd_same
      generalize upd H2 L1 (.lst [V.str n27, .str "kind"]) = G1 at s1 eL1
      refine ⟨pl, L1, _, _, rfl, rfl, s1 _ _ S.el, eL1, by rw [sizeLine_eq, List.length_map]; simp only [List.length_cons, List.length_nil]; omega, fun L2 n2 => ?_⟩
      have s2 : Same G1 (upd G1 L2 (.lst (ls.map V.str ++ [V.str n27, .str "kind"]))) := same_upd n2
      have eL2 : upd G1 L2 (.lst (ls.map V.str ++ [V.str n27, .str "kind"])) L2 = some (.lst (ls.map V.str ++ [V.str n27, .str "kind"])) := upd_same
      generalize upd G1 L2 (.lst (ls.map V.str ++ [V.str n27, .str "kind"])) = G2 at s2 eL2
      have s12 := s1.trans s2
      have eLm : G2 L2 = some (.lst ((ls ++ [n27, "kind"]).map V.str)) := by rw [eL2, List.map_append]; rfl
      have hk : ∀ k ∈ ls ++ [n27, "kind"], Ksh k ∧ PyData.strOk k = true ∧ findR k rs = none := fun k hm => by
        rcases List.mem_append.mp hm with hm | hm
        · obtain ⟨h1, _⟩ := S.locks k hm
          exact ⟨nm_ksh h1, nm_ok h1, findR_none fun z => (List.nodup_append.mp S.ok.kd).2.2 _ hm _ z rfl⟩
        rcases List.mem_cons.mp hm with rfl | hm
        · exact ⟨nm_ksh k27, nm_ok k27, findR_none (S.far e27 (by omega)).2⟩
        · rw [List.mem_singleton.mp hm]
          refine ⟨⟨by decide +kernel, by decide +kernel⟩, by decide +kernel, findR_none fun z => ?_⟩
          obtain ⟨h1, _⟩ := S.kinds _ z
          revert h1
          decide +kernel
      refine ⟨L2, rfl, ⟨_, SqL.of eL2⟩, for_it (walk_list (xs := (ls ++ [n27, "kind"]).map V.str)) (fun i σ H5 => ∃ y16, σ = [some (.ref a), some (.ref pd), some (.ref pp), some (.ref pl), y4, some (.ref pr), y6, y7, y8, some (.ref x), none, y11, y12, y13, y14, y15, y16] ∧ Same G2 H5) ⟨none, rfl, Same.refl _⟩ (fun _ _ _ _ ⟨_, _, sm⟩ => SqL.of (sm _ _ eLm)) ?_ ?_⟩
      · rintro i v σ H5 H6 hi ⟨y16, rfl, sm⟩ ⟨rfl, hv⟩
        have hv : ((ls ++ [n27, "kind"]).map V.str)[i]? = some v := hv
        rw [List.getElem?_map] at hv
        cases hq : (ls ++ [n27, "kind"])[i]? with
        | none =>
          rw [hq] at hv
          cases hv
        | some k =>
          rw [hq] at hv
          cases hv
          obtain ⟨h1, h2, h3⟩ := hk k (List.mem_of_getElem? hq)
          have S5 := S.same (s12.trans sm)
          refine ⟨.ref x, rfl, .str k, rfl, pd, x, k, 0, ls, rs, rfl, S5.hx, S5.pdl, S5.ok, h1, h2, h3, fun H7 s7 => ⟨_, rfl, iteF ?_⟩⟩
          have S7 := S5.same s7
          exact ⟨.ref x, rfl, .str k, rfl, pd, x, k, 1, ls, rs, rfl, S7.hx, S7.pdl, S7.ok, h1, h2, h3, fun H8 s8 => ⟨_, rfl, iteF ⟨_, rfl, (sm.trans s7).trans s8⟩⟩⟩
      · rintro σ H5 ⟨y16, rfl, sm⟩
        have S5 := S.same (s12.trans sm)
        refine ⟨.ref x, rfl, .ref pl, rfl, .ref pr, rfl, pd, x, pl, pr, ls, rs, rv, rfl, S5.hx, S5.pdl, S5.ok, S5.el, S5.er, S5.vr, fun H' s' => ?_⟩
        rw [rt]
        exact q H'
    case s7 =>
      obtain ⟨x, pd, pp, pl, pr, p14, y4, y6, y7, y8, y11, y12, y13, ns, ls, rv, rs, us, rfl, rt, ⟨H0, S0, n14, sm0⟩, e14, l14, told⟩ := hm
      have S := S0.same sm0
      refine ⟨.ref p14, rfl, p14, rfl, ⟨_, SqL.of e14⟩, for_it (walk_list (xs := us)) (fun i σ H5 => ∃ y15, σ = [some (.ref a), some (.ref pd), some (.ref pp), some (.ref pl), y4, some (.ref pr), y6, y7, y8, some (.ref x), none, y11, y12, y13, some (.ref p14), y15, none] ∧ Same H2 H5) ⟨none, rfl, Same.refl _⟩ (fun _ _ _ _ ⟨_, _, sm⟩ => SqL.of (sm _ _ e14)) ?_ ?_⟩
      · rintro i v σ H5 H6 hi ⟨y15, rfl, sm⟩ ⟨rfl, hv⟩
        obtain ⟨u, ws, rfl, _, eu, hne, okw⟩ := told v (List.mem_of_getElem? hv)
        have S5 := S.same sm
        refine ⟨.ref x, rfl, .ref u, rfl, .ref pr, rfl, mq (pd := pd) S5.pdl (sm _ _ eu) S5.er S5.vr okw S5.rp fun xo H7 s7 nxo ho => ?_⟩
        have S7 := S5.same s7
        obtain ⟨⟨dx, b1, b2, b3, b4, ex, _⟩, _⟩ := S7.hx
        have ho0 := ho
        obtain ⟨⟨dy, c1, c2, c3, c4, ey, _⟩, _⟩ := ho
        have d1 : decide (ls = ws ∧ rs = rs) = false := decide_eq_false fun z => hne z.1.symm
        have d2 : decide (ws = ls ∧ rs = rs) = false := decide_eq_false fun z => hne z.1
        refine ⟨x, xo, dx, dy, _, _, rfl, rfl, ex, ey, pd, x, xo, ls, ws, rs, rs, rfl, S7.hx, ho0, S7.ok, okw, _, rfl, _, rfl, ?_⟩
        rw [d1]
        have sm7 := sm.trans s7
        refine iteF ⟨.ref u, rfl, .ref pr, rfl, mq (pd := pd) S7.pdl (sm7 _ _ eu) S7.er S7.vr okw S7.rp fun xp H8 s8 nxp hp => ?_⟩
        have S8 := S7.same s8
        obtain ⟨⟨dx', b1', b2', b3', b4', ex', _⟩, _⟩ := S8.hx
        have hp0 := hp
        obtain ⟨⟨dy', c1', c2', c3', c4', ey', _⟩, _⟩ := hp
        refine ⟨.ref x, rfl, xp, x, dy', dx', _, _, rfl, rfl, ey', ex', pd, xp, x, ws, ls, rs, rs, rfl, hp0, S8.hx, okw, S8.ok, _, rfl, _, rfl, ?_⟩
        rw [d2]
        exact iteF ⟨_, rfl, sm7.trans s8⟩
      · rintro σ H5 ⟨y15, rfl, sm⟩
        exact ⟨x, pd, pp, pl, pr, y4, y6, y7, y8, y11, y12, y13, _, y15, ns, ls, rv, rs, rfl, rt, S.same sm⟩
    case s65 =>
      obtain ⟨x, pd, pp, pl, pr, p14, y4, y6, y7, y8, y11, y12, y13, ns, ls, rv, rs, us, rfl, rt, ⟨H0, S, n14, sm0⟩, e14, l14, told⟩ := hm
      refine ⟨.ref pl, rfl, pl, _, rfl, .inl (SqL.of (S.same sm0).el), _, _, rfl, rfl, _, rfl, ite2 (fun h1 => ?_) (fun _ => ⟨x, pd, pp, pl, pr, p14, y4, y6, y7, y8, y11, y12, y13, ns, ls, rv, rs, us, rfl, rt, ⟨H0, S, n14, sm0⟩, e14, by omega, told⟩)⟩
      have h1 := of_decide_eq_true h1
      rw [List.length_map] at h1
      obtain ⟨l0, l1, lt, rfl⟩ : ∃ l0 l1 lt, ls = l0 :: l1 :: lt := by
        match ls, h1 with
        | [], h1 =>
          simp only [List.length_nil] at h1
          omega
        | [_], h1 =>
          simp only [List.length_cons, List.length_nil] at h1
          omega
        | l0 :: l1 :: lt, _ => exact ⟨l0, l1, lt, rfl⟩
      have el : H2 pl = some (.lst ((l0 :: l1 :: lt).map V.str)) := (S.same sm0).el
      have b0 : atI ((l0 :: l1 :: lt).map V.str) 0 = some (.str l0) := at0 _ _
      have b1 : atI ((l0 :: l1 :: lt).map V.str) 1 = some (.str l1) := show atI _ ((1 : Nat) : Int) = some (V.str l1) from atI_nat rfl
      have ll := S.ok.ll
      refine ⟨.ref p14, rfl, .inl ⟨rfl, _, SqL.of e14⟩, .ref pl, rfl, pl, _, 1, .str l1, rfl, rfl, SqL.of el, b1, .ref pl, rfl, pl, _, 0, .str l0, rfl, rfl, SqL.of el, b0, by show 2 ≤ sizeLine; decide, fun L1 n1 => ?_⟩
      have s1 : Same H2 (upd H2 L1 (.lst [V.str l1, .str l0])) := same_upd n1
      have eL1 : upd H2 L1 (.lst [V.str l1, .str l0]) L1 = some (.lst [V.str l1, .str l0]) := upd_same
      generalize upd H2 L1 (.lst [V.str l1, .str l0]) = G1 at s1 eL1
      refine ⟨.ref pl, rfl, 2, rfl, pl, _, rfl, SqL.of (s1 _ _ el), fun L2 n2 => ?_⟩
      have ec : cutV ((l0 :: l1 :: lt).map V.str) (some 2) none = lt.map V.str := cut_from ((l0 :: l1 :: lt).map V.str) 2
      rw [ec]
      have s2 : Same G1 (upd G1 L2 (.lst (lt.map V.str))) := same_upd n2
      have eL2 : upd G1 L2 (.lst (lt.map V.str)) L2 = some (.lst (lt.map V.str)) := upd_same
      generalize upd G1 L2 (.lst (lt.map V.str)) = G2 at s2 eL2
      refine ⟨L1, L2, _, _, rfl, rfl, s2 _ _ eL1, eL2, by rw [sizeLine_eq, List.length_map]; simp only [List.length_cons, List.length_nil] at ll ⊢; omega, fun L3 n3 => ?_⟩
      have s3 : Same G2 (upd G2 L3 (.lst ([V.str l1, .str l0] ++ lt.map V.str))) := same_upd n3
      have eL3 : upd G2 L3 (.lst ([V.str l1, .str l0] ++ lt.map V.str)) L3 = some (.lst ((l1 :: l0 :: lt).map V.str)) := upd_same
      generalize upd G2 L3 (.lst ([V.str l1, .str l0] ++ lt.map V.str)) = G3 at s3 eL3
      have s13 := (s1.trans s2).trans s3
      refine ⟨p14, _, _, rfl, rfl, s13 _ _ e14, small1000 (by omega), ?_⟩
      have k4 : ∀ b o, H2 b = some o → b ≠ p14 → upd G3 p14 (.lst (us ++ [V.ref L3])) b = some o := fun b o e n => by
        rw [upd_ne n]
        exact s13 _ _ e
      have n3' : L3 ≠ p14 := (ne_of_none (s2 _ _ (s1 _ _ e14)) n3).symm
      refine ⟨x, pd, pp, pl, pr, p14, y4, y6, y7, y8, y11, y12, y13, ns, l0 :: l1 :: lt, rv, rs, us ++ [V.ref L3], rfl, rt, ⟨H0, S, n14, Same.put (sm0.trans s13) n14⟩, upd_same, by rw [List.length_append]; show _ + 1 ≤ 2; omega, fun u hu => ?_⟩
      rcases List.mem_append.mp hu with hu | hu
      · obtain ⟨b, ws, rfl, nb, eb, hne, okw⟩ := told u hu
        exact ⟨b, ws, rfl, nb, k4 _ _ eb nb, hne, okw⟩
      · rw [List.mem_singleton.mp hu]
        have ndl : (l0 :: l1 :: lt).Nodup := (List.nodup_append.mp S.ok.kd).1
        have h01 : l1 ≠ l0 := fun e => (List.nodup_cons.mp ndl).1 (by rw [e]; exact List.mem_cons_self)
        have pm : ∀ z, z ∈ l1 :: l0 :: lt ↔ z ∈ l0 :: l1 :: lt := fun z => (List.Perm.swap l0 l1 lt).mem_iff
        refine ⟨L3, l1 :: l0 :: lt, rfl, n3', by rw [upd_ne n3']; exact eL3, fun e => h01 (by injection e), ?_⟩
        exact ⟨fun l hl => S.ok.ln l ((pm l).mp hl), S.ok.ll, S.ok.rn, S.ok.rl, S.ok.r0, (((List.Perm.swap l0 l1 lt).append_right _).nodup_iff).mpr S.ok.kd, fun r hr x hx => (pm x).mpr (S.ok.lk r hr x hx)⟩
    case s6 =>
      obtain ⟨x, pd, pp, pl, pr, y4, y6, y7, y8, y11, y12, y13, ns, ls, rv, rs, rfl, rt, S⟩ := hm
      refine ⟨Nat.zero_le _, fun p14 n14 => ?_⟩
      have s0 : Same H2 (upd H2 p14 (.lst [])) := same_upd n14
      have e14 : upd H2 p14 (.lst []) p14 = some (.lst []) := upd_same
      generalize upd H2 p14 (.lst []) = G0 at s0 e14
      have S0 := S.same s0
      refine ⟨.ref pl, rfl, pl, _, rfl, .inl (SqL.of S0.el), _, _, rfl, rfl, _, rfl, ite2 (fun h1 => ?_) (fun _ => ⟨x, pd, pp, pl, pr, p14, y4, y6, y7, y8, y11, y12, y13, ns, ls, rv, rs, [], rfl, rt, ⟨H2, S, n14, s0⟩, e14, Nat.zero_le _, fun u hu => (by cases hu)⟩)⟩
      have h1 := of_decide_eq_true h1
      rw [List.length_map] at h1
      have h1 : ls.length < 4 := by omega
      obtain ⟨n25, e25, a25, k25⟩ := S.po.getN (j := 25) (by omega)
      obtain ⟨f1, f2⟩ := S.far e25 (by omega)
      refine ⟨.ref p14, rfl, .inl ⟨rfl, _, SqL.of e14⟩, .ref pl, rfl, .ref pp, rfl, pp, _, 25, .str n25, rfl, rfl, SqL.of S0.po.at_, a25, by show 1 ≤ sizeLine; decide, fun L1 n1 => ?_⟩
      have s1 : Same G0 (upd G0 L1 (.lst [V.str n25])) := same_upd n1
      have eL1 : upd G0 L1 (.lst [V.str n25]) L1 = some (.lst [V.str n25]) := upd_same
      generalize upd G0 L1 (.lst [V.str n25]) = G1 at s1 eL1
      refine ⟨pl, L1, _, _, rfl, rfl, s1 _ _ S0.el, eL1, by rw [sizeLine_eq, List.length_map]; simp only [List.length_cons, List.length_nil]; omega, fun L3 n3 => ?_⟩
      have s3 : Same G1 (upd G1 L3 (.lst (ls.map V.str ++ [V.str n25]))) := same_upd n3
      have eL3 : upd G1 L3 (.lst (ls.map V.str ++ [V.str n25])) L3 = some (.lst ((ls ++ [n25]).map V.str)) := by rw [upd_same, List.map_append]; rfl
      generalize upd G1 L3 (.lst (ls.map V.str ++ [V.str n25])) = G3 at s3 eL3
      have s13 := s1.trans s3
      have n3' : L3 ≠ p14 := (ne_of_none (s1 _ _ e14) n3).symm
      refine ⟨p14, _, _, rfl, rfl, s13 _ _ e14, small1000 (Nat.zero_le _), ?_⟩
      refine ⟨x, pd, pp, pl, pr, p14, y4, y6, y7, y8, y11, y12, y13, ns, ls, rv, rs, [V.ref L3], rfl, rt, ⟨H2, S, n14, Same.put (s0.trans s13) n14⟩, upd_same, Nat.le_refl _, fun u hu => ?_⟩
      rw [List.mem_singleton.mp hu]
      refine ⟨L3, ls ++ [n25], rfl, n3', by rw [upd_ne n3']; exact eL3, fun e => ?_, ?_⟩
      · have := congrArg List.length e
        rw [List.length_append] at this
        simp only [List.length_cons, List.length_nil] at this
        omega
      · refine ⟨fun l hl => ?_, by rw [List.length_append]; show _ + 1 ≤ 4; omega, S.ok.rn, S.ok.rl, S.ok.r0, ?_, fun r hr x hx => List.mem_append.mpr (.inl (S.ok.lk r hr x hx))⟩
        · rcases List.mem_append.mp hl with hl | hl
          · exact S.ok.ln l hl
          · rw [List.mem_singleton.mp hl]
            exact k25
        · obtain ⟨g1, g2, g3⟩ := List.nodup_append.mp S.ok.kd
          refine List.nodup_append.mpr ⟨List.nodup_append.mpr ⟨g1, by simp, fun b hb c hc e => ?_⟩, g2, fun b hb c hc e => ?_⟩
          · rw [List.mem_singleton.mp hc] at e
            exact f1 (e ▸ hb)
          · rcases List.mem_append.mp hb with hb | hb
            · exact g3 b hb c hc e
            · rw [List.mem_singleton.mp hb] at e
              exact f2 (e ▸ hc)
    case s55 =>
      obtain ⟨x, pd, pp, pl, pr, xo, p13, y4, y6, y7, y8, y11, ns, ls, rv, rs, ini, qq, ch, rfl, rt, S, ho, v13, rfl, hne, okc, rpc⟩ := hm
      have hx0 := S.hx
      have ho0 := ho
      obtain ⟨⟨dx, b1, b2, b3, b4, ex, _⟩, _⟩ := hx0
      obtain ⟨⟨dy, c1, c2, c3, c4, ey, _⟩, _⟩ := ho0
      have d1 : decide (ls = ls ∧ ini ++ [qq] = ini ++ [qq]) = true := decide_eq_true ⟨rfl, rfl⟩
      have d2 : decide (ls = ls ∧ ini ++ [qq] = ini ++ [ch]) = false := decide_eq_false fun z => hne (by
        have := List.append_cancel_left z.2
        injection this with this
        exact this.symm)
      refine ⟨.ref x, rfl, .ref xo, rfl, x, xo, dx, dy, _, _, rfl, rfl, ex, ey, pd, x, xo, ls, ls, _, _, rfl, S.hx, ho, S.ok, S.ok, _, rfl, _, rfl, ?_⟩
      rw [d1]
      have vr0 := S.vr
      rw [List.map_append] at vr0
      obtain ⟨xs, ys, erv, vi, vq⟩ := VrA.split vr0
      subst erv
      have ly : ys.length = 1 := by rw [vq.len]; rfl
      have lx : xs.length = ini.length := by rw [vi.len, List.length_map]
      have l3 := S.ok.rl
      rw [List.length_append] at l3
      have ec : cutV (xs ++ ys) none (some (-1)) = xs := cut_butn xs ys 1 ly (by decide)
      refine iteF ⟨.ref x, rfl, .ref pl, rfl, .ref pr, rfl, 1, rfl, -1, rfl, pr, _, rfl, SqL.of S.er, fun L1 n1 => ?_⟩
      rw [ec]
      have s1 : Same H2 (upd H2 L1 (.lst xs)) := same_upd n1
      have eL1 : upd H2 L1 (.lst xs) L1 = some (.lst xs) := upd_same
      generalize upd H2 L1 (.lst xs) = G1 at s1 eL1
      refine ⟨.ref p13, rfl, by show 1 ≤ sizeLine; decide, fun L2 n2 => ?_⟩
      have s2 : Same G1 (upd G1 L2 (.lst [V.ref p13])) := same_upd n2
      have eL2 : upd G1 L2 (.lst [V.ref p13]) L2 = some (.lst [V.ref p13]) := upd_same
      generalize upd G1 L2 (.lst [V.ref p13]) = G2 at s2 eL2
      refine ⟨L1, L2, _, _, rfl, rfl, s2 _ _ eL1, eL2, by rw [sizeLine_eq]; simp only [List.length_cons, List.length_nil] at l3 ⊢; omega, fun L3 n3 => ?_⟩
      have s3 : Same G2 (upd G2 L3 (.lst (xs ++ [V.ref p13]))) := same_upd n3
      have eL3 : upd G2 L3 (.lst (xs ++ [V.ref p13])) L3 = some (.lst (xs ++ [V.ref p13])) := upd_same
      generalize upd G2 L3 (.lst (xs ++ [V.ref p13])) = G3 at s3 eL3
      have s13 := (s1.trans s2).trans s3
      have S3 := S.same s13
      have vn : VrA pd G3 (xs ++ [V.ref p13]) ((ini ++ [ch]).map rowD) := by
        rw [List.map_append]
        exact VrA.app (vi.same s13) (.cons (v13.same s13) .nil)
      refine mq (pd := pd) S3.pdl S3.el eL3 vn okc rpc fun xq H7 s7 nxq hq => ?_
      have S7 := S3.same s7
      have hq0 := hq
      obtain ⟨⟨dx', b1', b2', b3', b4', ex', _⟩, _⟩ := S7.hx
      obtain ⟨⟨dq, e1', e2', e3', e4', eq', _⟩, _⟩ := hq
      refine ⟨x, xq, dx', dq, _, _, rfl, rfl, ex', eq', pd, x, xq, ls, ls, _, _, rfl, S7.hx, hq0, S7.ok, okc, _, rfl, _, rfl, ?_⟩
      rw [d2]
      exact iteF ⟨x, pd, pp, pl, pr, y4, y6, y7, y8, y11, _, _, ns, ls, _, _, rfl, rt, S7⟩
    case s5 =>
      obtain ⟨pd, pp, pl, pr, p7, y4, y8, y9, y11, y6, rfl, rt, hAB⟩ := hm
      rcases hAB with ⟨pu, pf, n, r, rfl, rfl, epu, epf, sh⟩ | ⟨x, ns, ls, lv, rv, rs, rfl, rfl, rfl, S4_, ok, rp, hx, e7, n7d, n7p, n7l, n7r⟩
      · refine ⟨.ref pu, rfl, rfl, _, rfl, iteT ⟨.ref pf, rfl, .ref pu, rfl, by show 2 ≤ sizeLine; decide, fun T nT => ?_⟩⟩
        have s1 : Same H2 (upd H2 T (.tup [V.bl true, .bl false])) := same_upd nT
        refine ⟨pu, T, _, _, rfl, rfl, s1 _ _ epu, upd_same, by show 4 ≤ sizeLine; decide, fun p3 G4 s4 hp3 ho3 => ?_⟩
        refine ⟨_, _, .tup (SqT.of (s4 _ _ (s1 _ _ epf))) (.cons (.int _) (.cons (.str _) (.cons (.bl _) (.cons (.bl _) .nil)))), .tup (SqT.of hp3) (.cons (.int _) (.cons (.str _) (.cons (.bl _) (.cons (.bl _) .nil)))), sh, sh, ?_⟩
        rw [eq_found, rt]
        exact q _
      · refine ⟨.non, rfl, rfl, _, rfl, iteF ⟨.non, rfl, rfl, _, rfl, iteF ?_⟩⟩
        have ll := ok.ll
        refine ⟨.ref p7, rfl, .inl ⟨rfl, _, SqL.of e7⟩, p7, _, _, rfl, rfl, e7, small1000 (by rw [List.length_map]; omega), ?_⟩
        have k3 : ∀ b o, H2 b = some o → b ≠ p7 → upd H2 p7 (.lst (ls.map V.str ++ [V.str "zz"])) b = some o := fun b o e ne => by
          rw [upd_ne ne]
          exact e
        generalize upd H2 p7 (.lst (ls.map V.str ++ [V.str "zz"])) = G at k3
        have kl : ∀ b o, H2 b = some o → (∀ xs, o ≠ .lst xs) → G b = some o := fun b o e ne => k3 b o e fun z => by
          rw [z, e7] at e
          injection e with e
          exact ne _ e.symm
        have S : S6 a C x pd pp pl pr G ns ls rv rs := ⟨let ⟨o, h⟩ := S4_.pdl; ⟨o, k3 _ _ h n7d.symm⟩, ⟨k3 _ _ S4_.po.at_ n7p.symm, S4_.po.ne, S4_.po.po⟩, by
            have z := k3 _ _ S4_.el n7l.symm
            rw [S4_.vl.strs_inv] at z
            exact z, k3 _ _ S4_.er n7r.symm, VrA.upN (fun b xs e => kl _ _ e fun ys z => by cases z) _ (noL_rows rs) S4_.vr, ok, hx.upN kl, S4_.kl, S4_.kr, rp⟩
        refine ⟨.ref x, rfl, .ref pl, rfl, .ref pr, rfl, pd, x, pl, pr, ls, rs, rv, rfl, S.hx, S.pdl, S.ok, S.el, S.er, S.vr, fun G1 s1 => ⟨_, rfl, iteF ?_⟩⟩
        have S1 := S.same s1
        refine ⟨.ref pl, rfl, .ref pr, rfl, mq (pd := pd) S1.pdl S1.el S1.er S1.vr S1.ok S1.rp fun xo G2 s2 nxo ho => ?_⟩
        have S2 := S1.same s2
        obtain ⟨ini, qq, rfl⟩ : ∃ ini qq, rs = ini ++ [qq] := ⟨rs.dropLast, rs.getLast ok.r0, (List.dropLast_concat_getLast ok.r0).symm⟩
        have vr2 := S2.vr
        rw [List.map_append] at vr2
        obtain ⟨xs, ys, erv, vi, vq⟩ := VrA.split vr2
        subst erv
        cases vq with
        | @cons uq _ _ _ wq wn =>
        cases wn
        have wq0 := wq
        cases wq with
        | @tu pq us _ g1 g2 g3 =>
        cases g3 with
        | @cons u0 ut _ _ va vt =>
        have ev : u0 = .str qq.k := by cases va; rfl
        subst ev
        have al : atI (xs ++ [V.ref pq]) (-1) = some (.ref pq) := atI_last _ _
        have rk := ok.rn qq (by simp)
        obtain ⟨n26, e26, a26, k26⟩ := S2.po.getN (j := 26) (by omega)
        obtain ⟨n25, e25, a25, k25⟩ := S2.po.getN (j := 25) (by omega)
        have n2625 : n26 ≠ n25 := nd_ne S2.po.po.nd e26 e25 (by decide)
        obtain ⟨r26, h26, p26⟩ := chg ok rp k26
        obtain ⟨r25, h25, p25⟩ := chg ok rp k25
        refine ⟨.ref pr, rfl, 1, rfl, pr, _, -1, .ref pq, rfl, rfl, SqL.of S2.er, al, pq, _, 0, .str qq.k, rfl, rfl, SqT.of g1, at0 _ _, .ref pp, rfl, pp, _, 26, .str n26, rfl, rfl, SqL.of S2.po.at_, a26, by show 3 ≤ sizeLine; decide, fun T nT => ?_⟩
        have s3 : Same G2 (upd G2 T (.tup [V.str qq.k, .non, .str n26])) := same_upd nT
        have eT : upd G2 T (.tup [V.str qq.k, .non, .str n26]) T = some (.tup [V.str qq.k, .non, .str n26]) := upd_same
        have mT : T ≠ pd := not_pd S2.pdl nT
        generalize upd G2 T (.tup [V.str qq.k, .non, .str n26]) = G3 at s3 eT
        have S3 := S2.same s3
        have vT : Vr pd G3 (.ref T) (rowD ⟨qq.k, none, [n26]⟩) := .tu eT mT (.cons (.txt _) (.cons .no (.cons (.txt _) .nil)))
        refine ⟨.ref pr, rfl, 1, rfl, pr, _, -1, .ref pq, rfl, rfl, SqL.of S3.er, al, .ref T, rfl, _, _, (wq0.same s3).dp K, vT.dp K, ?_, ?_, _, rfl, ?_⟩
        · obtain ⟨z1, z2⟩ := row_lay rk
          unfold SeqAt.shaped
          rw [z1]
          exact decide_eq_true (by omega)
        · obtain ⟨z1, z2⟩ := row_lay r26
          unfold SeqAt.shaped
          rw [z1]
          exact decide_eq_true (by omega)
        rw [eqv_row]
        refine ite2 (fun h1 => ?_) (fun h1 => ?_)
        · have h1 := of_decide_eq_true h1
          refine ⟨.ref pr, rfl, 1, rfl, pr, _, -1, .ref pq, rfl, rfl, SqL.of S3.er, al, pq, _, 0, .str qq.k, rfl, rfl, SqT.of (s3 _ _ g1), at0 _ _, .ref pp, rfl, pp, _, 25, .str n25, rfl, rfl, SqL.of S3.po.at_, a25, by show 3 ≤ sizeLine; decide, fun T2 nT2 => ?_⟩
          have s4 : Same G3 (upd G3 T2 (.tup [V.str qq.k, .non, .str n25])) := same_upd nT2
          have mT2 : T2 ≠ pd := not_pd S3.pdl nT2
          exact ⟨x, pd, pp, pl, pr, xo, T2, y4, _, _, _, y11, ns, ls, _, _, ini, qq, ⟨qq.k, none, [n25]⟩, rfl, rt, S3.same s4, ho.same (s3.trans s4), .tu upd_same mT2 (.cons (.txt _) (.cons .no (.cons (.txt _) .nil))), rfl, fun e => n2625 (by
            rw [← e] at h1
            injection h1 with _ _ h3
            injection h3 with h3
            exact h3.symm), h25, p25⟩
        · have h1 : ¬ qq = ⟨qq.k, none, [n26]⟩ := fun e => h1 (decide_eq_true e)
          exact ⟨x, pd, pp, pl, pr, xo, T, y4, _, _, _, y11, ns, ls, _, _, ini, qq, ⟨qq.k, none, [n26]⟩, rfl, rt, S3, ho.same s3, vT, rfl, fun e => h1 e.symm, h26, p26⟩
    case s4 =>
      obtain ⟨pd, pp, pl, pr, y4, ns, lv, rv, ld, rd, rfl, S, rt⟩ := hm
      have l6 := S.ll
      have l5 := S.lr
      have liS : ∀ d ∈ ld, LiS d := fun d hd => ((S.kl d hd).elt S.po.po).li
      have liT : ∀ d ∈ rd, LiT d := fun d hd ds e => by
        obtain ⟨h1, h2⟩ := (S.kr d hd).el ds e
        exact ⟨by omega, fun e he => (h2 e he).li⟩
      have lv6 := S.vl.len
      refine ⟨.ref pl, rfl, .ref pr, rfl, .ref pp, rfl, (pd, pp), pl, pr, lv, rv, ld, rd, ns, rfl, S.el, S.vl, S.er, S.vr, S.kl, S.kr, S.po, by omega, by omega, fun hn G s1 => ?_, fun n r hf pu G s1 npu epu => ?_⟩
      · refine ⟨.ref pl, rfl, pl, lv, rfl, .inl (SqL.of (s1 _ _ S.el)), fun p7 n7 => ?_⟩
        have s2 : Same G (upd G p7 (.lst lv)) := same_upd n7
        have e7 : upd G p7 (.lst lv) p7 = some (.lst lv) := upd_same
        generalize upd G p7 (.lst lv) = G2 at s2 e7
        have s12 := s1.trans s2
        refine ⟨.ref p7, rfl, .ref pr, rfl, pd, p7, pr, lv, rv, ld, rd, rfl, let ⟨o, h⟩ := S.pdl; ⟨o, s12 _ _ h⟩, e7, S.vl.same s12, s12 _ _ S.er, S.vr.same s12, liS, liT, by omega, l5, fun _ x G4 ws qs s4 nx e1 e2 ok hh => ?_, fun n r hf => ?_⟩
        · have s14 := s12.trans s4
          subst e1
          subst e2
          have e7' := s4 _ _ e7
          rw [S.vl.strs_inv] at e7'
          refine ⟨pd, pp, pl, pr, p7, y4, _, _, _, _, rfl, rt, .inr ⟨x, ns, ws, lv, rv, qs, rfl, rfl, rfl, ⟨let ⟨o, h⟩ := S.pdl; ⟨o, s14 _ _ h⟩, ⟨s14 _ _ S.po.at_, S.po.ne, S.po.po⟩, s14 _ _ S.el, S.vl.same s14, S.nl, S.kl, S.ll, s14 _ _ S.er, S.vr.same s14, S.kr, S.lr⟩, ok, hall_rep hn, hh, e7', not_pd (let ⟨o, h⟩ := S.pdl; ⟨o, s1 _ _ h⟩) n7, (ne_of_none (s1 _ _ S.po.at_) n7).symm, (ne_of_none (s1 _ _ S.el) n7).symm, (ne_of_none (s1 _ _ S.er) n7).symm⟩⟩
        · rw [hn] at hf
          cases hf
      · refine ⟨.ref pl, rfl, pl, lv, rfl, .inl (SqL.of (s1 _ _ S.el)), fun p7 n7 => ?_⟩
        have s2 : Same G (upd G p7 (.lst lv)) := same_upd n7
        have e7 : upd G p7 (.lst lv) p7 = some (.lst lv) := upd_same
        generalize upd G p7 (.lst lv) = G2 at s2 e7
        have s12 := s1.trans s2
        refine ⟨.ref p7, rfl, .ref pr, rfl, pd, p7, pr, lv, rv, ld, rd, rfl, let ⟨o, h⟩ := S.pdl; ⟨o, s12 _ _ h⟩, e7, S.vl.same s12, s12 _ _ S.er, S.vr.same s12, liS, liT, by omega, l5, fun hn => ?_, fun n' r' hf' d G4 s4 nd ed => ?_⟩
        · rw [hf] at hn
          cases hn
        rw [hf] at hf'
        cases hf'
        obtain ⟨hr9, hn9⟩ := hall_some hf
        have so := rule_ok r hr9
        refine ⟨exm, fun ae na => ?_⟩
        refine ⟨.ref ae, rfl, by show 2 ≤ sizeLine; decide, fun T nT => ?_⟩
        have s5 : Same G4 (upd G4 T (.tup [V.ref CN, V.ref CP])) := same_upd nT
        have eT : upd G4 T (.tup [V.ref CN, V.ref CP]) T = some (.tup [V.ref CN, V.ref CP]) := upd_same
        generalize upd G4 T (.tup [V.ref CN, V.ref CP]) = G5 at s5 eT
        have ed5 := s5 _ _ ed
        refine ⟨CL, d, T, _, [CN, CP], false, rfl, rfl, ed5, BL.ec, rfl, SqT.of eT, kA, _, rfl, iteF ?_⟩
        refine ⟨.ref ae, rfl, rfl, rfl, d, _, .int n, rfl, ed5, fld_line _ _, .int n, .ty "bool", .type "int", .type "bool", false, rfl, .ty _, .base (.int _), kit_ty (a := "int") (b := "bool") (r := false) (by decide +kernel), ?_⟩
        refine ⟨.ref ae, rfl, rfl, rfl, d, _, .int n, rfl, ed5, fld_line _ _, .ref ae, rfl, rfl, rfl, d, _, .str r, rfl, ed5, fld_rule _ _, .ref ae, rfl, CL, d, _, rfl, rfl, ed5, BL.ec, .ref CH, .ref CH, true, rfl, fun u ru => ru, kH, .bl false, rfl, by show 4 ≤ sizeLine; decide, fun pf npf => ?_⟩
        have s6 : Same G5 (upd G5 pf (.tup [V.int n, .str r, .bl true, .bl false])) := same_upd npf
        refine ⟨pd, pp, pl, pr, p7, y4, _, _, _, _, rfl, rt, .inl ⟨pu, pf, n, r, rfl, rfl, s6 _ _ (s5 _ _ (s4 _ _ (s2 _ _ epu))), upd_same, sh_found so (by omega)⟩⟩
    refine ⟨.ref a, rfl, a, ns, rfl, hS, fun H1 pd zs s1 n1 e1 _ => ?_⟩
    have dr1 : Dr H1 H1 pd := Dr.refl e1
    refine ⟨.ref pd, rfl, pd, rfl, dr1, fun H2 pp ms dr2 npp epp po => ?_⟩
    refine ⟨Nat.zero_le _, fun pl nl => ?_⟩
    have npl := dr2.ne nl
    have npp2 : pp ≠ pl := ne_of_none epp nl
    have dr3 := dr2.at_ (o := .lst []) npl
    have po3 : Pl pd pp (upd H2 pl (.lst [])) ms := ⟨by rw [upd_ne npp2]; exact epp, npp, po⟩
    have el3 : upd H2 pl (.lst []) pl = some (.lst []) := upd_same
    generalize upd H2 pl (.lst []) = H3 at dr3 po3 el3
    refine ⟨by show 7 ≤ sizeLine; decide, fun L nL => ?_⟩
    have mL := dr3.ne nL
    have dr4 := dr3.new (o := .lst [V.int 2, .int 0, .int 1, .int 3, .int 4, .int 5, .int 6]) nL
    have el4 := (same_upd (o := .lst [V.int 2, .int 0, .int 1, .int 3, .int 4, .int 5, .int 6]) nL) _ _ el3
    have eL : upd H3 L (.lst [V.int 2, .int 0, .int 1, .int 3, .int 4, .int 5, .int 6]) L = some (.lst [V.int 2, .int 0, .int 1, .int 3, .int 4, .int 5, .int 6]) := upd_same
    generalize upd H3 L (.lst [V.int 2, .int 0, .int 1, .int 3, .int 4, .int 5, .int 6]) = H4 at dr4 el4 eL
    obtain ⟨zs4, hzs4⟩ := dr4.dr
    refine ⟨.ref pd, rfl, pd, zs4, 7, rfl, hzs4, by decide, fun r ys r0 r1 _ => ?_⟩
    have dr5 := dr4.draw ys
    have eL5 : upd H4 pd (.lst (ys.map V.int)) L = some (.lst [V.int 2, .int 0, .int 1, .int 3, .int 4, .int 5, .int 6]) := by rw [upd_ne mL]; exact eL
    have el5 : upd H4 pd (.lst (ys.map V.int)) pl = some (.lst []) := by rw [upd_ne npl]; exact el4
    generalize upd H4 pd (.lst (ys.map V.int)) = H5 at dr5 eL5 el5
    obtain ⟨v, hv, hmem⟩ := at_in (xs := [V.int 2, .int 0, .int 1, .int 3, .int 4, .int 5, .int 6]) (n := 7) r0 r1 (Nat.le_refl _)
    obtain ⟨m, hm6, rfl⟩ : ∃ m : Nat, m ≤ 6 ∧ v = .int (m : Int) := by
      simp only [List.mem_cons, List.not_mem_nil, or_false] at hmem
      rcases hmem with rfl | rfl | rfl | rfl | rfl | rfl | rfl
      · exact ⟨2, by decide, rfl⟩
      · exact ⟨0, by decide, rfl⟩
      · exact ⟨1, by decide, rfl⟩
      · exact ⟨3, by decide, rfl⟩
      · exact ⟨4, by decide, rfl⟩
      · exact ⟨5, by decide, rfl⟩
      · exact ⟨6, by decide, rfl⟩
    refine ⟨L, _, r, _, rfl, rfl, SqL.of eL5, hv, (m : Int), rfl, by omega, by omega, for_range (n := m) (fun i σ H => ∃ (y4 : Option V) (lv : List V) (ld : List D), σ = [some (.ref a), some (.ref pd), some (.ref pp), some (.ref pl), y4, none, none, none, none, none, none, none, none, none, none, none, none] ∧ Dr H H pd ∧ Pl pd pp H ms ∧ H pl = some (.lst lv) ∧ VrA pd H lv ld ∧ noLA ld = true ∧ (∀ d ∈ ld, LkD ms d) ∧ ld.length = i)
      ⟨none, [], [], rfl, dr5.self, po3.up dr5, el5, .nil, rfl, fun d hd => (by cases hd), rfl⟩ ?_ ?_⟩
    · rintro i σ G hi ⟨y4, lv, ld, rfl, dr, pl_, el, vl, nl_, kl, hl⟩
      have lv6 := vl.len
      refine ⟨.ref pl, rfl, .inl ⟨rfl, _, SqL.of el⟩, .ref pd, rfl, .ref pp, rfl, _, rfl, (pd, pp), ms, i, (by rw [Int.zero_add]; rfl), dr, pl_, by omega, fun G6 v d dr6 vd kd => ?_⟩
      have el6 := dr6.but _ _ el npl
      refine ⟨pl, _, _, rfl, rfl, el6, small1000 (by omega), ?_⟩
      have nod : noL d = true := (kd.elt po).nl
      have kt : ∀ b xs, G6 b = some (.tup xs) → upd G6 pl (.lst (lv ++ [v])) b = some (.tup xs) := fun b xs e => by
        rw [upd_ne (ne_of e el6 (by intro z; cases z))]
        exact e
      have kt2 : ∀ b xs, G b = some (.tup xs) → upd G6 pl (.lst (lv ++ [v])) b = some (.tup xs) := fun b xs e => kt b xs (dr6.but _ _ e fun z => by
        obtain ⟨ys, hy⟩ := dr.dr
        rw [z, hy] at e
        cases e)
      refine ⟨_, lv ++ [v], ld ++ [d], rfl, dr6.at_ npl, ⟨by rw [upd_ne npp2]; exact (pl_.up dr6).at_, npp, po⟩, upd_same, VrA.app (VrA.upN kt2 _ nl_ vl) (.cons (Vr.upN kt _ nod vd) .nil), noLA_all fun e he => ?_, fun e he => ?_, by rw [List.length_append, hl]; rfl⟩
      · rcases List.mem_append.mp he with he | he
        · exact ((kl e he).elt po).nl
        · rw [List.mem_singleton.mp he]
          exact nod
      · rcases List.mem_append.mp he with he | he
        · exact kl e he
        · rw [List.mem_singleton.mp he]
          exact kd
    rintro σ G ⟨y4, lv, ld, rfl, dr6, pl6, el6, vl6, nl6, kl6, hl6⟩
    refine ⟨Nat.zero_le _, fun pr nr => ?_⟩
    have npr := dr6.ne nr
    have npp3 : pp ≠ pr := ne_of_none pl6.at_ nr
    have nlr : pl ≠ pr := ne_of_none el6 nr
    have s7 : Same G (upd G pr (.lst [])) := same_upd nr
    have dr7 := dr6.at_ (o := .lst []) npr
    have er7 : upd G pr (.lst []) pr = some (.lst []) := upd_same
    generalize upd G pr (.lst []) = G7 at s7 dr7 er7
    refine ⟨by show 6 ≤ sizeLine; decide, fun L nL => ?_⟩
    have mL := dr7.ne nL
    have s8 : Same G7 (upd G7 L (.lst [V.int 1, .int 2, .int 3, .int 0, .int 4, .int 5])) := same_upd nL
    have dr8 := dr7.at_ (o := .lst [V.int 1, .int 2, .int 3, .int 0, .int 4, .int 5]) mL
    have eL : upd G7 L (.lst [V.int 1, .int 2, .int 3, .int 0, .int 4, .int 5]) L = some (.lst [V.int 1, .int 2, .int 3, .int 0, .int 4, .int 5]) := upd_same
    generalize upd G7 L (.lst [V.int 1, .int 2, .int 3, .int 0, .int 4, .int 5]) = G8 at s8 dr8 eL
    have s78 := s7.trans s8
    obtain ⟨zs8, hzs8⟩ := dr8.dr
    refine ⟨.ref pd, rfl, pd, zs8, 6, rfl, hzs8, by decide, fun r ys r0 r1 _ => ?_⟩
    have dr9 := dr8.draw ys
    have eL9 := dr9.but _ _ eL mL
    generalize upd G8 pd (.lst (ys.map V.int)) = G9 at dr9 eL9
    have k9 : ∀ b o, G b = some o → b ≠ pd → G9 b = some o := fun b o e n => dr9.but _ _ (s78 _ _ e) n
    obtain ⟨v, hv, hmem⟩ := at_in (xs := [V.int 1, .int 2, .int 3, .int 0, .int 4, .int 5]) (n := 6) r0 r1 (Nat.le_refl _)
    obtain ⟨m, hm5, rfl⟩ : ∃ m : Nat, m ≤ 5 ∧ v = .int (m : Int) := by
      simp only [List.mem_cons, List.not_mem_nil, or_false] at hmem
      rcases hmem with rfl | rfl | rfl | rfl | rfl | rfl
      · exact ⟨1, by decide, rfl⟩
      · exact ⟨2, by decide, rfl⟩
      · exact ⟨3, by decide, rfl⟩
      · exact ⟨0, by decide, rfl⟩
      · exact ⟨4, by decide, rfl⟩
      · exact ⟨5, by decide, rfl⟩
    refine ⟨L, _, r, _, rfl, rfl, SqL.of eL9, hv, (m : Int), rfl, by omega, by omega, for_range (n := m) (fun i σ H => ∃ (y4 : Option V) (rv : List V) (rd : List D), σ = [some (.ref a), some (.ref pd), some (.ref pp), some (.ref pl), y4, some (.ref pr), none, none, none, none, none, none, none, none, none, none, none] ∧ Dr H H pd ∧ Pl pd pp H ms ∧ H pl = some (.lst lv) ∧ VrA pd H lv ld ∧ H pr = some (.lst rv) ∧ RVA pd pr H rv rd ∧ (∀ d ∈ rd, RwD ms d) ∧ rd.length = i)
      ⟨y4, [], [], rfl, dr9.self, ⟨k9 _ _ pl6.at_ npp, npp, po⟩, k9 _ _ el6 npl, vl6.up k9, dr9.but _ _ (s8 _ _ er7) npr, .nil, fun d hd => (by cases hd), rfl⟩ ?_ ?_⟩
    · rintro i σ G hi ⟨y4, rv, rd, rfl, dr, pl_, el, vl, er, vr, kr, hl⟩
      have rv5 := vr.vr.len
      refine ⟨.ref pr, rfl, .inl ⟨rfl, _, SqL.of er⟩, .ref pd, rfl, .ref pp, rfl, .ref pl, rfl, _, rfl, (pd, pp, pl), ms, lv, ld, i, (by rw [Int.zero_add]; rfl), dr, pl_, el, npl, vl, kl6, by omega, fun G6 v d dr6 vd kd fr => ?_⟩
      have er6 := dr6.but _ _ er npr
      refine ⟨pr, _, _, rfl, rfl, er6, small1000 (by omega), ?_⟩
      have pdl : ∃ xs, G pd = some (.lst xs) := let ⟨ys, hy⟩ := dr.dr; ⟨_, hy⟩
      have pdl6 : ∃ xs, G6 pd = some (.lst xs) := let ⟨ys, hy⟩ := dr6.dr; ⟨_, hy⟩
      have rv6 : RV pd pr G6 v d := by
        rcases fr with fr | ⟨b, ds, rfl, nb, rfl, nl⟩
        · exact .flat vd fr
        · cases vd with
          | li g1 g2 g3 => exact .lst g2 (ne_of_none er nb).symm g1 g3 nl
      have k7 : ∀ b o, G6 b = some o → b ≠ pr → upd G6 pr (.lst (rv ++ [v])) b = some o := fun b o e n => by
        rw [upd_ne n]
        exact e
      have kt2 : ∀ b xs, G b = some (.tup xs) → upd G6 pr (.lst (rv ++ [v])) b = some (.tup xs) := fun b xs e => k7 b _ (dr6.but _ _ e fun z => by
        obtain ⟨ys, hy⟩ := dr.dr
        rw [z, hy] at e
        cases e) (ne_of e er (by intro z; cases z))
      refine ⟨_, rv ++ [v], rd ++ [d], rfl, dr6.at_ npr, ⟨k7 _ _ (pl_.up dr6).at_ npp3, npp, po⟩, k7 _ _ (dr6.but _ _ el npl) nlr, VrA.upN kt2 _ nl6 vl, upd_same, (vr.up ⟨_, er⟩ pdl fun b o e n1 n2 => k7 _ _ (dr6.but _ _ e n1) n2).snoc (rv6.up ⟨_, er6⟩ pdl6 fun b o e _ n2 => k7 _ _ e n2), fun e he => ?_, by rw [List.length_append, hl]; rfl⟩
      rcases List.mem_append.mp he with he | he
      · exact kr e he
      · rw [List.mem_singleton.mp he]
        exact kd
    rintro σ G10 ⟨y4', rv, rd, rfl, dr, pl_, el, vl, er, vr, kr, hl⟩
    exact ⟨pd, pp, pl, pr, _, ms, lv, rv, ld, rd, rfl, ⟨let ⟨ys, hy⟩ := dr.dr; ⟨_, hy⟩, pl_, el, vl, nl6, kl6, by omega, er, vr.vr, kr, by omega⟩, rfl⟩
end
end K01
set_option maxHeartbeats 0
namespace K01
open PySem PySem.Spec PyProof.Rows L2 NdefX
/-- the __init__ of the i-th statement of the top, a class -/
def ini (i : Nat) : Stmt := match top i with
  | .ClassDef (body := b) .. => b.headD (.Pass ⟨0, 0, 0, 0⟩)
  | s => s
section
variable {P : Program} {w : World} {K : PySem.W.Frag} {mg : Str → Option Value} {base : Heap} {C fI cc cda : Addr}
theorem units3 {A : Around} {env : Env} (h : A.units + 200 < cLine) : (A.deeper env).units < cLine := by
  show A.units + 3 < cLine
  omega
theorem units5 {A : Around} {env : Env} (h : A.units + 200 < cLine) : (A.deeper env).units + 2 < cLine := by
  show A.units + 3 + 2 < cLine
  omega
theorem i_BadLine (T : SupC P K mg C fI cc cda "BadLine.__init__" (defArgs (ini 3)) (defBody (ini 3)) (defScope (ini 3))) (hno : ∀ f ∈ (["line", "rule"] : List Str), PySem.W.findIn K (.ref C) f = some none) :
    ∃ fd, FnOk P w K mg base CX0 1 fI fd (("self" : Str) :: ["line", "rule"]) (spInit C ["line", "rule"]) ∧ Binds K fd (("self" : Str) :: ["line", "rule"]) [] :=
  init2 T (nscope_by (by decide +kernel)) (ar := ((defArgs (ini 3)).args.headD ⟨"", none, ⟨0, 0, 0, 0⟩⟩)) (by rfl) (by rfl) (by rfl) (fun _ _ _ _ _ _ us hl => match us, hl with | [_, _, _], _ => rfl) (fun _ => rfl) (fun _ => rfl) (fun A outer s H E hu => ⟨_, pe_joined (.cons pe_str (.cons (pe_fmtRA (units3 hu) (pv 1)) (.cons pe_str (.cons (pe_fmtRA (units3 hu) (pv 2)) .nil)))), fun σ H' R hv q => by
    obtain ⟨v1, e1, h1⟩ := hv 1 (by decide) (by decide)
    obtain ⟨v2, e2, h2⟩ := hv 2 (by decide) (by decide)
    exact msg_ok (R := fun out H1 => R (.str out) H1) (fun x => q x) _ Str.empty (List.forall_mem_cons.mpr ⟨good_str (by decide +kernel), List.forall_mem_cons.mpr ⟨good_fmt e1 h1, List.forall_mem_cons.mpr ⟨good_str (by decide +kernel), List.forall_mem_cons.mpr ⟨good_fmt e2 h2, List.forall_mem_nil _⟩⟩⟩⟩) (by show 0 + 100000 * 4 ≤ sizeLine; rw [sizeLine_eq]; decide)⟩) (by decide +kernel) (by decide +kernel) (hno _ (by decide +kernel)) (by decide +kernel) (by decide +kernel) (hno _ (by decide +kernel))
theorem i_NoSuch (T : SupC P K mg C fI cc cda "NoSuch.__init__" (defArgs (ini 4)) (defBody (ini 4)) (defScope (ini 4))) (hno : ∀ f ∈ (["name"] : List Str), PySem.W.findIn K (.ref C) f = some none) :
    ∃ fd, FnOk P w K mg base CX0 1 fI fd (("self" : Str) :: ["name"]) (spInit C ["name"]) ∧ Binds K fd (("self" : Str) :: ["name"]) [] :=
  init1 T (nscope_by (by decide +kernel)) (ar := ((defArgs (ini 4)).args.headD ⟨"", none, ⟨0, 0, 0, 0⟩⟩)) (by rfl) (by rfl) (by rfl) (fun _ _ _ _ _ _ us hl => match us, hl with | [_, _], _ => rfl) (fun _ => rfl) (fun _ => rfl) (fun A outer s H E hu => ⟨_, pe_joined (.cons pe_str (.cons (pe_fmtRA (units3 hu) (pv 1)) .nil)), fun σ H' R hv q => by
    obtain ⟨v1, e1, h1⟩ := hv 1 (by decide) (by decide)
    exact msg_ok (R := fun out H1 => R (.str out) H1) (fun x => q x) _ Str.empty (List.forall_mem_cons.mpr ⟨good_str (by decide +kernel), List.forall_mem_cons.mpr ⟨good_fmt e1 h1, List.forall_mem_nil _⟩⟩) (by show 0 + 100000 * 2 ≤ sizeLine; rw [sizeLine_eq]; decide)⟩) (by decide +kernel) (by decide +kernel) (hno _ (by decide +kernel))
end
abbrev PP : Program := PySem.Challenge.pw_handsroom_k01_hall_parts
/-! ### what is looked at -/
def clsB (K : PySem.W.Frag) (C : Addr) : Bool := match K.lookup C with
  | some ⟨.type "type", _, .cls cd, sl⟩ => (match cd.mro, sl.toList with
    | .ref C' :: bm, [_, _, _, _, some (.builtin n), _] => C' == C && n == "ValueError.__new__" && !cd.hasDel && cd.hasDict && PySem.HandSPX.refsVE bm
    | _, _ => false)
  | _ => false
theorem clsB_ok {K : PySem.W.Frag} {C : Addr} (q : clsB K C = true) : ∃ nm q N bs bm sn sub ab col dd k0 k1 k2 k3 k5, K.lookup C = some (excClassObj nm q C N bs bm true sn sub ab col dd k0 k1 k2 k3 k5 "ValueError.__new__") ∧ PySem.HandSPX.refsVE bm = true := by
  unfold clsB at q
  split at q
  · rename_i dd cd sl ho
    split at q
    · rename_i C' bm k0 k1 k2 k3 n k5 hm hs
      simp only [Bool.and_eq_true, beq_iff_eq, Bool.not_eq_true'] at q
      obtain ⟨⟨⟨⟨rfl, rfl⟩, hdel⟩, hd⟩, hb⟩ := q
      obtain ⟨nm, bs, mro, ns, qn, hdd, sn, sub, ab, col, del⟩ := cd
      dsimp only at hm hdel hd
      subst hm hdel hd
      have hsl : sl = #[k0, k1, k2, k3, some (.builtin "ValueError.__new__"), k5] := by
        obtain ⟨l⟩ := sl
        simp only at hs
        rw [hs]
      subst hsl
      exact ⟨nm, qn, ns, bs, bm, sn, sub, ab, col, dd, k0, k1, k2, k3, k5, ho, hb⟩
    · cases q
  · cases q
def cellB (K : PySem.W.Frag) (cc C : Addr) : Bool := match K.lookup cc with
  | some ⟨_, _, .cell (some (.ref D)), _⟩ => D == C
  | _ => false
theorem cellB_ok {K : PySem.W.Frag} {cc C : Addr} (q : cellB K cc C = true) : ∃ (cl : Value) (cld : Option Addr) (csl : Array (Option Value)), K.lookup cc = some ⟨cl, cld, .cell (some (.ref C)), csl⟩ := by
  unfold cellB at q
  split at q
  · rename_i cl cld D csl ho
    rw [← beq_iff_eq.mp q]
    exact ⟨cl, cld, csl, ho⟩
  · cases q
def fileB (K : PySem.W.Frag) (cda : Addr) : Bool := match K.lookup cda with
  | some ⟨_, _, .fields vs, _⟩ => (match (vs[2]? : Option Value) with
    | some (.str fl _) => (PP.main.file : Str) == fl
    | _ => false)
  | _ => false
theorem fileB_ok {K : PySem.W.Frag} {cda : Addr} (q : fileB K cda = true) : ∃ (ccl : Value) (cdd : Option Addr) (vs : Array Value) (ccs : Array (Option Value)) (fl : Str) (tf : Tok), K.lookup cda = some ⟨ccl, cdd, .fields vs, ccs⟩ ∧ vs[2]? = some (.str fl tf) ∧ ((PP.main.file : Str) == fl) = true := by
  unfold fileB at q
  split at q
  · rename_i ccl cdd vs ccs ho
    split at q
    · rename_i fl tf hv
      exact ⟨ccl, cdd, vs, ccs, fl, tf, ho, hv, q⟩
    · cases q
  · cases q
def cloB (K : PySem.W.Frag) (C : Addr) (qn : Str) (clo : List (Str × Addr)) (dfl cod : Value) : Bool := match clo, dfl, cod with
  | [(_, cc)], .none, .ref cda => PySem.W.codeIn K (.ref cda) qn && (cellB K cc C && fileB K cda)
  | _, _, _ => false
theorem cloB_ok {K : PySem.W.Frag} {C : Addr} {qn : Str} {clo : List (Str × Addr)} {dfl cod : Value} (h : cloB K C qn clo dfl cod = true) : ∃ n0 cc cda, clo = [(n0, cc)] ∧ dfl = .none ∧ cod = .ref cda ∧ PySem.W.codeIn K (.ref cda) qn = true ∧ cellB K cc C = true ∧ fileB K cda = true := by
  unfold cloB at h
  split at h
  · rename_i n0 cc cda
    obtain ⟨y1, y2⟩ := He.ba h
    obtain ⟨y3, y4⟩ := He.ba y2
    exact ⟨n0, cc, cda, rfl, rfl, rfl, y1, y3, y4⟩
  · cases h
def fnB (K : PySem.W.Frag) (C fI : Addr) : Bool := match K.lookup fI with
  | some ⟨_, _, .func fd, _⟩ => cloB K C fd.qualname fd.closure fd.defaults fd.code
  | _ => false
abbrev FnE : Type := Option (Str × Arguments × FuncBody × Scope × Addr × List Str × Addr)
def fnE (K : PySem.W.Frag) (x : Str) : FnE := match K.lookup (He.ma K (He.ga K x) "__init__") with
  | some ⟨_, _, .func fd, _⟩ => some (fd.qualname, fd.params, fd.body, fd.scope, fd.globals, fd.closure.map (·.1), fd.builtins)
  | _ => none
def valE (q : Str × Str × Nat) : FnE := some (q.2.1, defArgs (ini q.2.2), .stmts (defBody (ini q.2.2)), defScope (ini q.2.2), mainGlobals, ["__class__"], builtinsNs)
def nextB (K : PySem.W.Frag) (C : Addr) : Bool := match PySem.W.clsIn K C with
  | some cd => He.eqO (PySem.W.alongIn K "__init__" ((cd.mro.dropWhile (· != .ref C)).drop 1)) (some (some (.builtin "ValueError.__init__")))
  | none => false
theorem nextB_ok {K : PySem.W.Frag} {C : Addr} (q : nextB K C = true) : ∃ cd, PySem.W.clsIn K C = some cd ∧ PySem.W.alongIn K "__init__" ((cd.mro.dropWhile (· != .ref C)).drop 1) = some (some (.builtin "ValueError.__init__")) := by
  unfold nextB at q
  split at q
  · rename_i cd hc
    exact ⟨cd, hc, He.eqO_ok q⟩
  · cases q
def oxB (K : PySem.W.Frag) (C : Addr) : Bool := clsB K C && (He.eqO (PySem.W.findIn K (.ref C) "__setattr__") (some (some (.builtin "object.__setattr__"))) && (decide (PySem.W.subIn K (.ref C) (.type "BaseException") = some true) && (decide (PySem.W.typeIn K (.ref C) = some (.type "type")) && PySem.W.keepIn K (.ref C))))
theorem oxB_ok {K : PySem.W.Frag} {C : Addr} (q : oxB K C = true) : OexC K C := by
  obtain ⟨h1, q⟩ := He.ba q
  obtain ⟨h2, q⟩ := He.ba q
  obtain ⟨h3, q⟩ := He.ba q
  obtain ⟨h4, h5⟩ := He.ba q
  exact ⟨clsB_ok h1, He.eqO_ok h2, of_decide_eq_true h3, of_decide_eq_true h4, h5⟩
def ecB (K : PySem.W.Frag) (C : Addr) : Bool := xfB K C && (He.eqO (PySem.W.findIn K (.ref C) "__class__") (some (some (.builtin "object.__class__"))) && (decide (PySem.W.mroIn K C (.type "object") = some true) && (decide (PySem.W.mroIn K C (.ref C) = some true) && decide (PySem.W.subIn K (.ref C) (.type "ValueError") = some true))))
def gsB (K : PySem.W.Frag) : Bool := He.eqO (PySem.W.specialIn K (.builtin "object.__class__") "__get__") (some (some (.builtin "getset_descriptor.__get__"))) && (decide (PySem.W.takesIn K (.builtin "object.__class__") = some true) && He.eqO (PySem.W.nsIn K cStatics "thirdparty.any") (some none))
def exB (K : PySem.W.Frag) (C : Addr) (fns : List Str) : Bool := oxB K C && (ecB K C && (nextB K C && (He.eqO (PySem.W.findIn K (.ref C) "__init__") (some (some (.ref (He.ma K C "__init__")))) && (decide (PySem.W.typeIn K (.ref (He.ma K C "__init__")) = some (.type "function")) && (fnB K C (He.ma K C "__init__") && fns.all fun f => He.eqO (PySem.W.findIn K (.ref C) f) (some none))))))
def tab : List (Str × List Str) := [("BadLine", ["line", "rule"]), ("NoSuch", ["name"])]
def kits (K : PySem.W.Frag) : Bool := (decide (PySem.W.exmOne K (.ref (He.ga K "BadLine")) (.ref (He.ga K "BadLine")) = some true) && (decide (PySem.W.exmOne K (.ref (He.ga K "NoSuch")) (.ref (He.ga K "NoSuch")) = some true) && (decide (PySem.W.kitOne K (.ref (He.ga K "NoSuch")) (.ref (He.ga K "HandsError")) = some true) && (decide (PySem.W.kitAny K (.ref (He.ga K "NoSuch")) [.ref (He.ga K "BadLine"), .ref (He.ga K "BadPart")] = some false) && (decide (PySem.W.kitOne K (.ref (He.ga K "BadLine")) (.ref (He.ga K "HandsError")) = some true) && (decide (PySem.W.kitAny K (.ref (He.ga K "BadLine")) [.ref (He.ga K "NoSuch"), .ref (He.ga K "BadPart")] = some false) && (decide (PySem.W.mroIn K (He.ga K "Hall") (.type "object") = some true) && (decide (PySem.W.kitOne K (.ref (He.ga K "Hall")) (.ref (He.ga K "Hall")) = some true) && (He.tupB K "RESERVED" (RES.map He.Dv.str) && He.eqO (PySem.W.findIn K (.ref (He.ga K "Hall")) "__class__") (some (some (.builtin "object.__class__"))))))))))))
def exAll (K : PySem.W.Frag) : Bool := gsB K && ((tab.all fun p => exB K (He.ga K p.1) p.2) && kits K)
def fa : List He.Fa := [.glo "is_name", .glo "has_repeat", .glo "is_description", .glo "lock_rule", .glo "kind_rule", .glo "hall_fault", .glo "_law_draws", .glo "_law_next", .glo "_law_pool", .glo "_law_lock", .glo "_law_description", .glo "_law_rule", .glo "_law_judge", .glo "_law_made", .glo "_law_missed", .glo "_law_holds", .glo "law", .glo "BadPart", .glo "BadLine", .glo "NoSuch", .glo "HandsError", .glo "RESERVED", .glo "Hall", .int "_MOST_CHARACTERS" 8, .int "_MOST_LOCKS" 4, .int "_MOST_KINDS" 3, .str "_LETTERS" lets, .str "_DIGITS" digs, .free "isinstance", .free "str", .free "len", .free "all", .free "any", .free "tuple", .free "list", .free "bool", .free "range", .free "enumerate", .free "int", .free "abs", .free "super", .cls "Hall", .mkr "Hall", .noat "Hall" "locks", .noat "Hall" "descriptions", .noat "Hall" "kinds", .noat "Hall" "sorts", .meth "Hall" "__eq__", .meth "Hall" "_description_of", .meth "Hall" "guard_of", .meth "Hall" "fields_of", .meth "Hall" "text"]
def fn : List He.DefD := [⟨("is_name", none), "is_name", "is_name", defArgs sIs, defBody sIs, defScope sIs, [], []⟩, ⟨("has_repeat", none), "has_repeat", "has_repeat", defArgs sRep, defBody sRep, defScope sRep, [], []⟩, ⟨("is_description", none), "is_description", "is_description", defArgs sDsc, defBody sDsc, defScope sDsc, [], []⟩, ⟨("lock_rule", none), "lock_rule", "lock_rule", defArgs sLr, defBody sLr, defScope sLr, [], []⟩, ⟨("kind_rule", none), "kind_rule", "kind_rule", defArgs sKr, defBody sKr, defScope sKr, [], []⟩, ⟨("hall_fault", none), "hall_fault", "hall_fault", defArgs sHf, defBody sHf, defScope sHf, [], []⟩, ⟨("_law_draws", none), "_law_draws", "_law_draws", defArgs sDraws, defBody sDraws, defScope sDraws, [], []⟩, ⟨("_law_next", none), "_law_next", "_law_next", defArgs sNext, defBody sNext, defScope sNext, [], []⟩, ⟨("_law_pool", none), "_law_pool", "_law_pool", defArgs sPool, defBody sPool, defScope sPool, [], []⟩, ⟨("_law_lock", none), "_law_lock", "_law_lock", defArgs sLock, defBody sLock, defScope sLock, [], []⟩, ⟨("_law_description", none), "_law_description", "_law_description", defArgs sDes, defBody sDes, defScope sDes, [], []⟩, ⟨("_law_rule", none), "_law_rule", "_law_rule", defArgs sRule, defBody sRule, defScope sRule, [], []⟩, ⟨("_law_judge", none), "_law_judge", "_law_judge", defArgs sJudge, defBody sJudge, defScope sJudge, [], []⟩, ⟨("_law_made", none), "_law_made", "_law_made", defArgs sMade, defBody sMade, defScope sMade, [], []⟩, ⟨("_law_missed", none), "_law_missed", "_law_missed", defArgs sMiss, defBody sMiss, defScope sMiss, [], []⟩, ⟨("_law_holds", none), "_law_holds", "_law_holds", defArgs sHold, defBody sHold, defScope sHold, [], []⟩, ⟨("law", none), "law", "law", defArgs sLaw, defBody sLaw, defScope sLaw, [], []⟩, ⟨("Hall", some "__init__"), "__init__", "Hall.__init__", defArgs sIni, defBody sIni, defScope sIni, [], []⟩, ⟨("Hall", some "__eq__"), "__eq__", "Hall.__eq__", defArgs sEq, defBody sEq, defScope sEq, [], []⟩, ⟨("Hall", some "_description_of"), "_description_of", "Hall._description_of", defArgs sDo, defBody sDo, defScope sDo, [], []⟩, ⟨("Hall", some "guard_of"), "guard_of", "Hall.guard_of", defArgs sGo, defBody sGo, defScope sGo, [], []⟩, ⟨("Hall", some "fields_of"), "fields_of", "Hall.fields_of", defArgs sFo, defBody sFo, defScope sFo, [], []⟩, ⟨("Hall", some "text"), "text", "Hall.text", defArgs sTx, defBody sTx, defScope sTx, [], []⟩]
def ecl : List (Str × Str × Nat) := [("BadLine", "BadLine.__init__", 3), ("NoSuch", "NoSuch.__init__", 4)]
abbrev AlE : Type := He.AlD × Bool × List FnE
def obsK (K : PySem.W.Frag) : AlE := (He.obsD fa fn K, exAll K, ecl.map fun q => fnE K q.1)
def obsE (g : Addr → Option Obj) : AlE := obsK (He.frG g (cStatics :: He.asD g 4))
def valA : AlE := (He.valD fn, true, ecl.map valE)
structure SaysE (K : PySem.W.Frag) : Prop where
  d : He.SaysD fa fn K
  ex : exAll K = true
  fe : (ecl.map fun q => fnE K q.1) = ecl.map valE
theorem saysE_of {K : PySem.W.Frag} (e : obsK K = valA) : SaysE K :=
  ⟨congrArg (fun z : AlE => z.1) e, congrArg (fun z : AlE => z.2.1) e, congrArg (fun z : AlE => z.2.2) e⟩
def hookE : PySem.W.Hook where
  α := AlE
  obs := fun s => obsE s.heap.get?
  val := fun _ => valA
  says := fun _ h => ∃ K : PySem.W.Frag, K.In h ∧ SaysE K
  of := fun _ _ e => ⟨_, He.frG_in, saysE_of e⟩
  keeps := fun _ _ _ ⟨K, hK, c⟩ k => ⟨K, PySem.W.Frag.In.keeps hK k, c⟩
/-! ### the facts used -/
theorem all_at {α : Type} {l : List α} {f : α → Bool} (h : l.all f = true) {j : Nat} {p : α} (e : l[j]? = some p) : f p = true := List.all_eq_true.mp h p (List.mem_of_getElem? e)
section
variable {K : PySem.W.Frag} {mg : Str → Option Value} {w : World} {base : Heap}
theorem sup_of (c : SaysE K) (hs : mg "super" = none) {j : Nat} {p : Str × List Str} {q : Str × Str × Nat} (e : tab[j]? = some p) (e2 : ecl[j]? = some q) (hq : q.1 = p.1) :
    OexC K (He.ga K p.1) ∧ XfC K (He.ga K p.1) ∧ ExcC K (He.ga K p.1) ∧ (∀ f ∈ p.2, PySem.W.findIn K (.ref (He.ga K p.1)) f = some none) ∧
      ∃ fI cc cda, SupC PP K mg (He.ga K p.1) fI cc cda q.2.1 (defArgs (ini q.2.2)) (defBody (ini q.2.2)) (defScope (ini q.2.2)) := by
  obtain ⟨g, h⟩ := He.ba c.ex
  obtain ⟨h, _⟩ := He.ba h
  have h := all_at h e
  obtain ⟨g1, g⟩ := He.ba g
  obtain ⟨g2, g3⟩ := He.ba g
  obtain ⟨h1, h⟩ := He.ba h
  obtain ⟨h2, h⟩ := He.ba h
  obtain ⟨h3, h⟩ := He.ba h
  obtain ⟨h4, h⟩ := He.ba h
  obtain ⟨h5, h⟩ := He.ba h
  obtain ⟨h6, h7⟩ := He.ba h
  obtain ⟨x1, h2⟩ := He.ba h2
  obtain ⟨x2, h2⟩ := He.ba h2
  obtain ⟨x3, h2⟩ := He.ba h2
  obtain ⟨x4, x5⟩ := He.ba h2
  have O := oxB_ok h1
  have F := xfB_ok x1
  refine ⟨O, F, ⟨F.ga, F.gg, F.exC, F.hdC, He.eqO_ok x2, He.eqO_ok g1, of_decide_eq_true g2, of_decide_eq_true x3⟩, fun f hf => He.eqO_ok (List.all_eq_true.mp h7 f hf), ?_⟩
  have fe : (ecl.map fun q => fnE K q.1)[j]? = (ecl.map valE)[j]? := by rw [c.fe]
  rw [List.getElem?_map, List.getElem?_map, e2] at fe
  have fe : fnE K q.1 = valE q := Option.some.inj fe
  unfold fnB at h6
  rw [hq] at fe
  unfold fnE at fe
  cases hk : K.lookup (He.ma K (He.ga K p.1) "__init__") with
  | none =>
    rw [hk] at h6
    cases h6
  | some o =>
    obtain ⟨oc, od, dt, osl⟩ := o
    rw [hk] at h6 fe
    cases dt with
    | func fd =>
      obtain ⟨nm, qn, pa, bo, sc, gl, clo, dfl, kwd, doc, pm, an, cod, ct, bl⟩ := fd
      have fe2 : (qn, pa, bo, sc, gl, clo.map (·.1), bl) = (q.2.1, defArgs (ini q.2.2), FuncBody.stmts (defBody (ini q.2.2)), defScope (ini q.2.2), mainGlobals, [("__class__" : Str)], builtinsNs) := Option.some.inj fe
      simp only [Prod.mk.injEq] at fe2
      obtain ⟨rfl, rfl, rfl, rfl, rfl, ec, rfl⟩ := fe2
      obtain ⟨n0, cc, cda, rfl, rfl, rfl, y1, y3, y4⟩ := cloB_ok (show cloB K (He.ga K p.1) q.2.1 clo dfl cod = true from h6)
      have en : n0 = "__class__" := (List.cons.inj ec).1
      subst en
      exact ⟨_, cc, cda, ⟨O, He.eqO_ok h4, of_decide_eq_true h5, ⟨oc, od, osl, nm, kwd, doc, pm, ct, an, hk⟩, y1, cellB_ok y3, fileB_ok y4, hs, by decide +kernel, He.eqO_ok g3, nextB_ok h3, of_decide_eq_true x4, of_decide_eq_true x5⟩⟩
    | _ => cases h6
end
end K01
namespace K01
open PySem PySem.Spec PyProof.Rows L2
abbrev RR : PySem.W.OpenRow := PySem.W.OpenLaw.row PySem.Challenge.rw_handsroom_k01_hall_parts
def n1 : List PySem.Str := ["HandsError", "BadPart", "BadLine", "NoSuch", "has_repeat", "RESERVED", "_LETTERS", "_DIGITS", "_MOST_CHARACTERS", "is_name", "_MOST_LOCKS", "_MOST_KINDS", "is_description"]
def n2 : List PySem.Str := ["lock_rule", "kind_rule", "hall_fault", "Hall", "_law_draws", "_law_next", "_law_pool", "_law_lock", "_law_description", "_law_rule", "_law_judge", "_law_made", "_law_missed", "_law_holds"]
def names : List PySem.Str := n1 ++ n2
def ob (s : PySem.W.SharedT) : AlE := obsE (HandSHeadRun.getT s)
theorem ob_eq (s : PySem.W.SharedT) : ob s = hookE.obs s.abs := by
  have e : HandSHeadRun.getT s = s.abs.heap.get? := funext fun a => HandSHeadRun.getT_eq s a
  show obsE (HandSHeadRun.getT s) = obsE s.abs.heap.get?
  rw [e]
theorem run (w : World) : HandSHeadRun.RunEq RR (PySem.W.view RR.prog [32]) hookE ob 9000 names w := by
  intro os
  kernel_rfl
end K01
namespace K01
open PySem PySem.Spec PyProof.Rows L2
theorem facts {w : World} {K : PySem.W.Frag} {h : Heap} {mg : Str → Option Value} {f : Addr} (X : K.In h) (G : h.Ns mainGlobals mg) (hfa : mg ("law" : Str) = some (.ref f)) (c : SaysE K) :
    ∃ fd : FuncData, (∀ (s : Shared) (v : Value), BindsTo s fd ⟨[v], []⟩ [("_law_script", v)]) ∧ ∀ base : Heap, K.In base → base.Ns mainGlobals mg → FnOk PP w K mg base CX0 8 f fd ["_law_script"] (spLaw K) := by
  obtain ⟨fdI, FI⟩ := c.d.def_ 0 (d := ⟨("is_name", none), "is_name", "is_name", defArgs sIs, defBody sIs, defScope sIs, [], []⟩) rfl
  obtain ⟨fdRp, FRp⟩ := c.d.def_ 1 (d := ⟨("has_repeat", none), "has_repeat", "has_repeat", defArgs sRep, defBody sRep, defScope sRep, [], []⟩) rfl
  obtain ⟨fdD, FD⟩ := c.d.def_ 2 (d := ⟨("is_description", none), "is_description", "is_description", defArgs sDsc, defBody sDsc, defScope sDsc, [], []⟩) rfl
  obtain ⟨fdLr, FLr⟩ := c.d.def_ 3 (d := ⟨("lock_rule", none), "lock_rule", "lock_rule", defArgs sLr, defBody sLr, defScope sLr, [], []⟩) rfl
  obtain ⟨fdKr, FKr⟩ := c.d.def_ 4 (d := ⟨("kind_rule", none), "kind_rule", "kind_rule", defArgs sKr, defBody sKr, defScope sKr, [], []⟩) rfl
  obtain ⟨fdHf, FHf⟩ := c.d.def_ 5 (d := ⟨("hall_fault", none), "hall_fault", "hall_fault", defArgs sHf, defBody sHf, defScope sHf, [], []⟩) rfl
  obtain ⟨fdDs, FDs⟩ := c.d.def_ 6 (d := ⟨("_law_draws", none), "_law_draws", "_law_draws", defArgs sDraws, defBody sDraws, defScope sDraws, [], []⟩) rfl
  obtain ⟨fdN, FN⟩ := c.d.def_ 7 (d := ⟨("_law_next", none), "_law_next", "_law_next", defArgs sNext, defBody sNext, defScope sNext, [], []⟩) rfl
  obtain ⟨fdPo, FPo⟩ := c.d.def_ 8 (d := ⟨("_law_pool", none), "_law_pool", "_law_pool", defArgs sPool, defBody sPool, defScope sPool, [], []⟩) rfl
  obtain ⟨fdLk, FLk⟩ := c.d.def_ 9 (d := ⟨("_law_lock", none), "_law_lock", "_law_lock", defArgs sLock, defBody sLock, defScope sLock, [], []⟩) rfl
  obtain ⟨fdDe, FDe⟩ := c.d.def_ 10 (d := ⟨("_law_description", none), "_law_description", "_law_description", defArgs sDes, defBody sDes, defScope sDes, [], []⟩) rfl
  obtain ⟨fdRu, FRu⟩ := c.d.def_ 11 (d := ⟨("_law_rule", none), "_law_rule", "_law_rule", defArgs sRule, defBody sRule, defScope sRule, [], []⟩) rfl
  obtain ⟨fdJu, FJu⟩ := c.d.def_ 12 (d := ⟨("_law_judge", none), "_law_judge", "_law_judge", defArgs sJudge, defBody sJudge, defScope sJudge, [], []⟩) rfl
  obtain ⟨fdMa, FMa⟩ := c.d.def_ 13 (d := ⟨("_law_made", none), "_law_made", "_law_made", defArgs sMade, defBody sMade, defScope sMade, [], []⟩) rfl
  obtain ⟨fdMi, FMi⟩ := c.d.def_ 14 (d := ⟨("_law_missed", none), "_law_missed", "_law_missed", defArgs sMiss, defBody sMiss, defScope sMiss, [], []⟩) rfl
  obtain ⟨fdHo, FHo⟩ := c.d.def_ 15 (d := ⟨("_law_holds", none), "_law_holds", "_law_holds", defArgs sHold, defBody sHold, defScope sHold, [], []⟩) rfl
  obtain ⟨fdL, FL⟩ := c.d.def_ 16 (d := ⟨("law", none), "law", "law", defArgs sLaw, defBody sLaw, defScope sLaw, [], []⟩) rfl
  obtain ⟨fdIni, FIni⟩ := c.d.def_ 17 (d := ⟨("Hall", some "__init__"), "__init__", "Hall.__init__", defArgs sIni, defBody sIni, defScope sIni, [], []⟩) rfl
  obtain ⟨fdEq, FEq⟩ := c.d.def_ 18 (d := ⟨("Hall", some "__eq__"), "__eq__", "Hall.__eq__", defArgs sEq, defBody sEq, defScope sEq, [], []⟩) rfl
  obtain ⟨fdDo, FDo⟩ := c.d.def_ 19 (d := ⟨("Hall", some "_description_of"), "_description_of", "Hall._description_of", defArgs sDo, defBody sDo, defScope sDo, [], []⟩) rfl
  obtain ⟨fdGo, FGo⟩ := c.d.def_ 20 (d := ⟨("Hall", some "guard_of"), "guard_of", "Hall.guard_of", defArgs sGo, defBody sGo, defScope sGo, [], []⟩) rfl
  obtain ⟨fdFo, FFo⟩ := c.d.def_ 21 (d := ⟨("Hall", some "fields_of"), "fields_of", "Hall.fields_of", defArgs sFo, defBody sFo, defScope sFo, [], []⟩) rfl
  obtain ⟨fdTx, FTx⟩ := c.d.def_ 22 (d := ⟨("Hall", some "text"), "text", "Hall.text", defArgs sTx, defBody sTx, defScope sTx, [], []⟩) rfl
  have gI := (He.glo_ok X G (c.d.fact 0 (f := .glo "is_name") rfl))
  have gRp := (He.glo_ok X G (c.d.fact 1 (f := .glo "has_repeat") rfl))
  have gD := (He.glo_ok X G (c.d.fact 2 (f := .glo "is_description") rfl))
  have gLr := (He.glo_ok X G (c.d.fact 3 (f := .glo "lock_rule") rfl))
  have gKr := (He.glo_ok X G (c.d.fact 4 (f := .glo "kind_rule") rfl))
  have gHf := (He.glo_ok X G (c.d.fact 5 (f := .glo "hall_fault") rfl))
  have gDs := (He.glo_ok X G (c.d.fact 6 (f := .glo "_law_draws") rfl))
  have gN := (He.glo_ok X G (c.d.fact 7 (f := .glo "_law_next") rfl))
  have gPo := (He.glo_ok X G (c.d.fact 8 (f := .glo "_law_pool") rfl))
  have gLk := (He.glo_ok X G (c.d.fact 9 (f := .glo "_law_lock") rfl))
  have gDe := (He.glo_ok X G (c.d.fact 10 (f := .glo "_law_description") rfl))
  have gRu := (He.glo_ok X G (c.d.fact 11 (f := .glo "_law_rule") rfl))
  have gJu := (He.glo_ok X G (c.d.fact 12 (f := .glo "_law_judge") rfl))
  have gMa := (He.glo_ok X G (c.d.fact 13 (f := .glo "_law_made") rfl))
  have gMi := (He.glo_ok X G (c.d.fact 14 (f := .glo "_law_missed") rfl))
  have gHo := (He.glo_ok X G (c.d.fact 15 (f := .glo "_law_holds") rfl))
  have e := hfa.symm.trans (He.glo_ok X G (c.d.fact 16 (f := .glo "law") rfl))
  cases e
  have b := FunD.bindsA (ps := ["_law_script"]) FL fun _ _ _ _ _ _ us hl => match us, hl with | [_], _ => rfl
  have hm := He.int_ok X G (c.d.fact 23 (f := .int "_MOST_CHARACTERS" 8) rfl)
  have hML := He.int_ok X G (c.d.fact 24 (f := .int "_MOST_LOCKS" 4) rfl)
  have hMK := He.int_ok X G (c.d.fact 25 (f := .int "_MOST_KINDS" 3) rfl)
  have hl := He.str_ok X G (c.d.fact 26 (f := .str "_LETTERS" lets) rfl)
  have hd := He.str_ok X G (c.d.fact 27 (f := .str "_DIGITS" digs) rfl)
  have m_isinstance := (He.free_ok X G (c.d.fact 28 (f := .free "isinstance") rfl))
  have m_str := (He.free_ok X G (c.d.fact 29 (f := .free "str") rfl))
  have m_len := (He.free_ok X G (c.d.fact 30 (f := .free "len") rfl))
  have m_all := (He.free_ok X G (c.d.fact 31 (f := .free "all") rfl))
  have m_any := (He.free_ok X G (c.d.fact 32 (f := .free "any") rfl))
  have m_tuple := (He.free_ok X G (c.d.fact 33 (f := .free "tuple") rfl))
  have m_list := (He.free_ok X G (c.d.fact 34 (f := .free "list") rfl))
  have m_bool := (He.free_ok X G (c.d.fact 35 (f := .free "bool") rfl))
  have m_range := (He.free_ok X G (c.d.fact 36 (f := .free "range") rfl))
  have m_enumerate := (He.free_ok X G (c.d.fact 37 (f := .free "enumerate") rfl))
  have m_int := (He.free_ok X G (c.d.fact 38 (f := .free "int") rfl))
  have m_abs := (He.free_ok X G (c.d.fact 39 (f := .free "abs") rfl))
  have m_super := (He.free_ok X G (c.d.fact 40 (f := .free "super") rfl))
  obtain ⟨gs, z⟩ := He.ba c.ex
  obtain ⟨_, z⟩ := He.ba z
  obtain ⟨z0, z⟩ := He.ba z
  obtain ⟨z1, z⟩ := He.ba z
  obtain ⟨z2, z⟩ := He.ba z
  obtain ⟨z3, z⟩ := He.ba z
  obtain ⟨z4, z⟩ := He.ba z
  obtain ⟨z5, z⟩ := He.ba z
  obtain ⟨z6, z⟩ := He.ba z
  obtain ⟨z7, z⟩ := He.ba z
  obtain ⟨zR, zC⟩ := He.ba z
  obtain ⟨gs1, gs⟩ := He.ba gs
  obtain ⟨gs2, _⟩ := He.ba gs
  have NM : Nm K mg (He.ga K "RESERVED") := ⟨m_isinstance, m_str, m_len, m_all, hm, hl, hd, (He.glo_ok X G (c.d.fact 21 (f := .glo "RESERVED") rfl)), fun H => He.tupB_ok zR H⟩
  have TC := He.cls_ok (c.d.fact 41 (f := .cls "Hall") rfl)
  have T : HallC K (He.ga K "Hall") := ⟨TC, He.noat_ok (c.d.fact 43 (f := .noat "Hall" "locks") rfl), He.noat_ok (c.d.fact 44 (f := .noat "Hall" "descriptions") rfl), He.noat_ok (c.d.fact 45 (f := .noat "Hall" "kinds") rfl), He.noat_ok (c.d.fact 46 (f := .noat "Hall" "sorts") rfl)⟩
  have IC : C8.InsC K (He.ga K "Hall") := ⟨TC, He.eqO_ok zC, He.eqO_ok gs1, of_decide_eq_true gs2, of_decide_eq_true z6, of_decide_eq_true z7⟩
  have MK := He.mkr_ok (c.d.fact 42 (f := .mkr "Hall") rfl)
  have mDo := He.meth_ok (c.d.fact 48 (f := .meth "Hall" "_description_of") rfl)
  have mGo := He.meth_ok (c.d.fact 49 (f := .meth "Hall" "guard_of") rfl)
  have mFo := He.meth_ok (c.d.fact 50 (f := .meth "Hall" "fields_of") rfl)
  have mTx := He.meth_ok (c.d.fact 51 (f := .meth "Hall" "text") rfl)
  have mEq := He.meth_ok (c.d.fact 47 (f := .meth "Hall" "__eq__") rfl)
  have gC := (He.glo_ok X G (c.d.fact 22 (f := .glo "Hall") rfl))
  have gH := (He.glo_ok X G (c.d.fact 20 (f := .glo "HandsError") rfl))
  have gP := (He.glo_ok X G (c.d.fact 17 (f := .glo "BadPart") rfl))
  have gL := (He.glo_ok X G (c.d.fact 18 (f := .glo "BadLine") rfl))
  have gS := (He.glo_ok X G (c.d.fact 19 (f := .glo "NoSuch") rfl))
  obtain ⟨O1, XF1, EC1, no1, fB1, cc1, cda1, T1⟩ := sup_of c m_super (j := 0) (p := ("BadLine", ["line", "rule"])) (q := ("BadLine", "BadLine.__init__", 3)) rfl rfl rfl
  obtain ⟨O2, XF2, EC2, no2, fB2, cc2, cda2, T2⟩ := sup_of c m_super (j := 1) (p := ("NoSuch", ["name"])) (q := ("NoSuch", "NoSuch.__init__", 4)) rfl rfl rfl
  refine ⟨fdL, fun s v => b s [v] rfl, fun base _ _ => ?_⟩
  obtain ⟨fd1, G1, B1⟩ := i_BadLine (w := w) (base := base) T1 no1
  obtain ⟨fd2, G2, B2⟩ := i_NoSuch (w := w) (base := base) T2 no2
  have BL : ErC PP w K mg base "BadLine" (He.ga K "BadLine") ["line", "rule"] := ⟨gL, O1, ⟨fB1, fd1, _, T1.iC, T1.tI, G1, B1⟩, XF1, no1, EC1⟩
  have BN : ErC PP w K mg base "NoSuch" (He.ga K "NoSuch") ["name"] := ⟨gS, O2, ⟨fB2, fd2, _, T2.iC, T2.tI, G2, B2⟩, XF2, no2, EC2⟩
  have kLr := fun pd => ok_lr (P := PP) (w := w) (base := base) (pd := pd) FLr FI gI NM hML
  have kKr := fun pd => ok_kr (P := PP) (w := w) (base := base) (pd := pd) FKr FI gI FD gD FRp gRp NM m_tuple m_enumerate m_any hMK
  have kHf := fun pd => ok_hf (P := PP) (w := w) (base := base) (pd := pd) FHf FLr gLr (kLr pd) FKr gKr (kKr pd) NM m_enumerate
  have kIni := fun pd => ok_ini (P := PP) (w := w) (base := base) (pd := pd) FIni FHf gHf (kHf pd) BL T m_tuple
  have kEq := fun pd => ok_eqh (P := PP) (w := w) (base := base) (pd := pd) FEq T IC gC m_isinstance
  have kGo := fun pd => ok_go (P := PP) (w := w) (base := base) (pd := pd) FGo FDo mDo T BN
  have kFo := fun pd => ok_fo (P := PP) (w := w) (base := base) (pd := pd) FFo FDo mDo T BN
  have kTx := fun pd => ok_tx (mg := mg) (P := PP) (w := w) (base := base) (pd := pd) FTx T
  have kDs := ok_draws (P := PP) (w := w) (base := base) FDs m_enumerate m_abs m_int m_range m_len
  have kPo := fun pd => ok_pool (P := PP) (w := w) (base := base) (pd := pd) FPo FN gN m_len m_int m_range
  have kLk := fun (i : Addr × Addr) => ok_lock (P := PP) (w := w) (base := base) (pd := i.1) (pp := i.2) FLk FN gN m_len m_int
  have kDe := fun (i : Addr × Addr × Addr) => ok_des (P := PP) (w := w) (base := base) (pd := i.1) (pp := i.2.1) (pl := i.2.2) FDe FN gN m_len m_int m_list
  have kJu := fun (i : Addr × Addr) => ok_judge (P := PP) (w := w) (base := base) (pd := i.1) (pp := i.2) FJu FRu gRu m_len m_isinstance m_tuple m_list m_enumerate
  have kMa := fun pd => ok_made (P := PP) (w := w) (base := base) (pd := pd) FMa (kIni pd) MK gC m_len
  have kMi := fun pd => ok_miss (P := PP) (w := w) (base := base) (pd := pd) FMi FGo mGo (kGo pd) FFo mFo (kFo pd) T BN gH gL gP m_isinstance (of_decide_eq_true z1) (of_decide_eq_true z2) (of_decide_eq_true z3)
  have kHo := fun pd => ok_hold (P := PP) (w := w) (base := base) (pd := pd) FHo FGo mGo (kGo pd) FFo mFo (kFo pd) FTx mTx (kTx pd) T m_isinstance m_tuple m_list
  exact ok_law FL FDs gDs kDs FN gN FPo gPo kPo FLk gLk kLk FDe gDe kDe FJu gJu kJu FMa gMa kMa FMi gMi kMi FHo gHo kHo FEq kEq mEq.at_ mEq.fn BL gH gS gP (of_decide_eq_true z0) (of_decide_eq_true z4) (of_decide_eq_true z5) m_range m_len m_int m_list m_isinstance m_bool
end K01
open PySem PySem.W PySem.Calls PyProof.Rows
theorem PySem.Challenge.cw_handsroom_k01_hall_parts_holds : PySem.Challenge.rw_handsroom_k01_hall_parts.Holds := by
  w_on; o_law
  refine HandSHeadRun.head_any (r := OpenLaw.row PySem.Challenge.rw_handsroom_k01_hall_parts) (q := view (OpenLaw.row PySem.Challenge.rw_handsroom_k01_hall_parts).prog [32]) (H := K01.hookE) (ob := K01.ob) (M := 9000) (loose := K01.names) (d := HandSHeadRun.topDef (OpenLaw.row PySem.Challenge.rw_handsroom_k01_hall_parts).prog 32) (kwd := []) K01.ob_eq
    (by kernel_rfl) (fun s => by kernel_rfl) K01.run (by kernel_rfl) (by kernel_rfl) (by kernel_rfl) (by rfl) (by first | assumption | decide +kernel) (by decide +kernel) ⟨rfl, rfl, rfl, rfl, rfl, by decide +kernel⟩ ?hw ?hc
  case hw => w_witness2
  case hc =>
    refine L2.walk_ofE (l := PySem.Challenge.rw_handsroom_k01_hall_parts) (n := 63) (k := 8) (x := "_law_script") (CX := L2.CX0) rfl (by decide) (by kernel_rfl) ⟨rfl, by decide, by decide⟩ ?F (fun _ _ _ _ z => z)
    intro w mg fa h Y G hmg0
    obtain ⟨K, KX, c⟩ := Y
    have hmg : mg ("law" : PySem.Str) = some (.ref fa) := by
      have e : (HandSHeadRun.topDef (OpenLaw.row PySem.Challenge.rw_handsroom_k01_hall_parts).prog 32).name = ("law" : PySem.Str) := by kernel_rfl
      rw [← e]
      exact hmg0
    obtain ⟨fd, hb, hF⟩ := K01.facts (w := w) KX G hmg c
    exact ⟨K, fd, K01.spLaw K, KX, hb, fun H a ns hl _ hS => ⟨a, ns, rfl, hS, fun _ => rfl⟩, hF⟩
