import PyProof.Rows.All
import Wide.All
import OpenK.AllK
import Wide.FinOn
import PyProof.EqAt
import PyProof.EqKinds
import PyProof.TupleCall
import KE.KExcSuper
import HandS.ForMost
import HandS.Exc
import HandS.ExcInit
import HandS.ExcSuper
import HandS.ExcField
import HandS.ExcIs
import HandS.Nested
import HandS.ClsMeth
import HandS.FStr
import HandS.IsInst
import HandS.Defaults
import HandS.Text
import HandS.Iter
import HandS.Walk
import HandS.HeadHook4
import HandS.Sort
import KE.KStateDown
import Lean
import HandS.Head0
import HandS.Head1
import HandS.Head2
import HandS.HeadEnd
import PySem.Challenge.RW_handsroom_k00_names_and_words
set_option Elab.async false
set_option linter.all false
set_option maxRecDepth 100000
set_option maxHeartbeats 4000000
namespace PySem
namespace ErrX
open Sem
section
variable {prog : Program} {w : World} {A : Around} {E : Value → Shared → Prop} {s : Shared} {a : Addr} {o : Obj} {items : Array Value} {n : Nat} {ts : List Str}
/-- repr of a tuple, whatever stands on the stack -/
theorem call_tuple_repr_any {Q : Value → Shared → Prop} (hTy : s.TypeIs (.ref a) "tuple") (ha : s.heap.get? a = some o) (hd : o.data = .seq items n) (hT : ReprAll prog w items.toList ts)
    (hQ : ∀ (y : Str) u tk, y.length ≤ 100000 → Q (.str y u) { s with toks := tk }) (hsz : (tupleText ts).length ≤ 100000) :
    wpAny (model prog w) A (call (.builtin "tuple.__repr__") [.ref a]) Q E s := by
  refine wpAny_call (codeAny_call_builtin_own (Code.quiet_builtin _ (by decide +kernel)) F.entry_tuple_repr (F.slot_tuple_repr.check _ _ _ _ _ _ _ _ hTy (F.args_tuple_repr_1 _) ?_))
  show wpOwn _ _ _ (Builtin.tupleReprAt 0 ⟨[.ref a], []⟩) _ _ _
  rw [tuple_repr_tree, tupleReprUnderWay_eq]
  refine wpOwn_of_wpAny (wpAny_bind (wpAny_bind (wpAny_stack_any fun st => wpAny_pure ?_)))
  cases st.tail.any (tupGuardF (.ref a)) with
  | true =>
    show wpAny _ _ (do rule "tuple.repr.in-itself"; retStr "(...)") _ _ _
    refine wpAny_bind (wpAny_rule ?_)
    refine wpAny_bind (wpAny_mkStr (wpAny_pure ?_) (by decide +kernel))
    exact hQ _ _ _ (by decide +kernel)
  | false =>
    show wpAny _ _ (tupleReprRest 0 (.ref a)) _ _ _
    exact wpAny_tupleReprRest ha hd hT (fun u tk => hQ _ u tk hsz) (by rw [sizeLine_eq]; omega)
theorem pyReprObj_tuple_any {Q : Value → Shared → Prop} (hTy : s.TypeIs (.ref a) "tuple") (hu : A.units < cLine) (ha : s.heap.get? a = some o) (hd : o.data = .seq items n) (hT : ReprAll prog w items.toList ts)
    (hQ : ∀ (y : Str) u tk, y.length ≤ 100000 → Q (.str y u) { s with toks := tk }) (hsz : (tupleText ts).length ≤ 100000) : wpAny (model prog w) A (pyReprObj (.ref a)) Q E s := by
  unfold pyReprObj
  refine wpAny_bind (wpAny_cRoomFor hu ?_)
  refine wpAny_bind (wpAny_specialOf (name := Str.ofString "__repr__") hTy F.slot_tuple_repr.lookup ?_)
  refine wpAny_bind (m := callSpecialIfBound? (.ref a) (Str.ofString "__repr__")) (wpAny_callSpecialIfBound?_slotG (name := Str.ofString "__repr__") hTy F.slot_tuple_repr
    (call_tuple_repr_any hTy ha hd hT (fun y u tk hy => ?_) hsz))
  exact wpAny_bind (wpAny_isInstance (T := "str") (b := true) rfl isSubtype_str_str (wpAny_pure (hQ y u tk hy)))
end
end ErrX
end PySem

namespace L2
open PySem PySem.Spec PyProof.Rows
/-- a text or an int whose repr is short -/
def Sho (v : V) : Prop := (∃ y : Str, v = .str y ∧ (reprText y).length ≤ 1000 ∧ y.length ≤ 1000) ∨ ∃ i : Int, v = .int i ∧ i.natAbs.log2 < 1920
theorem sho_len {i : Int} (h : i.natAbs.log2 < 1920) : (Str.ofString (toString i)).length ≤ 1921 := int_text_len_1921 h
theorem tupT_len (ts : List Str) : (tupleText ts).length ≤ piled ts + 4 := by
  unfold tupleText
  rw [strLen_append, strLen_append]
  have e1 : ((("(" : String) : Str)).length = 1 := rfl
  have e3 : (((if ts.length == 1 then ",)" else ")" : String) : Str)).length ≤ 2 := by split <;> decide
  rw [e1]
  by_cases h : ts = []
  · subst h
    have e2 : (Str.join ", " []).length = 0 := rfl
    rw [e2]
    omega
  · have := join_length_add ts h
    omega
theorem sho_all {P : Program} {w : World} : ∀ {xs : List V} {us : List Value}, Vals xs us → (∀ v ∈ xs, Sho v) → ∃ ts, ReprAll P w us ts ∧ piled ts ≤ 2000 * xs.length
  | _, _, .nil, _ => ⟨[], .nil, by simp [piled]⟩
  | v :: xs, _ :: us, .cons r rs, h => by
    obtain ⟨ts, h1, h2⟩ := sho_all rs fun u hu => h u (List.mem_cons_of_mem _ hu)
    rcases h v List.mem_cons_self with ⟨y, rfl, hy, _⟩ | ⟨i, rfl, hi⟩
    · obtain ⟨t, rfl⟩ := r
      refine ⟨_, .cons (ReprIs.str y t (by rw [sizeLine_eq]; omega)) h1, ?_⟩
      rw [piled_cons, List.length_cons]
      omega
    · obtain ⟨t, rfl⟩ := r
      refine ⟨_, .cons (ReprIs.int t hi) h1, ?_⟩
      have := sho_len hi
      rw [piled_cons, List.length_cons]
      omega
section
variable {X : Cx}
def tFmtRA (te : TE) : TE := fun σ H Q => te σ H fun x H1 => (Sho x ∨ ∃ p xs, x = .ref p ∧ H1 p = some (.tup xs) ∧ xs.length ≤ 10 ∧ ∀ v ∈ xs, Sho v) ∧ ∀ y : Str, y.length ≤ 100000 → Q (.str y) H1
theorem pe_fmtRA {e : Expr} {te : TE} {pos : Pos} (hu : X.A.units < cLine) (he : PE X e te) : PE X (.FormattedValue e 114 none pos) (tFmtRA te) := by
  refine ⟨fun pins s σ H Q I h => ?_⟩
  refine wpAny_FormattedValue_repr (thn (he.run pins s σ H _ I h) fun v s1 hv => ?_)
  obtain ⟨x, H1, I1, r1, hs, q⟩ := hv
  have sl : (100000 : Nat) ≤ sizeLine := by rw [sizeLine_eq]; omega
  rcases hs with (⟨y, rfl, hz, _⟩ | ⟨i, rfl, hz⟩) | ⟨p, xs, rfl, hp, hl, hx⟩
  · obtain ⟨t, rfl⟩ := r1
    have hz2 : (reprText y).length ≤ sizeLine := by omega
    exact pyReprObj_str (wpAny_formatField_str ⟨.str (reprText y), H1, I1.tok _, ⟨_, rfl⟩, q _ (by omega)⟩ ⟨.str (reprText y), H1, I1.tok _, ⟨_, rfl⟩, q _ (by omega)⟩ hz2) hz2
  · obtain ⟨t, rfl⟩ := r1
    have h3 := sho_len hz
    exact pyReprObj_int hz (wpAny_formatField_str ⟨.str (toString i), H1, I1.tok _, ⟨_, rfl⟩, q _ (by omega)⟩ ⟨.str (toString i), H1, I1.tok _, ⟨_, rfl⟩, q _ (by omega)⟩ (int_text_fits hz))
  · cases r1
    obtain ⟨_, its, rv, o, ho, hc, n, hd⟩ := I1.hok p _ hp
    obtain ⟨ts, h1, h2⟩ := sho_all (P := X.prog) (w := X.w) rv hx
    have h3 := tupT_len ts
    refine ErrX.pyReprObj_tuple_any ⟨o, ho, hc⟩ hu ho hd h1 (fun y u tk hy => ?_) (by omega)
    exact wpAny_formatField_str ⟨.str y, H1, I1.tok _, ⟨_, rfl⟩, q y hy⟩ ⟨.str y, H1, I1.tok _, ⟨_, rfl⟩, q y hy⟩ (by omega)
/-- {x}: a short text, an int, or a tuple of such -/
def tFmtA (te : TE) : TE := fun σ H Q => te σ H fun x H1 => (Sho x ∨ ∃ p xs, x = .ref p ∧ H1 p = some (.tup xs) ∧ xs.length ≤ 10 ∧ ∀ v ∈ xs, Sho v) ∧ ∀ y : Str, y.length ≤ 100000 → Q (.str y) H1
theorem pe_fmtA {e : Expr} {te : TE} {pos : Pos} (hu : X.A.units + 2 < cLine) (he : PE X e te) : PE X (.FormattedValue e (-1) none pos) (tFmtA te) := by
  refine ⟨fun pins s σ H Q I h => ?_⟩
  refine wpAny_FormattedValue_plain (thn (he.run pins s σ H _ I h) fun v s1 hv => ?_)
  obtain ⟨x, H1, I1, r1, hs, q⟩ := hv
  have sl : (100000 : Nat) ≤ sizeLine := by rw [sizeLine_eq]; omega
  rcases hs with (⟨y, rfl, _, hz⟩ | ⟨i, rfl, hz⟩) | ⟨p, xs, rfl, hp, hl, hx⟩
  · obtain ⟨t, rfl⟩ := r1
    exact wpAny_formatField_str ⟨.str y, H1, I1, ⟨t, rfl⟩, q _ (by omega)⟩ ⟨.str y, H1, I1.tok _, ⟨_, rfl⟩, q _ (by omega)⟩ (by omega)
  · obtain ⟨t, rfl⟩ := r1
    have h3 := sho_len hz
    exact wpAny_formatField_int hz ⟨.str (toString i), H1, I1.tok _, ⟨_, rfl⟩, q _ (by omega)⟩
  · cases r1
    obtain ⟨_, its, rv, o, ho, hc, n, hd⟩ := I1.hok p _ hp
    obtain ⟨ts, h1, h2⟩ := sho_all (P := X.prog) (w := X.w) rv hx
    have h3 := tupT_len ts
    exact wpAny_formatField_slot (fun _ _ => nofun) hu ⟨o, ho, hc⟩ F.slot_tuple_format F.slot_tuple_str F.slot_tuple_repr
      (ErrX.call_tuple_repr_any ⟨o, ho, hc⟩ ho hd h1 (fun y u tk hy => ⟨y, u, rfl, .str y, H1, I1.tok _, ⟨_, rfl⟩, q y hy⟩) (by omega))
end
end L2

namespace PySem
namespace ErrX
open PySem.W PySem.Calls PyProof.Rows
section
variable {prog : Program} {w : World} {A : Around} {E : Value → Shared → Prop} {h : Heap} {g : Array GenState} {d : Drawn} {t : Nat} {os : OsState}
variable {nm q : Str} {C N : Addr} {bs bm : List Value} {hdct : Bool} {sn : List Str} {sub : List Value} {ab : Bool} {col : Option Bool} {dd : Option Addr} {k0 k1 k2 k3 k5 : Option Value}
/-- the bound ValueError.__init__ called: the args are laid anew -/
theorem call_mw {u e t0 : Addr} {rest : List Value} {Q : Value → Shared → Prop}
    (hC : h.get? C = some (excClassObj nm q C N bs bm hdct sn sub ab col dd k0 k1 k2 k3 k5 "ValueError.__new__")) (he : h.get? e = some (HandSPX.excO C t0)) (hu : h.get? u = some (kxs_mw "ValueError.__init__" e)) (hrest : rest.length ≤ sizeLine)
    (hq : ∀ h' t1, (∀ b o, b ≠ e → h.get? b = some o → h'.get? b = some o) → h'.get? e = some (HandSPX.excO C t1) → Q .none ⟨h', g, d, t, os⟩) :
    wpAny (model prog w) A (call (.ref u) rest) Q E ⟨h, g, d, t, os⟩ := by
  refine wpAny_call (codeAny_of_tree ?_)
  show wpAny _ A.in1 (callAny (.ref u) ⟨rest, []⟩) _ _ _
  simp only [callAny]
  refine wpAny_bind (wpAny_load hu ?_)
  simp only [kxs_mw, show (Value.type "method-wrapper" == Value.type "method" || Value.type "method-wrapper" == Value.type "builtin_function_or_method" || Value.type "method-wrapper" == Value.type "method-wrapper") = true by decide, if_true]
  refine KFB.if_so (by decide) ?_
  refine wpAny_bind (check_bound_init F.excBase_ValueError.toExcCallFacts hC he rfl ?_)
  refine wpAny_bind (wpAny_pure (wpAny_pure ?_))
  refine ⟨plainId_quiet F.excBase_ValueError.init.plain _, codeAny_builtin F.excBase_ValueError.initEntry ?_⟩
  rw [Around.under_plainId F.excBase_ValueError.init.plain _]
  wp_walk
  refine hq _ h.objs.size (fun b o hb ho => ?_) ?_
  · rw [Heap.get?_update_other _ _ (Ne.symm hb)]
    exact Heap.get?_push_of_some _ ho
  · rw [Heap.get?_update_self _ (Heap.get?_push_of_some _ he) rfl]
    rfl
end
end ErrX
end PySem
namespace L2
open PySem PySem.Spec PyProof.Rows NdefX
/-- what the written part says of an own error class whose __init__ begins with super().__init__(..) -/
structure SupC (P : Program) (K : PySem.W.Frag) (mg : Str → Option Value) (C fI cc cda : Addr) (qual : Str) (params : Arguments) (body : List Stmt) (scope : Scope) : Prop where
  ox : OexC K C
  iC : PySem.W.findIn K (.ref C) "__init__" = some (some (.ref fI))
  tI : PySem.W.typeIn K (.ref fI) = some (.type "function")
  fn : ∃ (oc : Value) (od : Option Addr) (osl : Array (Option Value)) (nm : Str) (kV doc pm ct : Value) (an : Option Addr), K.lookup fI = some ⟨oc, od, .func (PySem.W.fnX nm qual params body scope [("__class__", cc)] .none kV doc pm an (.ref cda) ct), osl⟩
  code : PySem.W.codeIn K (.ref cda) qual = true
  cell : ∃ (cl : Value) (cld : Option Addr) (csl : Array (Option Value)), K.lookup cc = some ⟨cl, cld, .cell (some (.ref C)), csl⟩
  file : ∃ (ccl : Value) (cdd : Option Addr) (vs : Array Value) (ccs : Array (Option Value)) (fl : Str) (tf : Tok), K.lookup cda = some ⟨ccl, cdd, .fields vs, ccs⟩ ∧ vs[2]? = some (.str fl tf) ∧ ((P.main.file : Str) == fl) = true
  sup : mg "super" = none
  top : (P.main.scope.names.lookup ("super" : Str)).isSome = false
  op : PySem.W.nsIn K cStatics "thirdparty.any" = some none
  next : ∃ cd, PySem.W.clsIn K C = some cd ∧ PySem.W.alongIn K "__init__" ((cd.mro.dropWhile (· != .ref C)).drop 1) = some (some (.builtin "ValueError.__init__"))
  self : PySem.W.mroIn K C (.ref C) = some true
  subV : PySem.W.subIn K (.ref C) (.type "ValueError") = some true
theorem boot_super : bootBuiltins "super" = some (.type "super") := by decide +kernel
theorem sup_ok {P : Program} {w : World} {K : PySem.W.Frag} {mg : Str → Option Value} {base : Heap} {C fI cc cda : Addr} {qual : Str} {params : Arguments} {scope : Scope} {k : Nat} {N ps : List Str} {sp : Sp} {e : Expr} {rest : List Stmt} {p0 p1 p2 p3 p4 : Pos} {ar : Arg}
    (T : SupC P K mg C fI cc cda qual params (.Expr (.Call (.Attribute (.Call (.Name "super" p0) [] [] p1) "__init__" p2) [e] [] p3) p4 :: rest) scope) (S : NScope N ps ["__class__"] scope)
    (hps : ps[0]? = some ar.arg) (hpar : (params.posonlyargs ++ params.args).head? = some ar) (hks : scope.names.lookup ("super" : Str) = some NameKind.globalImplicit)
    (hbind : ∀ (nm : Str) (kV doc pm ct : Value) (an : Option Addr) (us : List Value), us.length = ps.length → bindArgs (PySem.W.fnX nm qual params (.Expr (.Call (.Attribute (.Call (.Name "super" p0) [] [] p1) "__init__" p2) [e] [] p3) p4 :: rest) scope [("__class__", cc)] .none kV doc pm an (.ref cda) ct) ⟨us, []⟩ = pure (ps.zip us))
    {pl : Env → Sem Bool} (hev : ∀ env : Env, eval (.Call (.Attribute (.Call (.Name "super" p0) [] [] p1) "__init__" p2) [e] [] p3) env = (do
      let ov ← attributeBase (.Call (.Name "super" p0) [] [] p1) "__init__" env (eval (.Call (.Name "super" p0) [] [] p1) env)
      standAt p2.atName
      let (f, first) ← holding [ov] (getMethod ov "__init__" (pl env))
      callWith p3 f first (backTo p3 (starEach [e] env)) []))
    (hse : ∀ env : Env, starEach [e] env = (false, eval e env) :: starEach [] env)
    (len : ∀ vs H Q E, sp vs H Q E → vs.length = ps.length)
    (hbody : ∀ (A : Around) (outer : List Env) (s : Shared) (H : Hp) (vs : List V) (Q : VK) (E : XK), Room k (A.deeper (envF ⟨"__init__", qual, params, rest, scope, [("__class__", cc)], cda⟩ fI s.heap.objs.size)) → sp vs H Q E →
      ∃ (a : Addr) (vr : List V) (te : TE) (ts : TS), vs = .ref a :: vr ∧ H a = some (exo a C none) ∧
        PE (ncx CX0 P w K mg base N ⟨"__init__", qual, params, rest, scope, [("__class__", cc)], cda⟩ fI A outer s H E) e te ∧ PSs (ncx CX0 P w K mg base N ⟨"__init__", qual, params, rest, scope, [("__class__", cc)], cda⟩ fI A outer s H E) rest ts ∧
        te (startF N vs [some (.ref C)]) H fun _ H1 => H1 a = some (exo a C none) ∧ ts { nx := fun _ H' => Q .non H', rt := Q } (startF N vs [some (.ref C)]) H1) :
    ∃ fd, FnOk P w K mg base CX0 (k + 1) fI fd ps sp ∧ Binds K fd ps [] := by
  obtain ⟨oc, od, osl, nm, kV, doc, pm, ct, an, lk⟩ := T.fn
  obtain ⟨cl, cld, csl, lcell⟩ := T.cell
  obtain ⟨ccl, cdd, cvs, ccs, fl, tf, lcode, hvs, hfile⟩ := T.file
  obtain ⟨cdC, hcd, hal⟩ := T.next
  refine ⟨_, ⟨len, fun A outer s H args us vs Q E hr e0 hb r hsp => ?_⟩, .all (hbind nm kV doc pm ct an)⟩
  have hl := len _ _ _ _ hsp
  have KX : K.In s.heap := e0.mod.kin.keeps fun b o e => (e0.bs b o e).1
  have lim : s.heap.NoLimit := e0.mod.nolimit.keeps fun b o e => (e0.bs b o e).1
  refine PySem.ks_codeAny_call_defAt hr.depth (KX _ _ lk) rfl lim (PySem.W.codeRec_of KX T.code) rfl hb S.nocell (fun x hx => S.par _ (List.of_mem_zip hx).1) (fun h₁ hns kp => ?_) S.co S.gen S.kind
  let F : NF := ⟨"__init__", qual, params, rest, scope, [("__class__", cc)], cda⟩
  have kbase : ∀ {b : Addr} {o : Obj}, K.lookup b = some o → H b = none := fun {b o} q => (e0.bs b o (e0.mod.kin _ _ q)).2
  have CA : CellsAt F.cl ["__class__"] [some (.ref C)] s.heap H := by
    refine ⟨rfl, fun y c q => ?_, fun x y c q1 q2 => ?_, fun i y q => ?_⟩
    · have q2 : y = "__class__" ∧ c = cc := by
        by_cases hy : y = ("__class__" : Str)
        · subst hy
          have q3 : some cc = some c := q
          exact ⟨rfl, (Option.some.inj q3).symm⟩
        · have hy2 : (y == ("__class__" : Str)) = false := by simpa using hy
          have q3 : (match y == ("__class__" : Str) with | true => some cc | false => none) = some c := q
          rw [hy2] at q3
          cases q3
      rw [q2.2]
      exact ⟨kbase lcell, _, _, KX _ _ lcell, rfl⟩
    · have one : ∀ {y : Str}, List.lookup y [(("__class__" : Str), cc)] = some c → y = "__class__" := fun {y} q => by
        by_cases hy : y = ("__class__" : Str)
        · exact hy
        · have hy2 : (y == ("__class__" : Str)) = false := by simpa using hy
          have q3 : (match y == ("__class__" : Str) with | true => some cc | false => none) = some c := q
          rw [hy2] at q3
          cases q3
      rw [one q1, one q2]
    · cases i with
      | zero =>
        have q2 : ("__class__" : Str) = y := Option.some.inj q
        rw [← q2]
        refine ⟨cc, rfl, fun v hv => ?_⟩
        have hv2 : V.ref C = v := Option.some.inj (Option.some.inj hv)
        rw [← hv2]
        exact ⟨.ref C, rfl, _, KX _ _ lcell, rfl⟩
      | succ i =>
        have q2 : (none : Option Str) = some y := by
          rw [← q]
          simp
        cases q2
  have I : Inv (ncx CX0 P w K mg base N F fI A outer s H E) [] (startF N vs [some (.ref C)]) H { s with heap := h₁, toks := s.toks + (ps.zip us).length } := inv_startN S hr.hd e0 hl r CA hns kp
  obtain ⟨a, vr, te, ts, rfl, ha, he, hs, hq⟩ := hbody A outer s H vs Q E (hr.deeper _) hsp
  obtain ⟨t1, ho⟩ := exo_at I.hok ha
  show PySem.wpAt (model P w) (A.deeper (envF F fI s.heap.objs.size)) (.func _ (envF F fI s.heap.objs.size)) (execs _ (envF F fI s.heap.objs.size)) _ _ _
  have hint : interactive (envF F fI s.heap.objs.size) = false := by
    unfold interactive
    rw [show (envF F fI s.heap.objs.size).scope.kind = ScopeKind.function from S.kind]
    rfl
  refine PySem.ks_wpAt_execs_cons (PySem.ks_wpAt_Expr_any (PySem.ks_wpAt_MethodCall (pl := pl (envF F fI s.heap.objs.size)) ?_ (hev _)) hint rfl)
  have hg0 := kp _ _ (KX _ _ lk)
  have hg1 := kp _ _ (KX _ _ lcode)
  have hkc : (envF F fI s.heap.objs.size).kindOf "__class__" = some NameKind.free := S.frk _ List.mem_cons_self
  refine PySem.ks_wpAt_super_base (env := envF F fI s.heap.objs.size) (f := fI) (cc := cda) (oc := ⟨ccl, cdd, .fields cvs, ccs⟩) (hks := hks) (hkc := hkc) (hat := by decide +kernel) (hfu := rfl) (hf := hg0) (hfd := rfl) (hp := hpar) (hco := rfl) (hcc := hg1) (hoc := rfl) (hvs := hvs) (hfile := hfile) (htop := T.top) ?_
  -- super
  obtain ⟨mb, b1, b2⟩ := I.mod.blt
  refine PySem.W.ks_loadName_global (x := "super") S.kind hks (Calls.loadGlobal_builtin (mg := mg) (mb := mb) (v := .type "super") (I.mod.glob.keeps I.bk) T.sup (b1.keeps I.bk) ((b2 _ (by decide +kernel)).trans boot_super) ⟨rfl, ?_⟩)
  have hcc : h₁.IsCell cc (some (.ref C)) := ⟨(⟨cl, cld, .cell (some (.ref C)), csl⟩ : Obj), kp _ _ (KX _ _ lcell), rfl⟩
  refine wpAny_loadName_free (name := "__class__") (c := cc) (v := .ref C) S.kind hkc rfl hcc ?_
  have hx0 : (ps.zip us).reverse.lookup ar.arg = some (Value.ref a) := by
    have ndP : ps.Nodup := by
      have q := S.nd.sublist (List.take_sublist (ps.length + [("__class__" : Str)].length) N)
      rw [S.pre] at q
      exact (List.nodup_append.mp q).1
    obtain ⟨u, hu, rv⟩ := r.get (i := 0) (x := V.ref a) rfl
    have e1 : u = Value.ref a := rv
    rw [e1] at hu
    exact zip_look ndP hps hu
  refine wpAny_loadName_local (v := Value.ref a) S.kind (S.par _ (List.mem_of_getElem? hps)) hns hx0 ?_
  have KX1 : K.In h₁ := fun b o q => kp _ _ (KX _ _ q)
  obtain ⟨oC, hC1, hC2⟩ : ∃ oC, h₁.get? C = some oC ∧ oC.data = .cls cdC := by
    unfold PySem.W.clsIn at hcd
    split at hcd
    · rename_i c d cd' sl q
      cases hcd
      exact ⟨_, KX1 _ _ q, rfl⟩
    · cases hcd
  refine ks_wpAny_isType_cls hC1 hC2 ⟨rfl, ?_⟩
  have hne : a ≠ C := fun z => by
    rw [z] at ho
    have e1 := hC1.symm.trans ho
    cases e1
    cases hC2
  refine ks_wpAny_call_super hC1 hC2 ho rfl (fun c q => by cases q) (PySem.W.looks_mroIn KX1 T.self) (fun h2 so2 k2 => ?_)
  have I2 := ClX.pin_new (t' := s.toks + (ps.zip us).length) I k2 (Nat.le_refl _) so2 (fun v q => by cases q)
  have KX2 : K.In h2 := fun b o q => k2 _ _ (KX1 _ _ q)
  have hI : PySem.W.Looks (model P w) h2 (isInstance (.ref a) (.type "ValueError")) true := by
    have J : PySem.W.InstAt h2 a _ C none := ⟨k2 _ _ ho, rfl, rfl, trivial⟩
    exact J.type.andThen (PySem.W.looks_subIn KX2 T.subV)
  -- .__init__
  refine PySem.W.kxs_getMethod PySem.W.kxs_ValueError so2 (PySem.W.looks_opaque KX2 T.op) (l₀ := cdC.mro) (fun A Q E s k q => wpAny_bind ((PySem.W.looks_clsIn KX2 hcd) A _ E s k (wpAny_pure q))) rfl KX2 hal hI hne (by decide +kernel) ?_
  have I3 := ClX.pin_new (t' := s.toks + (ps.zip us).length + 1) I2 (fun b u q => Heap.get?_push_of_some _ q) (Nat.le_refl _) (Heap.get?_push_size _ rfl) (o := PySem.W.kxs_mw "ValueError.__init__" a) (fun v q => by cases q)
  -- the argument, the call
  have hpl : ((backTo p3 (starEach [e] (envF F fI s.heap.objs.size)))).any (·.1) = false := by
    rw [hse]
    rfl
  refine PySem.W.kxs_callWith (i := "ValueError.__init__") (x := a) (u := h2.objs.size) hpl ?_
  rw [hse]
  refine Calls.evalArgs_plain (Calls.spliced_cons (thn (he.run _ _ _ _ _ I3 hq) fun u4 s4 hv4 => Calls.spliced_nil ?_))
  obtain ⟨v4, H4, I4, r4, ha4, hq4⟩ := hv4
  have hmw := ClX.pin_at I4
  refine ⟨hmw, ?_⟩
  obtain ⟨t4, ho4⟩ := exo_at I4.hok ha4
  obtain ⟨nm', q', N', bs, bm, sn, sub, ab, col, dd, k0, k1, k2', k3, k5, hC, hbm⟩ := T.ox.cls
  have I4' := ClX.unpin (ClX.unpin I4)
  obtain ⟨hp, g, d, t, os⟩ := s4
  refine ErrX.call_mw (C := C) (I4'.kIn _ _ hC) ho4 hmw (by rw [sizeLine_eq]; exact (by decide : 1 ≤ 16777216)) (fun h5 t5 k5' hx5 => ?_)
  have J := I4'.write (t' := t) (x := a) (e := a) (o := exo a C none) (by rw [ha4]; exact True.intro) (.inl rfl) k5' ⟨_, hx5⟩ (exo_ok hx5)
  have eu : upd H4 a (exo a C none) = H4 := by
    funext b
    by_cases hb : b = a
    · rw [hb, upd_same, ha4]
    · rw [upd_ne hb]
  rw [eu] at J
  -- the rest
  refine PySem.wpAt_of_wpAny ?_
  refine wpAny_mono (hs.run [] _ _ _ _ J hq4) (fun fl s' hs => ?_) fun e s' hs => hs
  have fin : ∀ {σ' : L2.St} {H' : Hp} {v : V} {u : Value}, Inv (ncx CX0 P w K mg base N F fI A outer s H E) [] σ' H' s' → L2.RelV v u → Q v H' → CE outer P w H s Q u s' :=
    fun {σ' H' v u} J rv q => ⟨v, H', J.os, J.bare, J.base, J.hok, rv, q⟩
  cases fl with
  | ret u =>
    obtain ⟨v, σ', H', J, rv, q⟩ := hs
    exact fin J rv q
  | next =>
    obtain ⟨σ', H', J, q⟩ := hs
    exact fin (v := V.non) (u := Value.none) J rfl q
  | brk =>
    obtain ⟨_, _, _, q⟩ := hs
    exact False.elim q
  | cont =>
    obtain ⟨_, _, _, q⟩ := hs
    exact False.elim q
end L2
namespace PySem.W
open PySem PySem.Spec PySem.Calls PyProof.Rows
section
variable {prog : Program} {w : World} {A : Around} {E : Value → Shared → Prop} {s : Shared} {K : Frag} {x D : Addr} {ox : Obj}
theorem findObj_dataA {C : Addr} {od : Option Obj} {name : Str} {a g : Value} (hc : (clsIn K C).isSome = true) (ha : findIn K (.ref C) name = some (some a)) (hg : specialIn K a "__get__" = some (some g)) (ht : takesIn K a = some true) : findObj K C od name = some (.bind g a) := by
  obtain ⟨cd, hc⟩ := Option.isSome_iff_exists.mp hc
  unfold findObj
  rw [hc, Option.bind_some, ha, Option.bind_some]
  simp [hg, ht]
theorem kin_classEA {od : Option Obj} {Q : Option Value → Shared → Prop} (hga : findIn K (.ref D) "__getattribute__" = some (some (.builtin "BaseException.__getattribute__"))) (hgt : findIn K (.ref D) "__getattr__" = some none) (hsub : subIn K (.ref D) (.type "BaseException") = some true)
    (hdct : hasDictIn K D = true) (ha : findIn K (.ref D) "__class__" = some (some (.builtin "object.__class__")))
    (hn : specialIn K (.builtin "object.__class__") "__get__" = some (some (.builtin "getset_descriptor.__get__"))) (htk : takesIn K (.builtin "object.__class__") = some true) (hm : mroIn K D (.type "object") = some true)
    (X : K.In s.heap) (I : InstAt s.heap x ox D od) (h : Q (some (.ref D)) { s with toks := s.toks + 1 }) : wpAny (model prog w) A (getAttr? (.ref x) "__class__") Q E s := by
  have hf : findObj K D od "__class__" = some (.bind (.builtin "getset_descriptor.__get__") (.builtin "object.__class__")) := findObj_dataA (by obtain ⟨cd, hc, _⟩ := any_some hdct; rw [hc]; rfl) ha hn htk
  obtain ⟨hp, g, d, t, os⟩ := s
  have L0 := I.type (M := model prog w)
  have L1 := looks_findIn (M := model prog w) X hga
  have L2 := looks_findIn (M := model prog w) X hgt
  have L3 := looks_find (M := model prog w) X I hf
  have sub : Looks (model prog w) hp (isInstance (.ref x) (.type "BaseException")) true := L0.andThen (looks_subIn X hsub)
  have hx0 : (false && onTheHeap (Value.builtin "BaseException.__getattribute__")) = false := rfl
  have hx2 : (Value.builtin "BaseException.__getattribute__" == Value.builtin "object.__getattribute__") = false := by decide +kernel
  have hx1 : (onTheHeap (Value.ref D) && Value.builtin "BaseException.__getattribute__" == Value.builtin "object.__getattribute__") = false := by rw [hx2]; rfl
  unfold getAttr? getAttrBy? getAttrBy
  refine wpAny_bind (wpAny_mkText (wpAny_bind (wpAny_attempt (wpAny_holding (wpAny_bind (L0.at (wpAny_bind (L1.at ?_))))))))
  show wpAny _ _ (if (onTheHeap (Value.ref D) && Value.builtin "BaseException.__getattribute__" == Value.builtin "object.__getattribute__") = true then _ else _) _ _ _
  rw [hx1, if_neg Bool.false_ne_true]
  unfold getAttrByItsOwn hookBefore
  refine wpAny_bind ?_
  rw [if_pos (show onTheHeap (Value.ref D) = true from rfl)]
  refine L2.at ?_
  refine wpAny_bind (wpAny_attempt (wpAny_holding ?_))
  unfold callGetattribute
  rw [hx0, if_neg Bool.false_ne_true]
  unfold boundAndCalled
  rw [PySem.F.excAttr_ValueError.ga.bind (.ref x)]
  refine wpAny_bind (wpAny_pure ?_)
  show wpAny _ _ (call (.builtin "BaseException.__getattribute__") [.ref x, .str "__class__" t]) _ _ _
  refine wpAny_call (codeAny_call_builtin PySem.F.excAttr_ValueError.ga.plain PySem.F.entry_bexc_ga ?_)
  refine @check_slot (model prog w) _ _ ⟨hp, g, d, t + 1, os⟩ "BaseException.__getattribute__" "BaseException" "__getattribute__" (.ref x) [.str "__class__" t] [] _ (by decide +kernel) (by decide +kernel) sub (PySem.F.args_bexc_ga (.ref x) (.str "__class__" t)) ?_
  unfold Builtin.«object.__getattribute__»
  refine wpAny_bind (wpAny_of_eq (a := ((Value.ref x : Value), [Value.str "__class__" t])) (by first | rfl | (simp only [slotArgs]; rfl)) ?_)
  refine wpAny_bind (wpAny_pure (wpAny_bind (L0.at (wpAny_bind (L3.at ?_)))))
  show wpAny _ _ (holding [Value.builtin "object.__class__"] (call (.builtin "getset_descriptor.__get__") [.builtin "object.__class__", .ref x, .ref D]) >>= ret) _ _ _
  refine wpAny_bind (wpAny_holding (wpAny_call (class_get (s := ⟨hp, g, d, t + 1, os⟩) (ox := ox) (od := od) X I hm ?_)))
  refine wpAny_pure ?_
  show wpAny _ _ (handedOut (.ref D)) _ _ _
  rw [handedOut_of (v := .ref D) rfl]
  first
    | exact wpAny_pure (wpAny_pure h)
    | exact wpAny_pure h
    | exact wpAny_pure (wpAny_bind (wpAny_pure (wpAny_pure h)))
theorem kitx_excA {od : Option Obj} (hga : findIn K (.ref D) "__getattribute__" = some (some (.builtin "BaseException.__getattribute__"))) (hgt : findIn K (.ref D) "__getattr__" = some none) (hsub : subIn K (.ref D) (.type "BaseException") = some true) (hdct : hasDictIn K D = true) (ha : findIn K (.ref D) "__class__" = some (some (.builtin "object.__class__")))
    (hn : specialIn K (.builtin "object.__class__") "__get__" = some (some (.builtin "getset_descriptor.__get__"))) (htk : takesIn K (.builtin "object.__class__") = some true) (hm : mroIn K D (.type "object") = some true) :
    KitX K (.ref x) (.ref D) (fun h => InstAt h x ox D od) where
  ty := fun _ _ _ I => I.type
  it := fun _ _ X _ => by
    obtain ⟨cdD, hcD, _⟩ := any_some hdct
    unfold clsIn at hcD
    split at hcD
    · rename_i c' d' cd' sl' ho
      intro A' Q' E' s' k q
      unfold isType loadHead
      exact wpAny_bind (wpAny_loadPart (k _ _ (X _ _ ho)) (wpAny_pure q))
    · cases hcD
  ne := fun h tp dd its n sl X htp => by
    obtain ⟨cdD, hcD, _⟩ := any_some hdct
    refine Bool.eq_false_iff.mpr fun q => ?_
    have e : D = tp := Value.ref.inj (beq_iff_eq.mp q)
    subst e
    unfold clsIn at hcD
    split at hcD
    · rename_i c' d' cd' sl' ho
      have z := (X _ _ ho).symm.trans htp
      cases z
    · cases hcD
  ca := fun X I k => kin_classEA hga hgt hsub hdct ha hn htk hm X I k
end
end PySem.W

namespace L2
open PySem PySem.Spec PyProof.Rows
/-- C(e, ..) as a value: C's own __init__ keeping sp -/
def tMkV (C : Addr) (sp : Sp) (ta : TA) : TE := fun σ H Q => ta σ H fun vs H1 => vs.length ≤ 1000 ∧ ∀ a, H1 a = none → sp (.ref a :: vs) (upd H1 a (exo a C none)) (fun v H2 => v = .non ∧ Q (.ref a) H2) (fun _ _ _ => False)
section
variable {X : Cx} {e : Expr} {es : List Expr} {te : TE} {ta : TA} {p pos : Pos}
theorem run_mkv {CX : CXT} {C fI : Addr} {k : Nat} {fd : FuncData} {ps : List Str} {sp : Sp} {pins : List (Addr × Obj)} {σ : St} {H1 : Hp} {s1 : Shared} {us : List Value} {vs : List V} {Q : VK} (T : OexC X.K C) (iC : PySem.W.findIn X.K (.ref C) "__init__" = some (some (.ref fI))) (tI : PySem.W.typeIn X.K (.ref fI) = some (.type "function"))
    (F1 : FnOk X.prog X.w X.K X.mg X.base CX k fI fd ps sp) (hr : Room (k + 1) X.A) (hb : Binds X.K fd ps []) (hx : Passes CX X (fun _ _ _ => False)) (I1 : Inv X pins σ H1 s1) (r1 : Vals vs us) (hz : vs.length ≤ 1000)
    (q1 : ∀ a, H1 a = none → sp (.ref a :: vs) (upd H1 a (exo a C none)) (fun v H2 => v = .non ∧ Q (.ref a) H2) (fun _ _ _ => False)) :
    wpAny (model X.prog X.w) X.A (call (.ref C) us) (EP X pins σ Q) X.xe s1 := by
  obtain ⟨nm, q, N, bs, bm, sn, sub, ab, col, dd, k0, k1, k2, k3, k5, hC, hbm⟩ := T.cls
  obtain ⟨hp, g, dr, tk, os⟩ := s1
  have hsz : hp.objs.size ≤ hp.objs.size + 1 := Nat.le_succ _
  have hn : H1 (hp.objs.size + 1) = none := I1.hok.fresh hsz
  have hq := q1 (hp.objs.size + 1) hn
  have kk : ∀ b o, hp.get? b = some o → ((hp.push (PySem.W.kdv_tup us)).push (PySem.HandSPX.excO C hp.objs.size)).get? b = some o := fun b o e => Heap.get?_push_of_some _ (Heap.get?_push_of_some _ e)
  have hget : ((hp.push (PySem.W.kdv_tup us)).push (PySem.HandSPX.excO C hp.objs.size)).get? (hp.objs.size + 1) = some (PySem.HandSPX.excO C hp.objs.size) := by heap_get
  have I2 : Inv X pins σ (upd H1 (hp.objs.size + 1) (exo (hp.objs.size + 1) C none)) ⟨(hp.push (PySem.W.kdv_tup us)).push (PySem.HandSPX.excO C hp.objs.size), g, dr, tk, os⟩ :=
    I1.laid (t' := tk) (a := hp.objs.size + 1) (o := exo (hp.objs.size + 1) C none) (h' := (hp.push (PySem.W.kdv_tup us)).push (PySem.HandSPX.excO C hp.objs.size)) kk hsz (exo_ok hget)
  have r2 : Vals (V.ref (hp.objs.size + 1) :: vs) (Value.ref (hp.objs.size + 1) :: us) := .cons rfl r1
  have hl : (Value.ref (hp.objs.size + 1) :: us).length = ps.length := by
    have e := r2.length
    rw [F1.len _ _ _ _ hq] at e
    exact e.symm
  have hus : us.length ≤ sizeLine := by
    rw [← Paired.length r1, sizeLine_eq]
    omega
  refine wpAny_call (PySem.HandSPX.call_own F.excBase_ValueError (fun Y => PySem.HandSPX.refsVE_contains Y bm hbm) (I1.kIn _ _ hC) (PySem.W.looks_findIn I1.kIn iC) (fun self => PySem.W.bind_fn I1.kIn self tI) hus
    (codeAny_mono (F1.run _ X.stack _ _ ⟨Value.ref (hp.objs.size + 1) :: us, []⟩ (Value.ref (hp.objs.size + 1) :: us) _ _ (fun _ _ _ => False) (hr.make C us []) (I2.env0.make C us []) (by
      have z := hb ⟨(hp.push (PySem.W.kdv_tup us)).push (PySem.HandSPX.excO C hp.objs.size), g, dr, tk, os⟩ (Value.ref (hp.objs.size + 1) :: us) I2.kIn (by rw [List.append_nil]; exact hl)
      rw [List.append_nil] at z
      exact z) r2 hq) fun r s' hq' => ?_))
  cases r with
  | error er => exact hx pins σ _ _ er s' I2 hq'
  | ok fl =>
    cases fl with
    | ret u =>
      obtain ⟨v, H2, os2, bare2, un2, hok2, rv, ev, q2⟩ := hq'
      subst ev
      exact ⟨rv, .ref (hp.objs.size + 1), _, I2.call' (ch := []) os2 un2 hok2 bare2 (fun b z => absurd z (by simp)), rfl, q2⟩
    | next => exact False.elim hq'
    | brk => exact False.elim hq'
    | cont => exact False.elim hq'
theorem pe_mkv {CX : CXT} {x : Str} {C fI : Addr} {k : Nat} {fd : FuncData} {ps : List Str} {sp : Sp} (T : OexC X.K C) (iC : PySem.W.findIn X.K (.ref C) "__init__" = some (some (.ref fI))) (tI : PySem.W.typeIn X.K (.ref fI) = some (.type "function"))
    (F1 : FnOk X.prog X.w X.K X.mg X.base CX k fI fd ps sp) (hr : Room (k + 1) X.A) (hb : Binds X.K fd ps []) (hx : Passes CX X (fun _ _ _ => False)) (hg : Gl X x) (hm : X.mg x = some (.ref C)) (ha : PA X (e :: es) ta)
    (hdb : (x == ("__debug__" : Str)) = false := by decide) (he : starEach (e :: es) X.env = (false, eval e X.env) :: starEach es X.env := by rfl) (hpl : (backTo pos (starEach es X.env)).any (·.1) = false := by rfl) :
    PE X (.Call (.Name x p) (e :: es) [] pos) (tMkV C sp ta) := by
  refine ⟨fun pins s σ H Q I h => ?_⟩
  refine wpAny_Call_Name_kw (ld_glob I hg hm ?_ hdb)
  refine PySem.W.callWith_K (h₀ := X.base) I.ok.mod.kin T.kC (thn (ha.run pos pins s σ H _ I h) fun us s1 ⟨vs, H1, I1, r1, hz, q1⟩ => ⟨I1.kIn, ?_⟩) he hpl
  exact run_mkv T iC tI F1 hr hb hx I1 r1 hz q1
theorem pe_mkv0 {CX : CXT} {x : Str} {C fI : Addr} {k : Nat} {fd : FuncData} {ps : List Str} {sp : Sp} (T : OexC X.K C) (iC : PySem.W.findIn X.K (.ref C) "__init__" = some (some (.ref fI))) (tI : PySem.W.typeIn X.K (.ref fI) = some (.type "function"))
    (F1 : FnOk X.prog X.w X.K X.mg X.base CX k fI fd ps sp) (hr : Room (k + 1) X.A) (hb : Binds X.K fd ps []) (hx : Passes CX X (fun _ _ _ => False)) (hg : Gl X x) (hm : X.mg x = some (.ref C))
    (hdb : (x == ("__debug__" : Str)) = false := by decide) : PE X (.Call (.Name x p) [] [] pos) (tMkV C sp tNil) := by
  refine ⟨fun pins s σ H Q I h => ?_⟩
  refine wpAny_Call_Name_kw (ld_glob I hg hm ?_ hdb)
  obtain ⟨hz, q1⟩ := h
  exact PySem.W.callWith_K0 I.kIn T.kC (run_mkv T iC tI F1 hr hb hx I .nil hz q1)
/-- e.f, e an exception that is a value -/
def tXv (K : PySem.W.Frag) (f : Str) (te : TE) : TE := fun σ H Q => te σ H fun x H1 => ∃ (a C d : Addr) (fs : List (Str × V)) (v : V), x = .ref a ∧ XfC K C ∧ PySem.W.findIn K (.ref C) f = some none ∧ H1 a = some (exo a C (some d)) ∧ H1 d = some (exd d fs) ∧ fs.lookup f = some v ∧ Q v H1
theorem pe_xv {f : Str} (he : PE X e te) (hb : attributeBase e f X.env (eval e X.env) = eval e X.env := by rfl) : PE X (.Attribute e f pos) (tXv X.K f te) := by
  refine ⟨fun pins s σ H Q I h => ?_⟩
  refine attr_of hb (thn (he.run pins s σ H _ I h) fun u s1 hh => ?_)
  obtain ⟨x, H1, I1, rx, a, C, d, fs, v, ex, T, hno, ea, ed, l, q⟩ := hh
  subst ex
  obtain rfl : u = Value.ref a := rx
  obtain ⟨t1, ho⟩ := exo_at I1.hok ea
  obtain ⟨mA, hns, hr⟩ := exd_at I1.hok ed
  obtain ⟨od, hod, hl⟩ := lookIn_ns hns
  obtain ⟨u, hu, ru⟩ := RelO.some_of (v := v) (o := mA f) (by rw [← l]; exact hr f)
  have J : PySem.W.InstAt s1.heap a _ C (some od) := ⟨ho, rfl, rfl, hod⟩
  exact HandSPX.exc_get I1.kIn J T.ga T.gg T.exC (PySem.W.findObj_own T.hdC hno rfl (by rw [hl, hu])) (handed_of ru) ⟨v, H1, I1.tok _, ru, q⟩
/-- isinstance(e, C), e an exception that is a value -/
def rIsV (K : PySem.W.Frag) : List V → Hp → VK → Prop := fun xs H Q => ∃ (a D : Addr) (dd : Option Addr) (c : V) (cv : Value) (b : Bool), xs = [.ref a, c] ∧ H a = some (exo a D dd) ∧ (∀ d, dd = some d → ∃ fs, H d = some (exd d fs)) ∧ ExcC K D ∧ (∀ u, RelV c u → u = cv) ∧ PySem.W.kitOne K (.ref D) cv = some b ∧ Q (.bl b) H
theorem call_isV : CallR X (.builtin "isinstance") (rIsV X.K) := by
  intro pins s σ H xs us Q I r h
  obtain ⟨a, D, dd, c, cv, b, rfl, ea, hd, C, hcv, e, q⟩ := h
  cases r with
  | cons rx rr =>
    cases rr with
    | cons rt rr =>
      cases rr
      cases rx
      have ec := hcv _ rt
      subst ec
      obtain ⟨t1, ho⟩ := exo_at I.hok ea
      have J : ∃ od, PySem.W.InstAt s.heap a { cls := .ref D, dict := dd, data := .fields #[.ref t1, .none, .none, .none, .bool false, .none] } D od := by
        cases dd with
        | none => exact ⟨none, ho, rfl, rfl, trivial⟩
        | some d =>
          obtain ⟨fs, hfs⟩ := hd d rfl
          obtain ⟨mA, hns, _⟩ := exd_at I.hok hfs
          obtain ⟨od, hod, _⟩ := lookIn_ns hns
          exact ⟨some od, ho, rfl, rfl, hod⟩
      obtain ⟨od, J⟩ := J
      exact PySem.W.kia_one (PySem.W.kitx_excA C.hg C.hk C.hs C.hd C.ha C.hn C.ht C.hm) I.kIn J e (fun z => nomatch z) fun tk => ⟨.bl b, H, I.kept (t' := tk) fun _ _ z => z, rfl, q⟩
end
end L2
namespace K00
open PySem PySem.Spec PyProof.Rows L2
def top (i : Nat) : Stmt := PySem.Challenge.pw_handsroom_k00_names_and_words.main.body.getD i (.Pass ⟨0, 0, 0, 0⟩)
abbrev FnP (K : PySem.W.Frag) (x : Str) (st : Stmt) (f : Addr) (fd : FuncData) : Prop := FunD K x x (defArgs st) (defBody st) (defScope st) [] [] f fd
abbrev sDraws : Stmt := top 37
abbrev sNext : Stmt := top 38
theorem scD : FnScope ["_law_script", "_law_draws_here", "_law_place", "_law_cell", "_law_number", "_law_turn", "_law_mixed"] ["_law_script"] (defScope sDraws) := ⟨rfl, rfl, rfl, by decide +kernel, rfl, by decide +kernel, by decide +kernel⟩
theorem scN : FnScope ["_law_draws_here", "_law_many"] ["_law_draws_here", "_law_many"] (defScope sNext) := ⟨rfl, rfl, rfl, by decide +kernel, rfl, by decide +kernel, by decide +kernel⟩
theorem upd_self {H : Hp} {p : Addr} {o : HO} (h : H p = some o) : upd H p o = H := by
  funext b
  by_cases e : b = p
  · rw [e, upd_same, h]
  · rw [upd_ne e]
theorem for_enum {K : PySem.W.Frag} {a : Addr} {xs : List V} {g : TG} {tb : TS} {D : Ends} {σ : L2.St} {H : Hp} (Pv : Nat → L2.St → Hp → Prop) (h0 : Pv 0 σ H) (hl : ∀ i σ H, i ≤ xs.length → Pv i σ H → SqL K H a xs)
    (hs : ∀ (i : Nat) x σ H T, xs[i]? = some x → Pv i σ H → H T = none → g (.ref T) σ (upd H T (.tup [.int (i : Nat), x])) fun σ2 H2 => tb { D with nx := Pv (i + 1), ct := Pv (i + 1), bk := D.nx } σ2 H2) (hd : ∀ σ H, Pv xs.length σ H → D.nx σ H) :
    ∃ W : Nat → Nat → L2.St → Hp → Prop, (∃ m, W 0 m σ H) ∧ ∀ i m σ H, W i m σ H →
      ((Ite K a).stop i H ∧ D.nx σ H) ∨ ((Ite K a).go i H ∧ ∃ N : L2.St → Hp → Prop, (∀ σ' H', N σ' H' → ∃ m', m' < m ∧ W (i + 1) m' σ' H') ∧ ∀ x H', (Ite K a).yld i H x H' → g x σ H' fun σ2 H2 => tb { D with nx := N, ct := N, bk := D.nx } σ2 H2) := by
  refine ⟨fun i m σ H => m = xs.length - i ∧ i ≤ xs.length ∧ Pv i σ H, ⟨xs.length, by simp, Nat.zero_le _, h0⟩, ?_⟩
  rintro i m σ H ⟨rfl, hi, p⟩
  have q := hl i σ H hi p
  by_cases hlt : i < xs.length
  · refine .inr ⟨⟨xs, xs[i], q, by simp [hlt]⟩, Pv (i + 1), fun σ' H' p' => ⟨xs.length - (i + 1), by omega, rfl, hlt, p'⟩, fun x H' y => ?_⟩
    obtain ⟨T, z, rfl, nT, rfl, f⟩ := y
    exact hs i z σ H T (f xs q) p nT
  · have e : i = xs.length := by omega
    subst e
    exact .inl ⟨⟨xs, q, Nat.le_refl _⟩, hd σ H p⟩
theorem same_upd {H : Hp} {p : Addr} {o : HO} (h : H p = none) : Same H (upd H p o) := fun b x e => by
  rw [upd_ne (ne_of_none e h)]
  exact e
/-- what stood stays while an object that was new is changed -/
theorem Same.put {H H3 : Hp} {p : Addr} {o : HO} (s : Same H H3) (h : H p = none) : Same H (upd H3 p o) := fun b x e => by
  rw [upd_ne (ne_of_none e h)]
  exact s b x e
section
variable {P : Program} {w : World} {K : PySem.W.Frag} {mg : Str → Option Value} {base : Heap}
/-! ### the next draw -/
def spNext : Sp := fun vs H Q _ => ∃ (p : Addr) (zs : List Int) (m : Int), vs = [.ref p, .int m] ∧ H p = some (.lst (zs.map V.int)) ∧ 0 < m ∧ ∀ (r : Int) (ys : List Int), 0 ≤ r → r < m → ys.length ≤ zs.length → Q (.int r) (upd H p (.lst (ys.map V.int)))
theorem ok_next {f : Addr} {fd : FuncData} (F : FnP K "_law_next" sNext f fd) (ml : mg "len" = none) (mi : mg "int" = none) : FnOk P w K mg base CX0 1 f fd ["_law_draws_here", "_law_many"] spNext := by
  refine F.ok scN (fun vs H Q E h => ?_) (fun cdv A outer s H vs Q E hr h => ?_)
  · obtain ⟨p, zs, m, rfl, _⟩ := h
    rfl
  · obtain ⟨p, zs, m, rfl, hp, hm, q⟩ := h
    refine ⟨_, PSs.nox (pss_cons (ps_if (pt_cmpR op_eq (pe_callB call_len_seq (by rfl) ml PySem.boot_len (pa_cons (pv 0) pa_nil)) pe_int (nomark _)) (pss_one (ps_ret pe_int)) pss_nil)
      (pss_one (ps_ret (pe_op op_modN (pe_callTy call_int1 (by rfl) mi (by decide +kernel) (pa_cons (pe_bm PySem.F.plainAttrs_list PySem.F.slot_list_pop PySem.F.type_list_pop mt_popAt (pv 0) (pa_cons pe_int pa_nil)) pa_nil)) (pv 1))))), ?_⟩
    refine ⟨.ref p, rfl, p, zs.map V.int, rfl, .inl (SqL.of hp), rfl, _, rfl, ite2 (fun e => ?_) (fun e => ?_)⟩
    · have z := q 0 zs (Int.le_refl _) hm (Nat.le_refl _)
      rw [upd_self hp] at z
      exact z
    · cases zs with
      | nil => exact absurd (decide_eq_true rfl) e
      | cons z zs =>
        refine ⟨.ref p, rfl, .inl ⟨rfl, _, SqL.of hp⟩, p, _, 0, 0, .int z, rfl, rfl, hp, by decide, by decide, ?_, rfl, .inl ⟨z, rfl, .int m, rfl, z, m, rfl, rfl, by omega, ?_⟩⟩
        · exact seqIndex?_zero (by rw [List.length_map, List.length_cons]; omega)
        · exact q _ zs (Int.fmod_nonneg_of_pos _ hm) (Int.fmod_lt_of_pos _ hm) (Nat.le_succ _)
/-! ### all draws -/
def spDraws (K : PySem.W.Frag) : Sp := fun vs H Q _ => ∃ (a : Addr) (ns : List Int), vs = [.ref a] ∧ SqL K H a (ns.map V.int) ∧ ∀ (H' : Hp) (p : Addr) (zs : List Int), Same H H' → H p = none → H' p = some (.lst (zs.map V.int)) → zs.length ≤ 600 → Q (.ref p) H'
theorem cut_ints (ns : List Int) (lo hi : Option Int) : ∃ ms : List Int, cutV (ns.map V.int) lo hi = ms.map V.int := by
  unfold cutV
  rw [← List.map_drop, ← List.map_take]
  exact ⟨_, rfl⟩
/-- the frame of _law_draws between two turns: the list at p holds the draws -/
def DrS (H : Hp) (a p c : Addr) (ms : List Int) (σ : L2.St) (H3 : Hp) : Prop :=
  ∃ (y2 y3 y4 y5 y6 : Option V) (zs : List Int), σ = [some (.ref a), some (.ref p), y2, y3, y4, y5, y6] ∧ Same H H3 ∧ H3 c = some (.lst (ms.map V.int)) ∧ H3 p = some (.lst (zs.map V.int)) ∧ zs.length ≤ 600
/-- .. within a turn: the number, the mixed number -/
def DrI (H : Hp) (a p c : Addr) (ms : List Int) (σ : L2.St) (H3 : Hp) : Prop :=
  ∃ (y2 y3 y5 y6 : Option V) (n : Int) (zs : List Int), σ = [some (.ref a), some (.ref p), y2, y3, some (.int n), y5, y6] ∧ Same H H3 ∧ H3 c = some (.lst (ms.map V.int)) ∧ H3 p = some (.lst (zs.map V.int)) ∧ zs.length ≤ 600
def DrJ (H : Hp) (a p c : Addr) (ms : List Int) (σ : L2.St) (H3 : Hp) : Prop :=
  ∃ (y2 y3 y5 : Option V) (n m : Int) (zs : List Int), σ = [some (.ref a), some (.ref p), y2, y3, some (.int n), y5, some (.int m)] ∧ Same H H3 ∧ H3 c = some (.lst (ms.map V.int)) ∧ H3 p = some (.lst (zs.map V.int)) ∧ zs.length ≤ 600
theorem map_snoc (zs : List Int) (v : Int) : zs.map V.int ++ [V.int v] = (zs ++ [v]).map V.int := by rw [List.map_append]; rfl
theorem app_ok {H H5 : Hp} {p c : Addr} {zs : List Int} {o : HO} (sm : Same H H5) (ec : H5 c = some o) (np : H p = none) (ncp : p ≠ c) (hl : zs.length < 600) (v : Int) :
    Same H (upd H5 p (.lst (zs.map V.int ++ [V.int v]))) ∧ upd H5 p (.lst (zs.map V.int ++ [V.int v])) c = some o ∧ upd H5 p (.lst (zs.map V.int ++ [V.int v])) p = some (.lst ((zs ++ [v]).map V.int)) ∧ (zs ++ [v]).length ≤ 600 := by
  refine ⟨Same.put sm np, ?_, ?_, ?_⟩
  · rw [upd_ne ncp.symm]
    exact ec
  · rw [upd_same, map_snoc]
  · rw [List.length_append, List.length_singleton]
    omega
theorem ok_draws {f : Addr} {fd : FuncData} (F : FnP K "_law_draws" sDraws f fd) (me : mg "enumerate" = none) (ma : mg "abs" = none) (mi : mg "int" = none) (mr : mg "range" = none) (ml : mg "len" = none) : FnOk P w K mg base CX0 1 f fd ["_law_script"] (spDraws K) := by
  refine F.ok scD (fun vs H Q E h => ?_) (fun cdv A outer s H vs Q E hr h => ?_)
  · obtain ⟨a, ns, rfl, _⟩ := h
    rfl
  · obtain ⟨a, ns, rfl, hS, q⟩ := h
    refine ⟨_, PSs.nox (pss_cons (ps_set (i := 1) scD.nd rfl (.inl rfl) (pe_lst pa_nil))
      (pss_cons (ps_for PassesOwn.never rfl (pi_enum (by rfl) me (pa_cons (pe_slice sl_list (pv 0) po_none (po_some pe_int)) pa_nil))
          (pg_tup rfl (pgs_cons (pg_name (i := 2) scD.nd rfl (.inl rfl)) (pgs_cons (pg_name (i := 3) scD.nd rfl (.inl rfl)) pgs_nil)))
        (pss_cons (ps_set (i := 4) scD.nd rfl (.inl rfl) (pe_op op_add (pe_op op_mul pe_int (pe_callB call_abs (by rfl) ma (by decide +kernel) (pa_cons (pv 3) pa_nil))) (pe_callTy call_int1 (by rfl) mi (by decide +kernel) (pa_cons (pe_cmpR op_lt (pv 3) pe_int (nomark _)) pa_nil))))
        (pss_one (ps_if (pt_cmpR op_ge (pv 4) (pe_op op_mul pe_int (pe_op op_pow pe_int pe_int)) (nomark _))
          (pss_one (ps_for PassesOwn.never rfl (pi_range1 rfl mr (pa_cons pe_int pa_nil)) (pg_name (i := 5) scD.nd rfl (.inl rfl))
            (pss_one (ps_if (PW.pt (pw_and (pt_cmpR op_gt (pv 4) pe_int (nomark _)) (pw_and1 (pt_cmpR op_lt (pe_callB call_len_seq (by rfl) ml PySem.boot_len (pa_cons (pv 1) pa_nil)) pe_int (nomark _)))))
              (pss_cons (ps_expr (pe_bm PySem.F.plainAttrs_list PySem.F.slot_list_append PySem.F.type_list_append mt_append (pv 1) (pa_cons (pe_op op_mod (pe_callTy call_int1 (by rfl) mi (by decide +kernel) (pa_cons (pv 4) pa_nil)) pe_int) pa_nil)))
                (pss_one (ps_set (i := 4) scD.nd rfl (.inl rfl) (pe_op op_fdiv (pv 4) pe_int)))) pss_nil))))
          (pss_cons (ps_set (i := 6) scD.nd rfl (.inl rfl) (pe_op op_mod (pe_callTy call_int1 (by rfl) mi (by decide +kernel) (pa_cons (pe_op op_add (pe_op op_add (pe_op op_mul (pv 4) pe_int) (pe_op op_mul (pv 2) pe_int)) pe_int) pa_nil)) pe_int))
            (pss_one (ps_for PassesOwn.never rfl (pi_range1 rfl mr (pa_cons pe_int pa_nil)) (pg_name (i := 5) scD.nd rfl (.inl rfl))
              (pss_cons (ps_set (i := 6) scD.nd rfl (.inl rfl) (pe_op op_mod (pe_callTy call_int1 (by rfl) mi (by decide +kernel) (pa_cons (pe_op op_add (pe_op op_add (pe_op op_mul (pv 6) pe_int) (pe_op op_mul (pv 4) pe_int)) (pv 5)) pa_nil)) pe_int))
              (pss_one (ps_if (pt_cmpR op_lt (pe_callB call_len_seq (by rfl) ml PySem.boot_len (pa_cons (pv 1) pa_nil)) pe_int (nomark _))
                (pss_one (ps_expr (pe_bm PySem.F.plainAttrs_list PySem.F.slot_list_append PySem.F.type_list_append mt_append (pv 1) (pa_cons (pe_op op_fdiv (pv 6) pe_int) pa_nil)))) pss_nil))))))))))
      (pss_one (ps_ret (pv 1))))), ?_⟩
    obtain ⟨ms, ems⟩ := cut_ints ns none (some 63)
    refine ⟨Nat.zero_le _, fun p np => ?_⟩
    have s1 : Same H (upd H p (.lst [])) := same_upd np
    refine ⟨.ref a, rfl, 63, rfl, a, ns.map V.int, rfl, s1.seq hS, fun c nc => ?_⟩
    have ncp : p ≠ c := fun e => by
      rw [← e, upd_same] at nc
      cases nc
    have nc0 : H c = none := s1.free nc
    rw [ems]
    refine ⟨c, ms.map V.int, rfl, SqL.of upd_same, for_enum (K := K) (a := c) (xs := ms.map V.int) (fun _ σ H3 => DrS H a p c ms σ H3) ⟨none, none, none, none, none, [], rfl, (Same.put s1 nc0), upd_same, ?_, by decide⟩ (fun i σ H3 _ ⟨_, _, _, _, _, _, _, _, ec, _⟩ => SqL.of ec) ?_ ?_⟩
    · rw [upd_ne ncp, upd_same]
      rfl
    · rintro i x σ H3 T hx ⟨y2, y3, y4, y5, y6, zs, rfl, sm, ec, ep, hz⟩ nT
      obtain ⟨z, rfl⟩ : ∃ z, x = V.int z := by
        rw [List.getElem?_map] at hx
        cases e : ms[i]? with
        | none =>
          rw [e] at hx
          cases hx
        | some z =>
          rw [e] at hx
          exact ⟨z, (Option.some.inj hx).symm⟩
      refine ⟨T, [.int (i : Nat), .int z], rfl, .inl (.inl upd_same), rfl, .int (i : Nat), [.int z], rfl, .int z, [], rfl, rfl, ?_⟩
      have sm4 : Same H (upd H3 T (.tup [.int (i : Nat), .int z])) := sm.trans (same_upd nT)
      have ec4 : (upd H3 T (.tup [.int (i : Nat), .int z])) c = some (.lst (ms.map V.int)) := by rw [upd_ne (ne_of_none ec nT)]; exact ec
      have ep4 : (upd H3 T (.tup [.int (i : Nat), .int z])) p = some (.lst (zs.map V.int)) := by rw [upd_ne (ne_of_none ep nT)]; exact ep
      generalize upd H3 T (.tup [.int (i : Nat), .int z]) = H4 at sm4 ec4 ep4
      refine ⟨.int z, rfl, z, rfl, 2, _, rfl, rfl, .inl ⟨by decide, by decide⟩, .int z, rfl, z, 0, rfl, rfl, .inr ⟨_, rfl, _, _, rfl, rfl, ?_⟩⟩
      refine ⟨_, rfl, 10, 18, rfl, rfl, ⟨by decide, by decide, by decide⟩, 2, _, rfl, rfl, .inl ⟨by decide, by decide⟩, _, _, rfl, rfl, _, rfl, ite2 (fun _ => ?_) (fun _ => ?_)⟩
      · -- for turn in range(60)
        refine ⟨60, rfl, by decide, by decide, for_range (n := 60) (fun _ σ H5 => DrI H a p c ms σ H5) ⟨_, _, _, _, _, zs, rfl, sm4, ec4, ep4, hz⟩ ?_ ?_⟩
        · rintro k σ H5 _ ⟨z2, z3, z5, z6, n5, zs5, rfl, sm5, ec5, ep5, hz5⟩
          refine ⟨.int n5, rfl, n5, 0, rfl, rfl, _, rfl, ite2 (fun _ => ?_) (fun _ => ?_)⟩
          · refine ⟨.ref p, rfl, p, _, rfl, .inl (SqL.of ep5), _, _, rfl, rfl, _, rfl, ite2 (fun hl => ?_) (fun _ => ?_)⟩
            · have hl5 : zs5.length < 600 := by
                have := of_decide_eq_true hl
                rw [List.length_map] at this
                omega
              refine ⟨.ref p, rfl, .inl ⟨rfl, _, SqL.of ep5⟩, .int n5, rfl, .inl ⟨n5, rfl, n5, 720, rfl, rfl, (by show (0 : Int) < 720; decide), p, _, _, rfl, rfl, ep5, small1000 (by rw [List.length_map]; omega), ?_⟩⟩
              refine ⟨.int n5, rfl, n5, 720, rfl, rfl, ⟨by decide, by decide⟩, z2, z3, _, z6, _, zs5 ++ [n5 % 720], rfl, app_ok sm5 ec5 np ncp hl5 _⟩
            · exact ⟨z2, z3, _, z6, n5, zs5, rfl, sm5, ec5, ep5, hz5⟩
          · exact ⟨z2, z3, _, z6, n5, zs5, rfl, sm5, ec5, ep5, hz5⟩
        · rintro σ H5 ⟨z2, z3, z5, z6, n5, zs5, rfl, sm5, ec5, ep5, hz5⟩
          exact ⟨_, _, _, _, _, zs5, rfl, sm5, ec5, ep5, hz5⟩
      · -- the mixed number, for turn in range(6)
        refine ⟨_, rfl, _, 48271, rfl, rfl, .inr ⟨by decide, by decide⟩, _, rfl, _, 7919, rfl, rfl, .inr ⟨by decide, by decide⟩, _, _, rfl, rfl, _, _, rfl, rfl, .inl ⟨_, rfl, _, 2147483647, rfl, rfl, (by show (0 : Int) < 2147483647; decide), ?_⟩⟩
        refine ⟨6, rfl, by decide, by decide, for_range (n := 6) (fun _ σ H5 => DrJ H a p c ms σ H5) ⟨_, _, _, _, _, zs, rfl, sm4, ec4, ep4, hz⟩ ?_ ?_⟩
        · rintro k σ H5 _ ⟨z2, z3, z5, n5, m5, zs5, rfl, sm5, ec5, ep5, hz5⟩
          refine ⟨_, rfl, _, 69621, rfl, rfl, .inr ⟨by decide, by decide⟩, _, rfl, _, 31, rfl, rfl, .inr ⟨by decide, by decide⟩, _, _, rfl, rfl, _, rfl, _, _, rfl, rfl, .inl ⟨_, rfl, _, 2147483629, rfl, rfl, (by show (0 : Int) < 2147483629; decide), ?_⟩⟩
          refine ⟨.ref p, rfl, p, _, rfl, .inl (SqL.of ep5), _, _, rfl, rfl, _, rfl, ite2 (fun hl => ?_) (fun _ => ?_)⟩
          · have hl5 : zs5.length < 600 := by
              have := of_decide_eq_true hl
              rw [List.length_map] at this
              omega
            refine ⟨.ref p, rfl, .inl ⟨rfl, _, SqL.of ep5⟩, _, rfl, _, 127, rfl, rfl, ⟨by decide, by decide⟩, p, _, _, rfl, rfl, ep5, small1000 (by rw [List.length_map]; omega), ?_⟩
            exact ⟨z2, z3, _, _, _, zs5 ++ [_], rfl, app_ok sm5 ec5 np ncp hl5 _⟩
          · exact ⟨z2, z3, _, _, _, zs5, rfl, sm5, ec5, ep5, hz5⟩
        · rintro σ H5 ⟨z2, z3, z5, n5, m5, zs5, rfl, sm5, ec5, ep5, hz5⟩
          exact ⟨_, _, _, _, _, zs5, rfl, sm5, ec5, ep5, hz5⟩
    · rintro σ H3 ⟨y2, y3, y4, y5, y6, zs, rfl, sm, ec, ep, hz⟩
      exact ⟨.ref p, rfl, q H3 p zs sm np ep hz⟩
end
end K00
namespace K00
open PySem PySem.Spec PyProof.Rows L2
abbrev sIs : Stmt := top 6
abbrev sDue : Stmt := top 41
def lets : Str := "abcdefghijklmnopqrstuvwxyz"
def digs : Str := "0123456789"
def RES : List Str := ["lock", "kind", "body", "routine", "done", "do", "with", "block", "either", "or", "repeat", "close", "drop", "give", "skip", "make", "copy", "fetch", "read", "keep", "write", "put", "call", "take", "as"]
def okc (c : Nat) : Bool := decide (c ∈ lets.cps.toList) || decide (c ∈ digs.cps.toList)
def headOk (s : Str) : Bool := match s.cps[0]? with
  | some c => decide (c ∈ lets.cps.toList)
  | none => false
def isName (s : Str) : Bool := (decide (1 ≤ s.length) && decide (s.length ≤ 8)) && (headOk s && !inV (.str s) (RES.map V.str) && s.cps.toList.all okc)
theorem RES_flat : (RES.map V.str).all flatV = true := by decide +kernel
/-- a value that is_name is asked of, and what it answers -/
inductive Ask (H : Hp) : V → Bool → Prop where
  | str (s : Str) (h : s.length ≤ 1000) : Ask H (.str s) (isName s)
  | non : Ask H .non false
  | bl (k : Bool) : Ask H (.bl k) false
  | int (i : Int) : Ask H (.int i) false
  | lst (p : Addr) (xs : List V) (h : H p = some (.lst xs)) : Ask H (.ref p) false
  | tup (p : Addr) (xs : List V) (h : H p = some (.tup xs)) : Ask H (.ref p) false
/-- is it a text? -/
def strB : V → Bool
  | .str _ => true
  | _ => false
theorem ask_isi {K : PySem.W.Frag} {H : Hp} {v : V} {b : Bool} (a : Ask H v b) : ∃ t, TyX K H v t ∧ PySem.W.kitOne K t (.type "str") = some (strB v) := by
  cases a with
  | str s h => exact ⟨_, .base (.str s), kit_ty (a := "str") (b := "str") (r := true) (by decide +kernel)⟩
  | non => exact ⟨_, .base .non, kit_ty (r := false) (by decide +kernel)⟩
  | bl k => exact ⟨_, .base (.bl k), kit_ty (a := "bool") (b := "str") (r := false) (by decide +kernel)⟩
  | int i => exact ⟨_, .base (.int i), kit_ty (a := "int") (b := "str") (r := false) (by decide +kernel)⟩
  | lst p xs h => exact ⟨_, .base (.lst h), kit_ty (a := "list") (b := "str") (r := false) (by decide +kernel)⟩
  | tup p xs h => exact ⟨_, .base (.tup h), kit_ty (a := "tuple") (b := "str") (r := false) (by decide +kernel)⟩
theorem scI : FnScope ["value", "letter"] ["value"] (defScope sIs) := ⟨rfl, rfl, rfl, by decide +kernel, rfl, by decide +kernel, by decide +kernel⟩
theorem scU : FnScope ["_law_value_here", "_law_words_here", "_law_sign"] ["_law_value_here", "_law_words_here"] (defScope sDue) := ⟨rfl, rfl, rfl, by decide +kernel, rfl, by decide +kernel, by decide +kernel⟩
/-- what the module's names hold -/
structure Nm (K : PySem.W.Frag) (mg : Str → Option Value) (aR : Addr) : Prop where
  isi : mg "isinstance" = none
  str : mg "str" = none
  len : mg "len" = none
  all : mg "all" = none
  most : ∃ t, mg "_MOST_CHARACTERS" = some (.int 8 t)
  lets : ∃ t, mg "_LETTERS" = some (.str K00.lets t)
  digs : ∃ t, mg "_DIGITS" = some (.str K00.digs t)
  res : mg "RESERVED" = some (.ref aR)
  resT : ∀ H : Hp, SqT K H aR (RES.map V.str)
theorem ifN {c A B : Prop} [Decidable c] (h1 : c → B) (h2 : ¬ c → A) : if (!decide c) = true then A else B := by
  by_cases h : c
  · rw [decide_eq_true h]
    exact iteF (h1 h)
  · rw [decide_eq_false h]
    exact iteT (h2 h)
theorem ifB {A B : Prop} {c : Bool} (h1 : c = true → A) (h2 : c = false → B) : if c = true then A else B := by
  cases c with
  | true => exact iteT (h1 rfl)
  | false => exact iteF (h2 rfl)
theorem first_cp {s : Str} (h : 1 ≤ s.length) : ∃ c, s.cps[0]? = some c := by
  have h2 : 0 < s.cps.size := h
  exact ⟨_, Array.getElem?_eq_getElem h2⟩
theorem isName_short {s : Str} (h : ¬ 1 ≤ s.length) : isName s = false := by
  unfold isName
  rw [decide_eq_false h]
  rfl
theorem isName_long {s : Str} (h : ¬ s.length ≤ 8) : isName s = false := by
  unfold isName
  rw [decide_eq_false h, Bool.and_false]
  rfl
theorem isName_head {s : Str} {c : Nat} (h : s.cps[0]? = some c) (hc : ¬ c ∈ lets.cps.toList) : isName s = false := by
  have e : headOk s = false := by
    unfold headOk
    rw [h]
    exact decide_eq_false hc
  unfold isName
  rw [e, Bool.false_and, Bool.false_and, Bool.and_false]
theorem isName_res {s : Str} (h : inV (.str s) (RES.map V.str) = true) : isName s = false := by
  unfold isName
  rw [h, Bool.not_true, Bool.and_false, Bool.false_and, Bool.and_false]
theorem isName_all {s : Str} {c : Nat} (h1 : 1 ≤ s.length) (h2 : s.length ≤ 8) (h : s.cps[0]? = some c) (hc : c ∈ lets.cps.toList) (hr : inV (.str s) (RES.map V.str) = false) : isName s = s.cps.toList.all okc := by
  have e : headOk s = true := by
    unfold headOk
    rw [h]
    exact decide_eq_true hc
  unfold isName
  rw [e, hr, decide_eq_true h1, decide_eq_true h2]
  rfl
theorem take_snoc {s : Str} {i c : Nat} (h : s.cps[i]? = some c) : s.cps.toList.take (i + 1) = s.cps.toList.take i ++ [c] := by
  have h2 : s.cps.toList[i]? = some c := by rw [Array.getElem?_toList]; exact h
  rw [List.take_add_one, h2]
  rfl
section
variable {P : Program} {w : World} {K : PySem.W.Frag} {mg : Str → Option Value} {base : Heap} {aR : Addr}
def spIs : Sp := fun vs H Q _ => ∃ (v : V) (b : Bool), vs = [v] ∧ Ask H v b ∧ ∀ H', Same H H' → Q (.bl b) H'
theorem ok_is {f : Addr} {fd : FuncData} (F : FnP K "is_name" sIs f fd) (N : Nm K mg aR) : FnOk P w K mg base CX0 1 f fd ["value"] spIs := by
  obtain ⟨tm, hm⟩ := N.most
  obtain ⟨tl, hl⟩ := N.lets
  obtain ⟨td, hd⟩ := N.digs
  refine F.ok scI (fun vs H Q E h => ?_) (fun cdv A outer s H vs Q E hr h => ?_)
  · obtain ⟨v, b, rfl, _⟩ := h
    rfl
  · obtain ⟨v, b, rfl, ask, q⟩ := h
    refine ⟨_, PSs.nox (pss_cons (ps_if (PW.pt (pw_or (pt_not (pt_val (pe_callB call_isi (by rfl) N.isi (by decide +kernel) (pa_cons (pv 0) (pa_cons (pe_bltn (v := .ty "str") (by rfl) N.str (by decide +kernel) rfl) pa_nil)))))
        (pw_or1 (pt_not (pt_chain op_le op_le pe_int (pe_callB call_len_str (by rfl) N.len PySem.boot_len (pa_cons (pv 0) pa_nil)) (pe_glob (v := .int 8) (by rfl) hm ⟨_, rfl⟩)))))) (pss_one (ps_ret pe_bl)) pss_nil)
      (pss_cons (ps_if (PW.pt (pw_or (pt_cmpR op_notIn_sign (pe_item_str (pv 0) pe_int (fun _ _ => rfl)) (pe_glob (v := .str lets) (by rfl) hl ⟨_, rfl⟩) rfl)
        (pw_or1 (pt_cmpR op_in_seq (pv 0) (pe_glob (v := .ref aR) (by rfl) N.res rfl) rfl)))) (pss_one (ps_ret pe_bl)) pss_nil)
      (pss_one (ps_ret (pe_callB (cr_all rfl) (by rfl) N.all (by decide +kernel) (pa_cons
        (pe_lc (own := [("letter", 1)]) (g := gName 1) (tt := tYes) rfl scI.nd (pi_str (pv 0)) (blkOk_by (N := ["value", "letter"]) (sc := defScope sIs) (by decide +kernel)) (fun _ _ _ _ _ => pg_name (i := 1) scI.nd rfl (.inl rfl)) (fun _ _ _ _ _ => pts_nil)
          (fun _ _ _ _ _ => pe_or (pe_cmpR op_in_sign (pv 1) (pe_glob (v := .str lets) (by rfl) hl ⟨_, rfl⟩) rfl) (pe_one (pe_cmpR op_in_sign (pv 1) (pe_glob (v := .str digs) (by rfl) hd ⟨_, rfl⟩) rfl)))) pa_nil)))))), ?_⟩
    obtain ⟨t, ty, kt⟩ := ask_isi (K := K) ask
    refine ⟨v, rfl, v, .ty "str", t, .type "str", strB v, rfl, .ty _, ty, kt, strB v, rfl, ?_⟩
    cases ask with
    | str s hs =>
      refine iteF ?_
      refine ⟨.str s, rfl, s, rfl, by rw [sizeLine_eq]; omega, 1, _, rfl, rfl, _, rfl, ite2 (fun h1 => ?_) (fun h1 => ?_)⟩
      · have h1 : 1 ≤ s.length := by
          have := of_decide_eq_true h1
          omega
        refine ⟨_, _, rfl, rfl, _, rfl, ifN (fun h2 => ?_) (fun h2 => ?_)⟩
        · have h2 : s.length ≤ 8 := by omega
          obtain ⟨c, hc⟩ := first_cp h1
          refine ⟨.str s, rfl, s, 0, c, rfl, rfl, by decide, by decide, by omega, hc, c, lets, rfl, rfl, _, rfl, ifN (fun h3 => ?_) (fun h3 => ?_)⟩
          · refine ⟨.str s, rfl, aR, RES.map V.str, rfl, .inr (N.resT _), rfl, RES_flat, _, rfl, ifB (fun h4 => ?_) (fun h4 => ?_)⟩
            · have z := q _ (Same.refl _)
              rw [isName_res h4] at z
              exact z
            · have e := isName_all h1 h2 hc h3 h4
              rw [e] at q
              refine ⟨.str s, rfl, s, rfl, fun D nD => lc_it walk_str (fun i H3 => Same H H3 ∧ H3 D = some (.lst (((s.cps.toList.take i).map okc).map V.bl))) ⟨same_upd nD, upd_same⟩ (fun _ _ _ _ => True.intro) ?_ ?_⟩
              · rintro i x H3 H4 hi ⟨sm, eD⟩ ⟨rfl, k, hk, rfl⟩
                refine ⟨rfl, iteT (B := Same H H4 ∧ H4 D = some (.lst (((s.cps.toList.take (i + 1)).map okc).map V.bl))) ?_⟩
                have fin : ∀ b : Bool, okc k = b → ∃ acc, H4 D = some (.lst acc) ∧ acc.length < sizeLine ∧ Same H (upd H4 D (.lst (acc ++ [V.bl b]))) ∧ upd H4 D (.lst (acc ++ [V.bl b])) D = some (.lst (((s.cps.toList.take (i + 1)).map okc).map V.bl)) := fun b hb => by
                  refine ⟨_, eD, small1000 ?_, Same.put sm nD, ?_⟩
                  · rw [List.length_map, List.length_map, List.length_take]
                    have : s.cps.toList.length ≤ 8 := h2
                    omega
                  · rw [upd_same, take_snoc hk, List.map_append, List.map_append, ← hb]
                    rfl
                refine ⟨.str ⟨#[k]⟩, rfl, k, lets, rfl, rfl, _, rfl, ite2 (fun h5 => ?_) (fun h5 => ?_)⟩
                · exact fin true (by unfold okc; rw [h5]; rfl)
                · refine ⟨.str ⟨#[k]⟩, rfl, k, digs, rfl, rfl, ?_⟩
                  exact fin _ (by unfold okc; rw [Bool.eq_false_iff.mpr h5]; rfl)
              · rintro H3 ⟨sm, eD⟩
                rw [show s.cps.toList.take s.cps.size = s.cps.toList from List.take_of_length_le (Nat.le_refl _)] at eD
                refine ⟨D, (s.cps.toList.map okc), rfl, SqL.of eD, ?_⟩
                rw [show (s.cps.toList.map okc).all id = s.cps.toList.all okc by rw [List.all_map]; rfl]
                exact q _ sm
          · have z := q _ (Same.refl _)
            rw [isName_head hc h3] at z
            exact z
        · have z := q _ (Same.refl _)
          rw [isName_long (by omega)] at z
          exact z
      · have z := q _ (Same.refl _)
        rw [isName_short (fun h => h1 (decide_eq_true (by omega)))] at z
        refine ⟨_, rfl, iteT z⟩
    | non => exact iteT (iteT (q _ (Same.refl _)))
    | bl k => exact iteT (iteT (q _ (Same.refl _)))
    | int i => exact iteT (iteT (q _ (Same.refl _)))
    | lst p xs h => exact iteT (iteT (q _ (Same.refl _)))
    | tup p xs h => exact iteT (iteT (q _ (Same.refl _)))
end
end K00
namespace K00
open PySem PySem.Spec PyProof.Rows L2
def both : Str := "abcdefghijklmnopqrstuvwxyz0123456789"
theorem both_okc (c : Nat) : decide (c ∈ both.cps.toList) = okc c := by
  have e : both.cps.toList = lets.cps.toList ++ digs.cps.toList := by decide +kernel
  rw [e]
  unfold okc
  rw [Bool.eq_iff_iff]
  simp only [Bool.or_eq_true, decide_eq_true_eq, List.mem_append]
theorem isName_bad {s : Str} {i c : Nat} (h : s.cps[i]? = some c) (hc : okc c = false) : isName s = false := by
  have e : s.cps.toList.all okc = false := by
    rw [List.all_eq_false]
    refine ⟨c, ?_, by rw [hc]; exact Bool.false_ne_true⟩
    have h2 : s.cps.toList[i]? = some c := by rw [Array.getElem?_toList]; exact h
    exact List.mem_of_getElem? h2
  unfold isName
  rw [e, Bool.and_false, Bool.and_false]
section
variable {P : Program} {w : World} {K : PySem.W.Frag} {mg : Str → Option Value} {base : Heap} {aR : Addr}
def spDue : Sp := fun vs H Q _ => ∃ (v : V) (pw : Addr) (b : Bool), vs = [v, .ref pw] ∧ Ask H v b ∧ H pw = some (.lst (RES.map V.str)) ∧ Q (.bl b) H
theorem ok_due {f : Addr} {fd : FuncData} (F : FnP K "_law_due" sDue f fd) (N : Nm K mg aR) : FnOk P w K mg base CX0 1 f fd ["_law_value_here", "_law_words_here"] spDue := by
  refine F.ok scU (fun vs H Q E h => ?_) (fun cdv A outer s H vs Q E hr h => ?_)
  · obtain ⟨v, pw, b, rfl, _⟩ := h
    rfl
  · obtain ⟨v, pw, b, rfl, ask, hw, q⟩ := h
    refine ⟨_, PSs.nox (pss_cons (ps_if (PW.pt (pw_or (pt_not (pt_val (pe_callB call_isi (by rfl) N.isi (by decide +kernel) (pa_cons (pv 0) (pa_cons (pe_bltn (v := .ty "str") (by rfl) N.str (by decide +kernel) rfl) pa_nil)))))
        (pw_or (pt_cmpR op_lt (pe_callB call_len_str (by rfl) N.len PySem.boot_len (pa_cons (pv 0) pa_nil)) pe_int (nomark _)) (pw_or1 (pt_cmpR op_gt (pe_callB call_len_str (by rfl) N.len PySem.boot_len (pa_cons (pv 0) pa_nil)) pe_int (nomark _)))))) (pss_one (ps_ret pe_bl)) pss_nil)
      (pss_cons (ps_for PassesOwn.never rfl (pi_str (pv 0)) (pg_name (i := 2) scU.nd rfl (.inl rfl)) (pss_one (ps_if (pt_cmpR op_notIn_sign (pv 2) pe_str rfl) (pss_one (ps_ret pe_bl)) pss_nil)))
      (pss_one (ps_ret (pe_and (pe_cmpR op_in_sign (pe_item_str (pv 0) pe_int (fun _ _ => rfl)) pe_str rfl) (pe_one (pe_cmpR op_notIn_seq (pv 0) (pv 1) rfl))))))), ?_⟩
    obtain ⟨t, ty, kt⟩ := ask_isi (K := K) ask
    refine ⟨v, rfl, v, .ty "str", t, .type "str", strB v, rfl, .ty _, ty, kt, strB v, rfl, ?_⟩
    cases ask with
    | str s hs =>
      have hz : s.length ≤ sizeLine := by rw [sizeLine_eq]; omega
      refine iteF ⟨.str s, rfl, s, rfl, hz, _, _, rfl, rfl, _, rfl, ite2 (fun h1 => ?_) (fun h1 => ?_)⟩
      · rw [isName_short (fun h => by have := of_decide_eq_true h1; omega)] at q
        exact iteT q
      · have h1 : 1 ≤ s.length := by
          by_cases h : 1 ≤ s.length
          · exact h
          · exact absurd (decide_eq_true (by omega)) h1
        refine ⟨.str s, rfl, s, rfl, hz, _, _, rfl, rfl, _, rfl, ite2 (fun h2 => ?_) (fun h2 => ?_)⟩
        · rw [isName_long (fun h => by have := of_decide_eq_true h2; omega)] at q
          exact q
        · have h2 : s.length ≤ 8 := by
            by_cases h : s.length ≤ 8
            · exact h
            · exact absurd (decide_eq_true (by omega)) h2
          obtain ⟨c, hc⟩ := first_cp h1
          refine ⟨.str s, rfl, s, rfl, for_it walk_str (fun i σ H3 => ∃ y, σ = [some (.str s), some (.ref pw), y] ∧ H3 = H ∧ ∀ j k, j < i → s.cps[j]? = some k → okc k = true) ⟨none, rfl, rfl, fun j k hj => absurd hj (Nat.not_lt_zero _)⟩ (fun _ _ _ _ _ => True.intro) ?_ ?_⟩
          · rintro i x σ H3 H4 hi ⟨y, rfl, rfl, al⟩ ⟨rfl, k, hk, rfl⟩
            refine ⟨.str ⟨#[k]⟩, rfl, k, both, rfl, rfl, _, rfl, ifN (fun h3 => ?_) (fun h3 => ?_)⟩
            · refine ⟨_, rfl, rfl, fun j k2 hj hk2 => ?_⟩
              by_cases e : j = i
              · rw [e, hk] at hk2
                rw [← Option.some.inj hk2, ← both_okc]
                exact decide_eq_true h3
              · exact al j k2 (by omega) hk2
            · rw [isName_bad hk (by rw [← both_okc]; exact decide_eq_false h3)] at q
              exact q
          · rintro σ H3 ⟨y, rfl, rfl, al⟩
            have eall : s.cps.toList.all okc = true := by
              rw [List.all_eq_true]
              intro k hk
              obtain ⟨j, hj⟩ := List.mem_iff_getElem?.mp hk
              rw [Array.getElem?_toList] at hj
              exact al j k (Array.getElem?_eq_some_iff.mp hj).1 hj
            refine ⟨.str s, rfl, s, 0, c, rfl, rfl, by decide, by decide, by omega, hc, c, lets, rfl, rfl, _, rfl, ite2 (fun h3 => ?_) (fun h3 => ?_)⟩
            · refine ⟨.str s, rfl, .ref pw, rfl, pw, RES.map V.str, rfl, .inl (SqL.of hw), rfl, RES_flat, ?_⟩
              have e : isName s = !inV (.str s) (RES.map V.str) := by
                unfold isName headOk
                rw [hc, eall, decide_eq_true h1, decide_eq_true h2]
                show (true && true && (decide (c ∈ lets.cps.toList) && !inV (V.str s) (List.map V.str RES) && true)) = _
                simp only [h3, Bool.and_true, Bool.true_and]
              rw [e] at q
              exact q
            · rw [isName_head hc (fun h => h3 (decide_eq_true h))] at q
              exact q
    | non => exact iteT (iteT q)
    | bl k => exact iteT (iteT q)
    | int i => exact iteT (iteT q)
    | lst p xs h => exact iteT (iteT q)
    | tup p xs h => exact iteT (iteT q)
end
end K00
namespace K00
open PySem PySem.Spec PyProof.Rows L2
abbrev sWords : Stmt := top 39
abbrev sVal : Stmt := top 40
theorem scW : FnScope ["_law_words_here"] [] (defScope sWords) := ⟨rfl, rfl, rfl, by decide +kernel, rfl, by decide +kernel, by decide +kernel⟩
theorem scV : FnScope ["_law_draws_here", "_law_words_here", "_law_act", "_law_signs", "_law_word", "_law_change", "_law_letter", "_law_many", "_law_value_here", "_law_k", "_law_place", "_law_odd"] ["_law_draws_here", "_law_words_here"] (defScope sVal) := ⟨rfl, rfl, rfl, by decide +kernel, rfl, by decide +kernel, by decide +kernel⟩
/-! ### displays of constants -/
def cV : Expr → Option V
  | .Constant (.str x) _ _ => some (.str x)
  | .Constant (.int i) _ _ => some (.int i)
  | .Constant (.bool b) _ _ => some (.bl b)
  | .Constant .none _ _ => some .non
  | _ => none
def tCs (vs : List V) : TA := fun _ H Q => Q vs H
theorem pa_cs {X : Cx} : ∀ {es : List Expr} {vs : List V}, es.map cV = vs.map some → PA X es (tCs vs)
  | [], [], _ => pa_nil
  | [], _ :: _, h => by cases h
  | _ :: _, [], h => by cases h
  | e :: es, v :: vs, h => by
    have h1 : cV e = some v := (List.cons.inj h).1
    have r := pa_cs (X := X) (es := es) (vs := vs) (List.cons.inj h).2
    have key : PE X e (tC v) ∧ starEach (e :: es) X.env = (false, eval e X.env) :: starEach es X.env := by
      unfold cV at h1
      split at h1
      · cases h1
        exact ⟨pe_str, rfl⟩
      · cases h1
        exact ⟨pe_int, rfl⟩
      · cases h1
        exact ⟨pe_bl, rfl⟩
      · cases h1
        exact ⟨pe_non, rfl⟩
      · cases h1
    exact pa_cons key.1 r key.2
section
variable {P : Program} {w : World} {K : PySem.W.Frag} {mg : Str → Option Value} {base : Heap} {aR : Addr}
def spWords : Sp := fun vs H Q _ => vs = [] ∧ ∀ (H' : Hp) (p : Addr), Same H H' → H p = none → H' p = some (.lst (RES.map V.str)) → Q (.ref p) H'
theorem ok_words {f : Addr} {fd : FuncData} (F : FnP K "_law_words" sWords f fd) : FnOk P w K mg base CX0 1 f fd [] spWords := by
  refine F.ok scW (fun vs H Q E h => ?_) (fun cdv A outer s H vs Q E hr h => ?_)
  · obtain ⟨rfl, _⟩ := h
    rfl
  · obtain ⟨rfl, q⟩ := h
    refine ⟨_, PSs.nox (pss_cons (ps_set (i := 0) scW.nd rfl (.inl rfl) (pe_lst (pa_cs (vs := (RES.take 12).map V.str) (by rfl))))
      (pss_cons (ps_set (i := 0) scW.nd rfl (.inl rfl) (pe_op op_cat (pv 0) (pe_lst (pa_cs (vs := ((RES.drop 12).take 12).map V.str) (by rfl)))))
      (pss_one (ps_ret (pe_op op_cat (pv 0) (pe_lst (pa_cs (vs := [V.str "as"]) (by rfl)))))))), ?_⟩
    refine ⟨by decide, fun p1 n1 => ?_⟩
    refine ⟨.ref p1, rfl, by decide, fun p2 n2 => ⟨p1, p2, _, _, rfl, rfl, by rw [upd_ne (ne_of_none upd_same n2)]; exact upd_same, upd_same, by decide, fun p3 n3 => ?_⟩⟩
    refine ⟨.ref p3, rfl, by decide, fun p4 n4 => ⟨p3, p4, _, _, rfl, rfl, by rw [upd_ne (ne_of_none upd_same n4)]; exact upd_same, upd_same, by decide, fun p5 n5 => ?_⟩⟩
    have s3 := (((same_upd (o := .lst ((RES.take 12).map V.str)) n1).trans (same_upd n2)).trans (same_upd n3)).trans (same_upd (o := .lst [V.str "as"]) n4)
    exact q _ p5 (s3.trans (same_upd n5)) (s3.free n5) upd_same
/-! ### the draws' list at pd, all else as it was -/
structure Dr (H H' : Hp) (pd : Addr) : Prop where
  but : ∀ b o, H b = some o → b ≠ pd → H' b = some o
  dr : ∃ ys : List Int, H' pd = some (.lst (ys.map V.int))
theorem Dr.draw {H H' : Hp} {pd : Addr} (d : Dr H H' pd) (ys : List Int) : Dr H (upd H' pd (.lst (ys.map V.int))) pd :=
  ⟨fun b o e n => by rw [upd_ne n]; exact d.but b o e n, ys, upd_same⟩
theorem Dr.new {H H' : Hp} {pd p : Addr} {o : HO} (d : Dr H H' pd) (n : H' p = none) : Dr H (upd H' p o) pd := by
  refine ⟨fun b x e nb => same_upd n b x (d.but b x e nb), ?_⟩
  obtain ⟨ys, hy⟩ := d.dr
  exact ⟨ys, same_upd n _ _ hy⟩
theorem Dr.ne {H H' : Hp} {pd p : Addr} (d : Dr H H' pd) (n : H' p = none) : p ≠ pd := fun e => by
  obtain ⟨ys, hy⟩ := d.dr
  rw [← e, n] at hy
  cases hy
theorem Dr.refl {H : Hp} {pd : Addr} {ys : List Int} (h : H pd = some (.lst (ys.map V.int))) : Dr H H pd := ⟨fun _ _ e _ => e, ys, h⟩
theorem Dr.self {H H' : Hp} {pd : Addr} (d : Dr H H' pd) : Dr H' H' pd := ⟨fun _ _ e _ => e, d.dr⟩
theorem Dr.trans {H H1 H2 : Hp} {pd : Addr} (d : Dr H H1 pd) (e : Dr H1 H2 pd) : Dr H H2 pd := ⟨fun b o h n => e.but b o (d.but b o h n) n, e.dr⟩
theorem at_in {xs : List V} {r : Int} {n : Nat} (h0 : 0 ≤ r) (h1 : r < n) (hn : n ≤ xs.length) : ∃ v, atI xs r = some v ∧ v ∈ xs := by
  have h2 : r.toNat < xs.length := by omega
  have e : r = (r.toNat : Int) := by omega
  have z : atI xs (r.toNat : Int) = some xs[r.toNat] := atI_nat (List.getElem?_eq_getElem h2)
  rw [← e] at z
  exact ⟨_, z, List.getElem_mem h2⟩
theorem at_cp {z : Str} {r : Int} {n : Nat} (h0 : 0 ≤ r) (h1 : r < n) (hn : n ≤ z.length) : ∃ c, atI z.cps.toList r = some c := by
  have h2 : r.toNat < z.cps.toList.length := by
    have : n ≤ z.cps.toList.length := hn
    omega
  have e : r = (r.toNat : Int) := by omega
  have q : atI z.cps.toList (r.toNat : Int) = some z.cps.toList[r.toNat] := atI_nat (List.getElem?_eq_getElem h2)
  rw [← e] at q
  exact ⟨_, q⟩
theorem res_len : ∀ v ∈ RES.map V.str, ∃ s : Str, v = .str s ∧ s.length ≤ 8 := by
  intro v hv
  obtain ⟨s, hs, rfl⟩ := List.mem_map.mp hv
  have h : ∀ s ∈ RES, s.length ≤ 8 := by decide +kernel
  exact ⟨s, rfl, h s hs⟩
def odd : Str := " !\"#$&'()*+,-./:;<=>?@ABCDEFGHIJKLMNOPQRSTUVWXYZ[\\]^_`{|}~\n"
/-! ### a drawn value -/
def spVal : Sp := fun vs H Q _ => ∃ (pd pw : Addr), vs = [.ref pd, .ref pw] ∧ Dr H H pd ∧ H pw = some (.lst (RES.map V.str)) ∧ ∀ (H' : Hp) (v : V) (b : Bool), Dr H H' pd → Ask H' v b → Q v H'
theorem ok_val {f fN : Addr} {fd fdN : FuncData} (F : FnP K "_law_value" sVal f fd) (FN : FnP K "_law_next" sNext fN fdN) (gN : mg "_law_next" = some (.ref fN)) (ml : mg "len" = none) (mi : mg "int" = none) (mr : mg "range" = none) :
    FnOk P w K mg base CX0 2 f fd ["_law_draws_here", "_law_words_here"] spVal := by
  have GN : FnOk P w K mg base CX0 1 fN fdN ["_law_draws_here", "_law_many"] spNext := ok_next FN ml mi
  have bN : Binds K fdN ["_law_draws_here", "_law_many"] [] := FN.bindsN fun _ _ _ _ _ _ us hl => match us, hl with | [_, _], _ => rfl
  refine F.ok scV (fun vs H Q E h => ?_) (fun cdv A outer s H vs Q E hr h => ?_)
  · obtain ⟨pd, pw, rfl, _⟩ := h
    rfl
  · obtain ⟨pd, pw, rfl, d0, hw, q⟩ := h
    have npw : pw ≠ pd := fun e => by
      obtain ⟨ys, hy⟩ := d0.dr
      rw [← e, hw] at hy
      injection hy with hy
      injection hy with hy
      cases ys with
      | nil => cases hy
      | cons y ys => cases hy
    refine ⟨_, PSs.nox (pss_cons (ps_set (i := 2) scV.nd rfl (.inl rfl) (pe_call GN hr (by rfl) gN FN.kp bN .nil pass0 (pa_cons (pv 0) (pa_cons pe_int pa_nil))))
      (pss_cons (ps_set (i := 3) scV.nd rfl (.inl rfl) pe_str)
      (pss_cons (ps_if (pt_cmpR op_eq (pv 2) pe_int (nomark _))
        (pss_one (ps_ret (pe_ix ix_list (pe_lst (pa_cons pe_non (pa_cons pe_bl (pa_cons pe_int (pa_cons (pe_tup (pa_cons pe_str pa_nil)) (pa_cons (pe_lst (pa_cons pe_str pa_nil)) (pa_cons pe_int (pa_cons (pe_lst (pa_cons pe_str (pa_cons pe_str pa_nil))) pa_nil))))))))
          (pe_call GN hr (by rfl) gN FN.kp bN .nil pass0 (pa_cons (pv 0) (pa_cons pe_int pa_nil))) (fun _ _ => rfl)))) pss_nil)
      (pss_cons (ps_if (pt_cmpR op_eq (pv 2) pe_int (nomark _))
        (pss_cons (ps_set (i := 4) scV.nd rfl (.inl rfl) (pe_ix ix_list (pv 1) (pe_call GN hr (by rfl) gN FN.kp bN .nil pass0 (pa_cons (pv 0) (pa_cons pe_int pa_nil))) (fun _ _ => rfl)))
        (pss_cons (ps_set (i := 5) scV.nd rfl (.inl rfl) (pe_call GN hr (by rfl) gN FN.kp bN .nil pass0 (pa_cons (pv 0) (pa_cons pe_int pa_nil))))
        (pss_cons (ps_set (i := 6) scV.nd rfl (.inl rfl) (pe_ix ix_str (pv 3) (pe_call GN hr (by rfl) gN FN.kp bN .nil pass0 (pa_cons (pv 0) (pa_cons pe_int pa_nil))) (fun _ _ => rfl)))
        (pss_one (ps_ret (pe_ix ix_list (pe_lst (pa_cons (pv 4) (pa_cons (pe_op op_add_str (pv 4) (pv 6)) (pa_cons (pe_op op_add_str (pv 6) (pv 4)) (pa_cons (pe_slice sl_str (pv 4) (po_some pe_int) po_none) (pa_cons (pe_slice sl_str (pv 4) po_none (po_some (pe_un un_neg pe_int))) (pa_cons (pe_upper (pv 4)) pa_nil)))))))
          (pv 5) (fun _ _ => rfl))))))) pss_nil)
      (pss_cons (ps_set (i := 7) scV.nd rfl (.inl rfl) (pe_ix ix_list (pe_lst (pa_cs (vs := [.int 3, .int 0, .int 1, .int 8, .int 9, .int 2, .int 5, .int 4, .int 7, .int 6, .int 10]) (by rfl))) (pe_call GN hr (by rfl) gN FN.kp bN .nil pass0 (pa_cons (pv 0) (pa_cons pe_int pa_nil))) (fun _ _ => rfl)))
      (pss_cons (ps_set (i := 8) scV.nd rfl (.inl rfl) pe_str)
      (pss_cons (ps_for PassesOwn.never rfl (pi_range1 rfl mr (pa_cons (pv 7) pa_nil)) (pg_name (i := 9) scV.nd rfl (.inl rfl))
        (pss_one (ps_set (i := 8) scV.nd rfl (.inl rfl) (pe_op op_add_str (pv 8) (pe_ix ix_str (pv 3) (pe_call GN hr (by rfl) gN FN.kp bN .nil pass0 (pa_cons (pv 0) (pa_cons pe_int pa_nil))) (fun _ _ => rfl))))))
      (pss_cons (ps_if (pt_cmpR op_eq (pv 2) pe_int (nomark _))
        (pss_cons (ps_set (i := 10) scV.nd rfl (.inl rfl) (pe_call GN hr (by rfl) gN FN.kp bN .nil pass0 (pa_cons (pv 0) (pa_cons (pe_op op_add (pv 7) pe_int) pa_nil))))
        (pss_cons (ps_set (i := 11) scV.nd rfl (.inl rfl) pe_str)
        (pss_one (ps_set (i := 8) scV.nd rfl (.inl rfl) (pe_op op_add_str (pe_op op_add_str (pe_slice sl_str (pv 8) po_none (po_some (pv 10))) (pe_ix ix_str (pv 11) (pe_call GN hr (by rfl) gN FN.kp bN .nil pass0 (pa_cons (pv 0) (pa_cons (pe_callB call_len_str (by rfl) ml PySem.boot_len (pa_cons (pv 11) pa_nil)) pa_nil))) (fun _ _ => rfl)))
          (pe_slice sl_str (pv 8) (po_some (pv 10)) po_none)))))) pss_nil)
      (pss_one (ps_ret (pv 8))))))))))), ?_⟩
    -- act
    obtain ⟨z1, hz1⟩ := d0.dr
    refine ⟨.ref pd, rfl, pd, z1, 6, rfl, hz1, by decide, fun act y1 a0 a1 _ => ?_⟩
    have d1 := d0.draw y1
    generalize upd H pd (.lst (y1.map V.int)) = H1 at d1
    refine ⟨.int act, rfl, rfl, _, rfl, ite2 (fun e3 => ?_) (fun e3 => ?_)⟩
    · -- act == 3
      refine ⟨by decide, fun t nt => ⟨by decide, fun l nl => ⟨by decide, fun l2 nl2 => ⟨by show 7 ≤ sizeLine; decide, fun p np => ?_⟩⟩⟩⟩
      have dt := d1.new (o := .tup [V.str "a"]) nt
      have dl := dt.new (o := .lst [V.str "a"]) nl
      have dl2 := dl.new (o := .lst [V.str "take", V.str "a"]) nl2
      have dp := dl2.new (o := .lst [V.non, .bl true, .int 7, .ref t, .ref l, .int 0, .ref l2]) np
      obtain ⟨z2, hz2⟩ := dp.dr
      refine ⟨.ref pd, rfl, pd, z2, 7, rfl, hz2, by decide, fun r y2 b0 b1 _ => ?_⟩
      obtain ⟨v, hv, hm⟩ := at_in (xs := [V.non, .bl true, .int 7, .ref t, .ref l, .int 0, .ref l2]) (n := 7) b0 b1 (Nat.le_refl 7)
      have e2 := dp.draw y2
      refine ⟨p, _, r, v, rfl, rfl, SqL.of (by rw [upd_ne (dl2.ne np)]; exact upd_same), hv, q _ v false e2 ?_⟩
      have ht := (((dt.self.new nl).new nl2).new (o := .lst [V.non, .bl true, .int 7, .ref t, .ref l, .int 0, .ref l2]) np).draw y2
      have hl := ((dl.self.new nl2).new (o := .lst [V.non, .bl true, .int 7, .ref t, .ref l, .int 0, .ref l2]) np).draw y2
      have hl2 := (dl2.self.new (o := .lst [V.non, .bl true, .int 7, .ref t, .ref l, .int 0, .ref l2]) np).draw y2
      simp only [List.mem_cons, List.not_mem_nil, or_false] at hm
      rcases hm with rfl | rfl | rfl | rfl | rfl | rfl | rfl
      · exact .non
      · exact .bl _
      · exact .int _
      · exact .tup _ _ (ht.but t _ upd_same (d1.ne nt))
      · exact .lst _ _ (hl.but l _ upd_same (dt.ne nl))
      · exact .int _
      · exact .lst _ _ (hl2.but l2 _ upd_same (dl.ne nl2))
    refine ⟨.int act, rfl, rfl, _, rfl, ite2 (fun e4 => ?_) (fun e4 => ?_)⟩
    · -- act == 4
      obtain ⟨z2, hz2⟩ := d1.dr
      refine ⟨.ref pw, rfl, .ref pd, rfl, pd, z2, 25, rfl, hz2, by decide, fun r y2 b0 b1 _ => ?_⟩
      have d2 := d1.draw y2
      generalize upd H1 pd (.lst (y2.map V.int)) = H2 at d2
      obtain ⟨v, hv, hm⟩ := at_in (xs := RES.map V.str) (n := 25) b0 b1 (by decide)
      obtain ⟨wd, rfl, hwd⟩ := res_len v hm
      refine ⟨pw, _, r, .str wd, rfl, rfl, SqL.of (d2.but pw _ hw npw), hv, ?_⟩
      obtain ⟨z3, hz3⟩ := d2.dr
      refine ⟨.ref pd, rfl, pd, z3, 6, rfl, hz3, by decide, fun ch y3 c0 c1 _ => ?_⟩
      have d3 := d2.draw y3
      generalize upd H2 pd (.lst (y3.map V.int)) = H3 at d3
      obtain ⟨z4, hz4⟩ := d3.dr
      refine ⟨.str both, rfl, .ref pd, rfl, pd, z4, 36, rfl, hz4, by decide, fun lt y4 f0 f1 _ => ?_⟩
      have d4 := d3.draw y4
      generalize upd H3 pd (.lst (y4.map V.int)) = H4 at d4
      obtain ⟨c, hc⟩ := at_cp (z := both) (n := 36) f0 f1 (by decide +kernel)
      refine ⟨both, lt, c, rfl, rfl, by decide +kernel, hc, ?_⟩
      have sl : (1000 : Nat) ≤ sizeLine := by rw [sizeLine_eq]; omega
      have l1 : (⟨#[c]⟩ : Str).length = 1 := rfl
      refine ⟨.str wd, rfl, .str wd, rfl, .str ⟨#[c]⟩, rfl, wd, _, rfl, rfl, by omega, .str ⟨#[c]⟩, rfl, .str wd, rfl, _, _, rfl, rfl, by omega, ?_⟩
      refine ⟨.str wd, rfl, 1, rfl, wd, rfl, by omega, .str wd, rfl, 1, rfl, -1, rfl, wd, rfl, by omega, ?_⟩
      have up : (Txt.upper wd).length ≤ 24 := by
        have := PyProof.Rows.len_upper wd
        omega
      refine ⟨.str wd, rfl, ⟨_, rfl⟩, wd, rfl, rfl, by omega, by show 6 ≤ sizeLine; decide, fun p np => ?_⟩
      obtain ⟨v, hv, hm2⟩ := at_in (xs := [V.str wd, .str (wd ++ ⟨#[c]⟩), .str (⟨#[c]⟩ ++ wd), .str (cutS wd (some 1) none), .str (cutS wd none (some (-1))), .str (Txt.upper wd)]) (n := 6) c0 c1 (Nat.le_refl 6)
      have z : ∃ y : Str, v = .str y ∧ y.length ≤ 1000 := by
        have k1 := cutS_length wd (some 1) none
        have k2 := cutS_length wd none (some (-1))
        simp only [List.mem_cons, List.not_mem_nil, or_false] at hm2
        rcases hm2 with rfl | rfl | rfl | rfl | rfl | rfl
        · exact ⟨_, rfl, by omega⟩
        · exact ⟨_, rfl, by rw [strLen_append]; omega⟩
        · exact ⟨_, rfl, by rw [strLen_append]; omega⟩
        · exact ⟨_, rfl, by omega⟩
        · exact ⟨_, rfl, by omega⟩
        · exact ⟨_, rfl, by omega⟩
      obtain ⟨y, rfl, hy⟩ := z
      exact ⟨.int ch, rfl, p, _, ch, _, rfl, rfl, SqL.of upd_same, hv, q _ _ _ (d4.new np) (.str y hy)⟩
    -- many
    have sl : (1000 : Nat) ≤ sizeLine := by rw [sizeLine_eq]; omega
    refine ⟨by show 11 ≤ sizeLine; decide, fun p np => ?_⟩
    have d1p := d1.new (o := .lst [.int 3, .int 0, .int 1, .int 8, .int 9, .int 2, .int 5, .int 4, .int 7, .int 6, .int 10]) np
    obtain ⟨z2, hz2⟩ := d1p.dr
    refine ⟨.ref pd, rfl, pd, z2, 11, rfl, hz2, by decide, fun r y2 b0 b1 _ => ?_⟩
    have d2 := d1p.draw y2
    obtain ⟨v, hv, hm⟩ := at_in (xs := [.int 3, .int 0, .int 1, .int 8, .int 9, .int 2, .int 5, .int 4, .int 7, .int 6, .int 10]) (n := 11) b0 b1 (Nat.le_refl 11)
    have hmn : ∃ m : Nat, v = .int (m : Int) ∧ m ≤ 10 := by
      simp only [List.mem_cons, List.not_mem_nil, or_false] at hm
      rcases hm with rfl | rfl | rfl | rfl | rfl | rfl | rfl | rfl | rfl | rfl | rfl
      · exact ⟨3, rfl, by decide⟩
      · exact ⟨0, rfl, by decide⟩
      · exact ⟨1, rfl, by decide⟩
      · exact ⟨8, rfl, by decide⟩
      · exact ⟨9, rfl, by decide⟩
      · exact ⟨2, rfl, by decide⟩
      · exact ⟨5, rfl, by decide⟩
      · exact ⟨4, rfl, by decide⟩
      · exact ⟨7, rfl, by decide⟩
      · exact ⟨6, rfl, by decide⟩
      · exact ⟨10, rfl, by decide⟩
    obtain ⟨m, rfl, hm10⟩ := hmn
    refine ⟨p, _, r, _, rfl, rfl, SqL.of (by rw [upd_ne (d1.ne np)]; exact upd_same), hv, ?_⟩
    generalize upd (upd H1 p _) pd (.lst (y2.map V.int)) = H2 at d2
    -- the loop
    refine ⟨.int m, rfl, m, rfl, by omega, by omega, for_range (n := m) (fun i σ H3 => ∃ (y : Str) (k : Option V), σ = [some (.ref pd), some (.ref pw), some (.int act), some (.str both), none, none, none, some (.int m), some (.str y), k, none, none] ∧ y.length ≤ i ∧ Dr H H3 pd) ⟨Str.empty, none, rfl, by decide, d2⟩ ?_ ?_⟩
    · rintro i σ H3 hi ⟨y, k, rfl, hy, d3⟩
      obtain ⟨z3, hz3⟩ := d3.dr
      refine ⟨.str y, rfl, .str both, rfl, .ref pd, rfl, pd, z3, 36, rfl, hz3, by decide, fun r3 y3 c0 c1 _ => ?_⟩
      obtain ⟨c, hc⟩ := at_cp (z := both) (n := 36) c0 c1 (by decide +kernel)
      have l1 : (⟨#[c]⟩ : Str).length = 1 := rfl
      refine ⟨both, r3, c, rfl, rfl, by decide +kernel, hc, y, ⟨#[c]⟩, rfl, rfl, by omega, y ++ ⟨#[c]⟩, _, rfl, by rw [strLen_append]; omega, d3.draw y3⟩
    · rintro σ H3 ⟨y, k, rfl, hy, d3⟩
      refine ⟨.int act, rfl, rfl, _, rfl, ite2 (fun e5 => ?_) (fun e5 => ?_)⟩
      · obtain ⟨z3, hz3⟩ := d3.dr
        refine ⟨.ref pd, rfl, .int m, rfl, m, 1, rfl, rfl, pd, z3, m + 1, rfl, hz3, by omega, fun pl y3 c0 c1 _ => ?_⟩
        have d4 := d3.draw y3
        generalize upd H3 pd (.lst (y3.map V.int)) = H4 at d4
        obtain ⟨z4, hz4⟩ := d4.dr
        refine ⟨.str y, rfl, .int pl, rfl, pl, rfl, y, rfl, by omega, .str odd, rfl, .ref pd, rfl, .str odd, rfl, odd, rfl, by decide +kernel, pd, z4, _, rfl, hz4, by decide +kernel, fun r4 y4 f0 f1 _ => ?_⟩
        obtain ⟨c, hc⟩ := at_cp (z := odd) (n := odd.length) f0 f1 (Nat.le_refl _)
        have l1 : (⟨#[c]⟩ : Str).length = 1 := rfl
        have k1 := cutS_length y none (some pl)
        have k2 := cutS_length y (some pl) none
        refine ⟨odd, r4, c, rfl, rfl, by decide +kernel, hc, _, _, rfl, rfl, by omega, .str y, rfl, .int pl, rfl, pl, rfl, y, rfl, by omega, _, _, rfl, rfl, by rw [strLen_append]; omega, ?_⟩
        exact ⟨_, rfl, q _ _ _ (d4.draw y4) (.str _ (by rw [strLen_append, strLen_append]; omega))⟩
      · exact ⟨.str y, rfl, q _ _ _ d3 (.str y (by omega))⟩
end
end K00
namespace L2
open PySem PySem.Spec PyProof.Rows NdefX
/-! ### messages -/
/-- a value that may stand in a message -/
def ShoA (H : Hp) (x : V) : Prop := Sho x ∨ ∃ p xs, x = .ref p ∧ H p = some (.tup xs) ∧ xs.length ≤ 10 ∧ ∀ v ∈ xs, Sho v
theorem ShoA.keep {H H' : Hp} {x : V} (h : ShoA H x) (k : ∀ p xs, H p = some (.tup xs) → H' p = some (.tup xs)) : ShoA H' x := by
  rcases h with h | ⟨p, xs, e, hp, r⟩
  · exact .inl h
  · exact .inr ⟨p, xs, e, k p xs hp, r⟩
/-- a part of a message: a short text, whatever it is -/
def GoodT (t : TE) (σ : L2.St) (H : Hp) : Prop := ∀ R : V → Hp → Prop, (∀ y : Str, y.length ≤ 100000 → R (.str y) H) → t σ H R
theorem good_str {x : Str} {σ : L2.St} {H : Hp} (h : x.length ≤ 100000) : GoodT (tC (.str x)) σ H := fun _ q => q x h
theorem good_fmt {i : Nat} {v : V} {σ : L2.St} {H : Hp} (e : σ[i]? = some (some v)) (h : ShoA H v) : GoodT (tFmtRA (tVar i)) σ H := fun _ q => ⟨v, e, h, q⟩
theorem good_fmtP {i : Nat} {v : V} {σ : L2.St} {H : Hp} (e : σ[i]? = some (some v)) (h : ShoA H v) : GoodT (tFmtA (tVar i)) σ H := fun _ q => ⟨v, e, h, q⟩
theorem msg_ok {σ : L2.St} {H : Hp} {R : Str → Hp → Prop} (q : ∀ x, R x H) : ∀ (ts : List TE) (acc : Str), (∀ t ∈ ts, GoodT t σ H) → acc.length + 100000 * ts.length ≤ sizeLine → tJs ts acc σ H R
  | [], acc, _, _ => q acc
  | t :: ts, acc, h, hl => by
    refine h t List.mem_cons_self _ fun y hy => ⟨y, rfl, ?_, ?_⟩
    · rw [List.length_cons] at hl
      rw [strLen_append]
      omega
    · refine msg_ok q ts _ (fun u hu => h u (List.mem_cons_of_mem _ hu)) ?_
      rw [List.length_cons] at hl
      rw [strLen_append]
      omega
/-! ### the promise of such an __init__ -/
/-- an exception of the class C with these fields (the last stored first) -/
def ExcAt (H : Hp) (e C : Addr) (fs : List (Str × V)) : Prop := (fs = [] ∧ H e = some (exo e C none)) ∨ ∃ d, H e = some (exo e C (some d)) ∧ H d = some (exd d fs)
theorem ExcAt.keep {H H' : Hp} {e C : Addr} {fs : List (Str × V)} (h : ExcAt H e C fs) (s : Same H H') : ExcAt H' e C fs := by
  rcases h with ⟨h1, h2⟩ | ⟨d, h1, h2⟩
  · exact .inl ⟨h1, s _ _ h2⟩
  · exact .inr ⟨d, s _ _ h1, s _ _ h2⟩
def spInit (C : Addr) (fn : List Str) : Sp := fun vs H Q _ => ∃ (a : Addr) (ws : List V), vs = .ref a :: ws ∧ ws.length = fn.length ∧ H a = some (exo a C none) ∧ (∀ v ∈ ws, ShoA H v) ∧
  ∀ H', (∀ b o, H b = some o → b ≠ a → H' b = some o) → ExcAt H' a C (fn.zip ws).reverse → Q .non H'
theorem exo_ne_tup {H : Hp} {a C : Addr} {p : Addr} {xs : List V} (h : H a = some (exo a C none)) (hp : H p = some (.tup xs)) : p ≠ a := at_ne h hp exo_tup
section
variable {P : Program} {w : World} {K : PySem.W.Frag} {mg : Str → Option Value} {base : Heap} {C fI cc cda : Addr} {qual : Str} {params : Arguments} {scope : Scope} {e : Expr} {p0 p1 p2 p3 p4 q1 q2 q3 q4 r1 r2 r3 r4 : Pos} {ar : Arg} {f1 f2 : Str}
abbrev supC (e : Expr) (p0 p1 p2 p3 p4 : Pos) : Stmt := .Expr (.Call (.Attribute (.Call (.Name "super" p0) [] [] p1) "__init__" p2) [e] [] p3) p4
abbrev stoC (f : Str) (q1 q2 q3 q4 : Pos) : Stmt := .Assign [.Attribute (.Name "self" q1) f q2] (.Name f q3) q4
/-- what is asked of the message, in the frame of the __init__ -/
def MsgOk (P : Program) (w : World) (K : PySem.W.Frag) (mg : Str → Option Value) (base : Heap) (N : List Str) (F : NF) (fI : Addr) (e : Expr) (n : Nat) : Prop :=
  ∀ (A : Around) (outer : List Env) (s : Shared) (H : Hp) (E : XK), A.units + 200 < cLine → ∃ te, PE (ncx CX0 P w K mg base N F fI A outer s H E) e te ∧ ∀ (σ : L2.St) (H' : Hp) (R : V → Hp → Prop), (∀ i, 1 ≤ i → i ≤ n → ∃ v, σ[i]? = some (some v) ∧ ShoA H' v) → (∀ x, R (.str x) H') → te σ H' R
theorem init1 (T : SupC P K mg C fI cc cda qual params [supC e p0 p1 p2 p3 p4, stoC f1 q1 q2 q3 q4] scope) (S : NScope ["self", f1, "__class__"] ["self", f1] ["__class__"] scope)
    (har : ar.arg = "self") (hpar : (params.posonlyargs ++ params.args).head? = some ar) (hks : scope.names.lookup ("super" : Str) = some NameKind.globalImplicit)
    (hbind : ∀ (nm : Str) (kV doc pm ct : Value) (an : Option Addr) (us : List Value), us.length = 2 → bindArgs (PySem.W.fnX nm qual params [supC e p0 p1 p2 p3 p4, stoC f1 q1 q2 q3 q4] scope [("__class__", cc)] .none kV doc pm an (.ref cda) ct) ⟨us, []⟩ = pure ([("self" : Str), f1].zip us))
    {pl : Env → Sem Bool} (hev : ∀ env : Env, eval (.Call (.Attribute (.Call (.Name "super" p0) [] [] p1) "__init__" p2) [e] [] p3) env = (do
      let ov ← attributeBase (.Call (.Name "super" p0) [] [] p1) "__init__" env (eval (.Call (.Name "super" p0) [] [] p1) env)
      standAt p2.atName
      let (f, first) ← holding [ov] (getMethod ov "__init__" (pl env))
      callWith p3 f first (backTo p3 (starEach [e] env)) []))
    (hse : ∀ env : Env, starEach [e] env = (false, eval e env) :: starEach [] env)
    (hm : MsgOk P w K mg base ["self", f1, "__class__"] ⟨"__init__", qual, params, [stoC f1 q1 q2 q3 q4], scope, [("__class__", cc)], cda⟩ fI e 1)
    (hf : (f1 == ("__debug__" : Str)) = false) (hf2 : (f1 == ("__classdict__" : Str)) = false) (hno : PySem.W.findIn K (.ref C) f1 = some none) :
    ∃ fd, FnOk P w K mg base CX0 1 fI fd ["self", f1] (spInit C [f1]) ∧ Binds K fd ["self", f1] [] := by
  refine sup_ok (k := 0) (N := ["self", f1, "__class__"]) T S (by rw [har]; rfl) hpar hks (fun nm kV doc pm ct an us hl => hbind nm kV doc pm ct an us hl) hev hse (fun vs H Q E h => ?_) (fun A outer s H vs Q E hr h => ?_)
  · obtain ⟨a, ws, rfl, hl, _⟩ := h
    show ws.length + 1 = 2
    rw [hl]
    rfl
  · obtain ⟨a, ws, rfl, hl, ha, hs, q⟩ := h
    obtain ⟨v, rfl⟩ : ∃ v, ws = [v] := by
      cases ws with
      | nil => cases hl
      | cons v r =>
        cases r with
        | nil => exact ⟨v, rfl⟩
        | cons _ _ => cases hl
    obtain ⟨te, hte, hq⟩ := hm A outer s H E (by have := hr.un; show A.units + 200 < cLine; have z : (A.deeper (envF ⟨"__init__", qual, params, [stoC f1 q1 q2 q3 q4], scope, [("__class__", cc)], cda⟩ fI s.heap.objs.size)).units = A.units + 3 := rfl; omega)
    refine ⟨a, [v], te, _, rfl, ha, hte, pss_one (ps_ost (pv 0 (hv := .inl (S.par _ List.mem_cons_self))) (pe_var (i := 1) rfl (.inl (S.par _ (List.mem_cons_of_mem _ List.mem_cons_self))) hf hf2) rfl), ?_⟩
    refine hq _ _ _ (fun i h1 h2 => ?_) fun x => ⟨ha, ?_⟩
    · have e1 : i = 1 := by omega
      subst e1
      exact ⟨v, rfl, hs v List.mem_cons_self⟩
    · refine ⟨v, rfl, .ref a, rfl, a, C, rfl, T.ox, hno, .inl ⟨ha, fun dx nd ne => ?_⟩⟩
      refine q _ (fun b o hb hne => ?_) (.inr ⟨dx, upd_same, ?_⟩)
      · rw [upd_ne hne, upd_ne (ne_of_none hb nd)]
        exact hb
      · rw [upd_ne ne, upd_same]
        rfl
theorem init2 (T : SupC P K mg C fI cc cda qual params [supC e p0 p1 p2 p3 p4, stoC f1 q1 q2 q3 q4, stoC f2 r1 r2 r3 r4] scope) (S : NScope ["self", f1, f2, "__class__"] ["self", f1, f2] ["__class__"] scope)
    (har : ar.arg = "self") (hpar : (params.posonlyargs ++ params.args).head? = some ar) (hks : scope.names.lookup ("super" : Str) = some NameKind.globalImplicit)
    (hbind : ∀ (nm : Str) (kV doc pm ct : Value) (an : Option Addr) (us : List Value), us.length = 3 → bindArgs (PySem.W.fnX nm qual params [supC e p0 p1 p2 p3 p4, stoC f1 q1 q2 q3 q4, stoC f2 r1 r2 r3 r4] scope [("__class__", cc)] .none kV doc pm an (.ref cda) ct) ⟨us, []⟩ = pure ([("self" : Str), f1, f2].zip us))
    {pl : Env → Sem Bool} (hev : ∀ env : Env, eval (.Call (.Attribute (.Call (.Name "super" p0) [] [] p1) "__init__" p2) [e] [] p3) env = (do
      let ov ← attributeBase (.Call (.Name "super" p0) [] [] p1) "__init__" env (eval (.Call (.Name "super" p0) [] [] p1) env)
      standAt p2.atName
      let (f, first) ← holding [ov] (getMethod ov "__init__" (pl env))
      callWith p3 f first (backTo p3 (starEach [e] env)) []))
    (hse : ∀ env : Env, starEach [e] env = (false, eval e env) :: starEach [] env)
    (hm : MsgOk P w K mg base ["self", f1, f2, "__class__"] ⟨"__init__", qual, params, [stoC f1 q1 q2 q3 q4, stoC f2 r1 r2 r3 r4], scope, [("__class__", cc)], cda⟩ fI e 2)
    (hf : (f1 == ("__debug__" : Str)) = false) (hf2 : (f1 == ("__classdict__" : Str)) = false) (hno : PySem.W.findIn K (.ref C) f1 = some none) (hg : (f2 == ("__debug__" : Str)) = false) (hg2 : (f2 == ("__classdict__" : Str)) = false) (hno2 : PySem.W.findIn K (.ref C) f2 = some none) :
    ∃ fd, FnOk P w K mg base CX0 1 fI fd ["self", f1, f2] (spInit C [f1, f2]) ∧ Binds K fd ["self", f1, f2] [] := by
  refine sup_ok (k := 0) (N := ["self", f1, f2, "__class__"]) T S (by rw [har]; rfl) hpar hks (fun nm kV doc pm ct an us hl => hbind nm kV doc pm ct an us hl) hev hse (fun vs H Q E h => ?_) (fun A outer s H vs Q E hr h => ?_)
  · obtain ⟨a, ws, rfl, hl, _⟩ := h
    show ws.length + 1 = 3
    rw [hl]
    rfl
  · obtain ⟨a, ws, rfl, hl, ha, hs, q⟩ := h
    obtain ⟨v, v2, rfl⟩ : ∃ v v2, ws = [v, v2] := by
      cases ws with
      | nil => cases hl
      | cons v r =>
        cases r with
        | nil => cases hl
        | cons v2 r =>
          cases r with
          | nil => exact ⟨v, v2, rfl⟩
          | cons _ _ => cases hl
    obtain ⟨te, hte, hq⟩ := hm A outer s H E (by have := hr.un; show A.units + 200 < cLine; have z : (A.deeper (envF ⟨"__init__", qual, params, [stoC f1 q1 q2 q3 q4, stoC f2 r1 r2 r3 r4], scope, [("__class__", cc)], cda⟩ fI s.heap.objs.size)).units = A.units + 3 := rfl; omega)
    refine ⟨a, [v, v2], te, _, rfl, ha, hte, pss_cons (ps_ost (pv 0 (hv := .inl (S.par _ List.mem_cons_self))) (pe_var (i := 1) rfl (.inl (S.par _ (List.mem_cons_of_mem _ List.mem_cons_self))) hf hf2) rfl)
      (pss_one (ps_ost (pv 0 (hv := .inl (S.par _ List.mem_cons_self))) (pe_var (i := 2) rfl (.inl (S.par _ (List.mem_cons_of_mem _ (List.mem_cons_of_mem _ List.mem_cons_self)))) hg hg2) rfl)), ?_⟩
    refine hq _ _ _ (fun i h1 h2 => ?_) fun x => ⟨ha, ?_⟩
    · have e1 : i = 1 ∨ i = 2 := by omega
      rcases e1 with rfl | rfl
      · exact ⟨v, rfl, hs v List.mem_cons_self⟩
      · exact ⟨v2, rfl, hs v2 (List.mem_cons_of_mem _ List.mem_cons_self)⟩
    · refine ⟨v, rfl, .ref a, rfl, a, C, rfl, T.ox, hno, .inl ⟨ha, fun dx nd ne => ?_⟩⟩
      refine ⟨v2, rfl, .ref a, rfl, a, C, rfl, T.ox, hno2, .inr ⟨dx, [(f1, v)], upd_same, by rw [upd_ne ne, upd_same], (by show 1 ≤ 900; decide), ?_⟩⟩
      refine q _ (fun b o hb hne => ?_) (.inr ⟨dx, ?_, upd_same⟩)
      · rw [upd_ne (ne_of_none hb nd), upd_ne hne, upd_ne (ne_of_none hb nd)]
        exact hb
      · rw [upd_ne ne.symm, upd_same]
theorem init0 (T : SupC P K mg C fI cc cda qual params [supC e p0 p1 p2 p3 p4] scope) (S : NScope ["self", "__class__"] ["self"] ["__class__"] scope)
    (har : ar.arg = "self") (hpar : (params.posonlyargs ++ params.args).head? = some ar) (hks : scope.names.lookup ("super" : Str) = some NameKind.globalImplicit)
    (hbind : ∀ (nm : Str) (kV doc pm ct : Value) (an : Option Addr) (us : List Value), us.length = 1 → bindArgs (PySem.W.fnX nm qual params [supC e p0 p1 p2 p3 p4] scope [("__class__", cc)] .none kV doc pm an (.ref cda) ct) ⟨us, []⟩ = pure ([("self" : Str)].zip us))
    {pl : Env → Sem Bool} (hev : ∀ env : Env, eval (.Call (.Attribute (.Call (.Name "super" p0) [] [] p1) "__init__" p2) [e] [] p3) env = (do
      let ov ← attributeBase (.Call (.Name "super" p0) [] [] p1) "__init__" env (eval (.Call (.Name "super" p0) [] [] p1) env)
      standAt p2.atName
      let (f, first) ← holding [ov] (getMethod ov "__init__" (pl env))
      callWith p3 f first (backTo p3 (starEach [e] env)) []))
    (hse : ∀ env : Env, starEach [e] env = (false, eval e env) :: starEach [] env)
    (hm : MsgOk P w K mg base ["self", "__class__"] ⟨"__init__", qual, params, [], scope, [("__class__", cc)], cda⟩ fI e 0) :
    ∃ fd, FnOk P w K mg base CX0 1 fI fd ["self"] (spInit C []) ∧ Binds K fd ["self"] [] := by
  refine sup_ok (k := 0) (N := ["self", "__class__"]) T S (by rw [har]; rfl) hpar hks (fun nm kV doc pm ct an us hl => hbind nm kV doc pm ct an us hl) hev hse (fun vs H Q E h => ?_) (fun A outer s H vs Q E hr h => ?_)
  · obtain ⟨a, ws, rfl, hl, _⟩ := h
    show ws.length + 1 = 1
    rw [hl]
    rfl
  · obtain ⟨a, ws, rfl, hl, ha, hs, q⟩ := h
    obtain rfl : ws = [] := by
      cases ws with
      | nil => rfl
      | cons v r => cases hl
    obtain ⟨te, hte, hq⟩ := hm A outer s H E (by have := hr.un; show A.units + 200 < cLine; have z : (A.deeper (envF ⟨"__init__", qual, params, [], scope, [("__class__", cc)], cda⟩ fI s.heap.objs.size)).units = A.units + 3 := rfl; omega)
    refine ⟨a, [], te, _, rfl, ha, hte, pss_nil, ?_⟩
    exact hq _ _ _ (fun i h1 h2 => absurd h1 (by omega)) fun x => ⟨ha, q _ (fun b o hb _ => hb) (.inl ⟨rfl, ha⟩)⟩
end
end L2
namespace K00
open PySem PySem.Spec PyProof.Rows L2
abbrev sErr : Stmt := top 43
theorem scE : FnScope ["_law_number", "_law_word", "_law_rest", "_law_made"] ["_law_number", "_law_word", "_law_rest"] (defScope sErr) := ⟨rfl, rfl, rfl, by decide +kernel, rfl, by decide +kernel, by decide +kernel⟩
/-- what an error is made with: the number, the word, the rest -/
inductive Kd where
  | n | w | r
def Kd.v (n : Int) (w : Str) (t : Addr) : Kd → V
  | .n => .int n
  | .w => .str w
  | .r => .ref t
def tab : List (Str × List (Str × Kd)) := [("BadPart", [("rule", .w)]), ("BadLine", [("line", .n), ("rule", .w)]), ("NoSuch", [("name", .r)]), ("Unlike", []), ("BadPath", [("position", .n)]), ("BadMove", [("position", .n)]), ("BadPlace", [("place", .r)]), ("BadRun", [("position", .n)]), ("BadPoint", [("point", .r)]), ("TooLarge", [("what", .w)]), ("NoRow", [("row", .r)]), ("NoTag", [("tag", .w)]), ("NoNode", [("node", .r)]), ("NoFirst", [("kind", .w)]), ("WrongFirst", [("position", .n)]), ("NoHand", [("hand", .r)]), ("WrongMove", [("move", .r), ("rule", .w)]), ("MustWait", [("lock", .w), ("hand", .n)]), ("Refused", [("position", .n)]), ("Unfinished", [("cycle", .r), ("short", .n)]), ("NoRequest", [("request", .r)]), ("NoLockOrder", [("cycle", .r)]), ("BadStand", [("part", .r)]), ("Unnested", [("routine", .w), ("nodes", .r)]), ("Clash", [("cycle", .r)]), ("NoState", [("state", .r)]), ("NotFit", [("rule", .w)])]
/-- what the written part says of an own error class, and what its __init__ keeps -/
structure Cl (P : Program) (w : World) (K : PySem.W.Frag) (mg : Str → Option Value) (base : Heap) (x : Str) (C : Addr) (fn : List Str) : Prop where
  g : mg x = some (.ref C)
  ox : OexC K C
  ok : ∃ (fI : Addr) (fd : FuncData) (ps : List Str), PySem.W.findIn K (.ref C) "__init__" = some (some (.ref fI)) ∧ PySem.W.typeIn K (.ref fI) = some (.type "function") ∧ FnOk P w K mg base CX0 1 fI fd ps (spInit C fn) ∧ Binds K fd ps []
  xf : XfC K C
  no : ∀ f ∈ fn, PySem.W.findIn K (.ref C) f = some none
  ec : ExcC K C
/-- C(..), shut: what is asked of it -/
structure MkV (C : Addr) (sp : Sp) (ta : TA) (σ : L2.St) (H : Hp) (Q : VK) : Prop where
  out : tMkV C sp ta σ H Q
theorem pe_shut {X : Cx} {e : Expr} {C : Addr} {sp : Sp} {ta : TA} (h : PE X e (tMkV C sp ta)) : PE X e (MkV C sp ta) := ⟨fun pins s σ H Q I q => h.run pins s σ H Q I q.out⟩
theorem pe_new {X : Cx} {x : Str} {C : Addr} {fn : List Str} {e : Expr} {es : List Expr} {ta : TA} {p pos : Pos} (c : Cl X.prog X.w X.K X.mg X.base x C fn) (hr : Room 2 X.A) (hx : Passes CX0 X (fun _ _ _ => False)) (hg : Gl X x) (ha : PA X (e :: es) ta)
    (hdb : (x == ("__debug__" : Str)) = false := by decide) (he : starEach (e :: es) X.env = (false, eval e X.env) :: starEach es X.env := by rfl) (hpl : (backTo pos (starEach es X.env)).any (·.1) = false := by rfl) :
    PE X (.Call (.Name x p) (e :: es) [] pos) (MkV C (spInit C fn) ta) := by
  obtain ⟨fI, fd, ps, iC, tI, F, b⟩ := c.ok
  exact pe_shut (pe_mkv c.ox iC tI F hr b hx hg c.g ha hdb he hpl)
theorem pe_new0 {X : Cx} {x : Str} {C : Addr} {fn : List Str} {p pos : Pos} (c : Cl X.prog X.w X.K X.mg X.base x C fn) (hr : Room 2 X.A) (hx : Passes CX0 X (fun _ _ _ => False)) (hg : Gl X x)
    (hdb : (x == ("__debug__" : Str)) = false := by decide) : PE X (.Call (.Name x p) [] [] pos) (MkV C (spInit C fn) tNil) := by
  obtain ⟨fI, fd, ps, iC, tI, F, b⟩ := c.ok
  exact pe_shut (pe_mkv0 c.ox iC tI F hr b hx hg c.g hdb)
theorem new_step {H : Hp} {Q : VK} {C : Addr} {fn : List Str} {ws : List V} (hl : ws.length = fn.length) (hn : ws.length ≤ 1000) (hs : ∀ v ∈ ws, ShoA H v) (q : ∀ (e : Addr) (H' : Hp), Same H H' → H e = none → ExcAt H' e C (fn.zip ws).reverse → Q (.ref e) H') :
    ws.length ≤ 1000 ∧ ∀ a, H a = none → spInit C fn (.ref a :: ws) (upd H a (exo a C none)) (fun v H2 => v = .non ∧ Q (.ref a) H2) (fun _ _ _ => False) :=
  ⟨hn, fun a na => ⟨a, ws, rfl, hl, upd_same, fun v hv => (hs v hv).keep (fun p xs hp => same_upd na _ _ hp), fun H' kp x => ⟨rfl, q a H' (fun b o hb => kp b o (same_upd na b o hb) (ne_of_none hb na)) na x⟩⟩⟩
theorem mkv_read {H : Hp} {Q : VK} {C : Addr} {fn : List Str} {ta : TA} {σ : L2.St} (ws : List V) (ha : ∀ R : List V → Hp → Prop, R ws H → ta σ H R) (hl : ws.length = fn.length) (hn : ws.length ≤ 1000) (hs : ∀ v ∈ ws, ShoA H v) (q : ∀ (e : Addr) (H' : Hp), Same H H' → H e = none → ExcAt H' e C (fn.zip ws).reverse → Q (.ref e) H') :
    MkV C (spInit C fn) ta σ H Q := ⟨ha _ (new_step (Q := Q) hl hn hs q)⟩
/-- the values that the errors are made with -/
structure Vs (H : Hp) (n : Int) (w : Str) (t : Addr) (k : Int) : Prop where
  o : PyData.strOk w = true
  t : H t = some (.tup [.str w, .int n, .int k])
  n : n.natAbs.log2 < 1920
  k : k.natAbs.log2 < 1920
  w : (reprText w).length ≤ 1000 ∧ w.length ≤ 1000
theorem Vs.keep {H H' : Hp} {n k : Int} {w : Str} {t : Addr} (v : Vs H n w t k) (s : Same H H') : Vs H' n w t k := ⟨v.o, s _ _ v.t, v.n, v.k, v.w⟩
theorem Vs.one {H : Hp} {n k : Int} {w : Str} {t : Addr} (v : Vs H n w t k) (d : Kd) : ShoA H (d.v n w t) := by
  cases d with
  | n => exact .inl (.inr ⟨n, rfl, v.n⟩)
  | w => exact .inl (.inl ⟨w, rfl, v.w⟩)
  | r =>
    refine .inr ⟨t, _, rfl, v.t, by show 3 ≤ 10; decide, fun u hu => ?_⟩
    simp only [List.mem_cons, List.not_mem_nil, or_false] at hu
    rcases hu with rfl | rfl | rfl
    · exact .inl ⟨w, rfl, v.w⟩
    · exact .inr ⟨n, rfl, v.n⟩
    · exact .inr ⟨k, rfl, v.k⟩
theorem Vs.all1 {H : Hp} {n k : Int} {w : Str} {t : Addr} (v : Vs H n w t k) (d : Kd) : ∀ u ∈ [d.v n w t], ShoA H u := fun u hu => by
  rw [List.mem_singleton.mp hu]
  exact v.one d
theorem Vs.all2 {H : Hp} {n k : Int} {w : Str} {t : Addr} (v : Vs H n w t k) (d d2 : Kd) : ∀ u ∈ [d.v n w t, d2.v n w t], ShoA H u := fun u hu => by
  rcases List.mem_cons.mp hu with rfl | hu
  · exact v.one d
  · rw [List.mem_singleton.mp hu]
    exact v.one d2
/-- the errors es, one of each class of tab, in order -/
def Ex (K : PySem.W.Frag) (n : Int) (w : Str) (t : Addr) (H : Hp) (es : List Addr) : Prop := ∀ (j : Nat) (e : Addr), es[j]? = some e → ∃ p, tab[j]? = some p ∧ ExcAt H e (He.ga K p.1) ((p.2.map fun q => (q.1, q.2.v n w t)).reverse)
theorem Ex.nil {K : PySem.W.Frag} {n : Int} {w : Str} {t : Addr} {H : Hp} : Ex K n w t H [] := fun j e h => by cases h
theorem Ex.keep {K : PySem.W.Frag} {n : Int} {w : Str} {t : Addr} {H H' : Hp} {es : List Addr} (x : Ex K n w t H es) (s : Same H H') : Ex K n w t H' es := fun j e h => by
  obtain ⟨p, h1, h2⟩ := x j e h
  exact ⟨p, h1, h2.keep s⟩
theorem Ex.snoc {K : PySem.W.Frag} {n : Int} {w : Str} {t : Addr} {H H' : Hp} {es es' : List Addr} {e : Addr} {p : Str × List (Str × Kd)} (x : Ex K n w t H es) (s : Same H H') (m : Nat) (hm : es.length = m) (he : es' = es ++ [e]) (hp : tab[m]? = some p) (hx : ExcAt H' e (He.ga K p.1) ((p.2.map fun q => (q.1, q.2.v n w t)).reverse)) : Ex K n w t H' es' := fun j b h => by
  subst hm
  rw [he] at h
  by_cases hj : j < es.length
  · rw [List.getElem?_append_left hj] at h
    exact x.keep s j b h
  · rw [List.getElem?_append_right (by omega)] at h
    have e0 : j - es.length = 0 := by
      by_cases z : j - es.length = 0
      · exact z
      · rw [List.getElem?_eq_none (by rw [List.length_singleton]; omega)] at h
        cases h
    rw [e0] at h
    have e1 : e = b := Option.some.inj h
    rw [← e1]
    have e2 : j = es.length := by omega
    rw [e2]
    exact ⟨p, hp, hx⟩
section
variable {P : Program} {w : World} {K : PySem.W.Frag} {mg : Str → Option Value} {base : Heap}
def spErr (K : PySem.W.Frag) : Sp := fun vs H Q _ => ∃ (n : Int) (wd : Str) (t : Addr) (k : Int), vs = [.int n, .str wd, .ref t] ∧ Vs H n wd t k ∧ ∀ (H' : Hp) (p : Addr) (es : List Addr), Same H H' → H p = none → H' p = some (.lst (es.map V.ref)) → es.length = 27 → Ex K n wd t H' es → Vs H' n wd t k → Q (.ref p) H'
theorem ok_err {f : Addr} {fd : FuncData} (F : FnP K "_law_errors" sErr f fd) (c : ∀ (j : Nat) (p : Str × List (Str × Kd)), tab[j]? = some p → Cl P w K mg base p.1 (He.ga K p.1) (p.2.map (·.1))) : FnOk P w K mg base CX0 3 f fd ["_law_number", "_law_word", "_law_rest"] (spErr K) := by
  refine F.ok scE (fun vs H Q E h => ?_) (fun cdv A outer s H vs Q E hr2 h => ?_)
  · obtain ⟨n, wd, t, k, rfl, _⟩ := h
    rfl
  · obtain ⟨n, w, t, k, rfl, V0, q⟩ := h
    refine ⟨_, PSs.nox (pss_cons (ps_set (i := 3) scE.nd rfl (.inl rfl) (pe_lst (pa_cons (pe_new (c 0 _ rfl) hr2 pass0 (by rfl) (pa_cons (pv 1) pa_nil)) (pa_cons (pe_new (c 1 _ rfl) hr2 pass0 (by rfl) (pa_cons (pv 0) (pa_cons (pv 1) pa_nil))) (pa_cons (pe_new (c 2 _ rfl) hr2 pass0 (by rfl) (pa_cons (pv 2) pa_nil)) (pa_cons (pe_new0 (c 3 _ rfl) hr2 pass0 (by rfl)) (pa_cons (pe_new (c 4 _ rfl) hr2 pass0 (by rfl) (pa_cons (pv 0) pa_nil)) (pa_cons (pe_new (c 5 _ rfl) hr2 pass0 (by rfl) (pa_cons (pv 0) pa_nil)) pa_nil))))))))
      (pss_cons (ps_set (i := 3) scE.nd rfl (.inl rfl) (pe_op op_cat (pv 3) (pe_lst (pa_cons (pe_new (c 6 _ rfl) hr2 pass0 (by rfl) (pa_cons (pv 2) pa_nil)) (pa_cons (pe_new (c 7 _ rfl) hr2 pass0 (by rfl) (pa_cons (pv 0) pa_nil)) (pa_cons (pe_new (c 8 _ rfl) hr2 pass0 (by rfl) (pa_cons (pv 2) pa_nil)) (pa_cons (pe_new (c 9 _ rfl) hr2 pass0 (by rfl) (pa_cons (pv 1) pa_nil)) (pa_cons (pe_new (c 10 _ rfl) hr2 pass0 (by rfl) (pa_cons (pv 2) pa_nil)) (pa_cons (pe_new (c 11 _ rfl) hr2 pass0 (by rfl) (pa_cons (pv 1) pa_nil)) pa_nil)))))))))
      (pss_cons (ps_set (i := 3) scE.nd rfl (.inl rfl) (pe_op op_cat (pv 3) (pe_lst (pa_cons (pe_new (c 12 _ rfl) hr2 pass0 (by rfl) (pa_cons (pv 2) pa_nil)) (pa_cons (pe_new (c 13 _ rfl) hr2 pass0 (by rfl) (pa_cons (pv 1) pa_nil)) (pa_cons (pe_new (c 14 _ rfl) hr2 pass0 (by rfl) (pa_cons (pv 0) pa_nil)) (pa_cons (pe_new (c 15 _ rfl) hr2 pass0 (by rfl) (pa_cons (pv 2) pa_nil)) (pa_cons (pe_new (c 16 _ rfl) hr2 pass0 (by rfl) (pa_cons (pv 2) (pa_cons (pv 1) pa_nil))) pa_nil))))))))
      (pss_cons (ps_set (i := 3) scE.nd rfl (.inl rfl) (pe_op op_cat (pv 3) (pe_lst (pa_cons (pe_new (c 17 _ rfl) hr2 pass0 (by rfl) (pa_cons (pv 1) (pa_cons (pv 0) pa_nil))) (pa_cons (pe_new (c 18 _ rfl) hr2 pass0 (by rfl) (pa_cons (pv 0) pa_nil)) (pa_cons (pe_new (c 19 _ rfl) hr2 pass0 (by rfl) (pa_cons (pv 2) (pa_cons (pv 0) pa_nil))) (pa_cons (pe_new (c 20 _ rfl) hr2 pass0 (by rfl) (pa_cons (pv 2) pa_nil)) pa_nil)))))))
      (pss_one (ps_ret (pe_op op_cat (pv 3) (pe_lst (pa_cons (pe_new (c 21 _ rfl) hr2 pass0 (by rfl) (pa_cons (pv 2) pa_nil)) (pa_cons (pe_new (c 22 _ rfl) hr2 pass0 (by rfl) (pa_cons (pv 2) pa_nil)) (pa_cons (pe_new (c 23 _ rfl) hr2 pass0 (by rfl) (pa_cons (pv 1) (pa_cons (pv 2) pa_nil))) (pa_cons (pe_new (c 24 _ rfl) hr2 pass0 (by rfl) (pa_cons (pv 2) pa_nil)) (pa_cons (pe_new (c 25 _ rfl) hr2 pass0 (by rfl) (pa_cons (pv 2) pa_nil)) (pa_cons (pe_new (c 26 _ rfl) hr2 pass0 (by rfl) (pa_cons (pv 1) pa_nil)) pa_nil)))))))))))))), ?_⟩
    have X0 : Ex K n w t H [] := Ex.nil
    have S0 := Same.refl H
    refine mkv_read [V.str w] (fun R r => ⟨.str w, rfl, r⟩) rfl (by show 1 ≤ 1000; decide) (V0.all1 .w) (fun e0 H0 s0 _ x0 => ?_)
    have V0 := V0.keep s0
    have X0 := X0.snoc (es' := [e0]) s0 (e := e0) 0 rfl rfl rfl x0
    have S0 := S0.trans s0
    refine mkv_read [V.int n, V.str w] (fun R r => ⟨.int n, rfl, .str w, rfl, r⟩) rfl (by show 2 ≤ 1000; decide) (V0.all2 .n .w) (fun e1 H1 s1 _ x1 => ?_)
    have V0 := V0.keep s1
    have X0 := X0.snoc (es' := [e0, e1]) s1 (e := e1) 1 rfl rfl rfl x1
    have S0 := S0.trans s1
    refine mkv_read [V.ref t] (fun R r => ⟨.ref t, rfl, r⟩) rfl (by show 1 ≤ 1000; decide) (V0.all1 .r) (fun e2 H2 s2 _ x2 => ?_)
    have V0 := V0.keep s2
    have X0 := X0.snoc (es' := [e0, e1, e2]) s2 (e := e2) 2 rfl rfl rfl x2
    have S0 := S0.trans s2
    refine mkv_read [] (fun R r => r) rfl (by show 0 ≤ 1000; decide) (fun v h => by cases h) (fun e3 H3 s3 _ x3 => ?_)
    have V0 := V0.keep s3
    have X0 := X0.snoc (es' := [e0, e1, e2, e3]) s3 (e := e3) 3 rfl rfl rfl x3
    have S0 := S0.trans s3
    refine mkv_read [V.int n] (fun R r => ⟨.int n, rfl, r⟩) rfl (by show 1 ≤ 1000; decide) (V0.all1 .n) (fun e4 H4 s4 _ x4 => ?_)
    have V0 := V0.keep s4
    have X0 := X0.snoc (es' := [e0, e1, e2, e3, e4]) s4 (e := e4) 4 rfl rfl rfl x4
    have S0 := S0.trans s4
    refine mkv_read [V.int n] (fun R r => ⟨.int n, rfl, r⟩) rfl (by show 1 ≤ 1000; decide) (V0.all1 .n) (fun e5 H5 s5 _ x5 => ?_)
    have V0 := V0.keep s5
    have X0 := X0.snoc (es' := [e0, e1, e2, e3, e4, e5]) s5 (e := e5) 5 rfl rfl rfl x5
    have S0 := S0.trans s5
    refine ⟨by show 6 ≤ sizeLine; decide, fun p0 np => ?_⟩
    have u0 := same_upd (o := .lst [V.ref e0, V.ref e1, V.ref e2, V.ref e3, V.ref e4, V.ref e5]) np
    have V0 := V0.keep u0
    have X0 := X0.keep u0
    have F0 := S0
    have S0 := S0.trans u0
    have hp := upd_same (H := H5) (a := p0) (o := .lst [V.ref e0, V.ref e1, V.ref e2, V.ref e3, V.ref e4, V.ref e5])
    refine ⟨.ref p0, rfl, ?_⟩
    refine mkv_read [V.ref t] (fun R r => ⟨.ref t, rfl, r⟩) rfl (by show 1 ≤ 1000; decide) (V0.all1 .r) (fun e6 H6 s6 _ x6 => ?_)
    have V0 := V0.keep s6
    have X0 := X0.snoc (es' := [e0, e1, e2, e3, e4, e5, e6]) s6 (e := e6) 6 rfl rfl rfl x6
    have S0 := S0.trans s6
    have hp := s6 _ _ hp
    refine mkv_read [V.int n] (fun R r => ⟨.int n, rfl, r⟩) rfl (by show 1 ≤ 1000; decide) (V0.all1 .n) (fun e7 H7 s7 _ x7 => ?_)
    have V0 := V0.keep s7
    have X0 := X0.snoc (es' := [e0, e1, e2, e3, e4, e5, e6, e7]) s7 (e := e7) 7 rfl rfl rfl x7
    have S0 := S0.trans s7
    have hp := s7 _ _ hp
    refine mkv_read [V.ref t] (fun R r => ⟨.ref t, rfl, r⟩) rfl (by show 1 ≤ 1000; decide) (V0.all1 .r) (fun e8 H8 s8 _ x8 => ?_)
    have V0 := V0.keep s8
    have X0 := X0.snoc (es' := [e0, e1, e2, e3, e4, e5, e6, e7, e8]) s8 (e := e8) 8 rfl rfl rfl x8
    have S0 := S0.trans s8
    have hp := s8 _ _ hp
    refine mkv_read [V.str w] (fun R r => ⟨.str w, rfl, r⟩) rfl (by show 1 ≤ 1000; decide) (V0.all1 .w) (fun e9 H9 s9 _ x9 => ?_)
    have V0 := V0.keep s9
    have X0 := X0.snoc (es' := [e0, e1, e2, e3, e4, e5, e6, e7, e8, e9]) s9 (e := e9) 9 rfl rfl rfl x9
    have S0 := S0.trans s9
    have hp := s9 _ _ hp
    refine mkv_read [V.ref t] (fun R r => ⟨.ref t, rfl, r⟩) rfl (by show 1 ≤ 1000; decide) (V0.all1 .r) (fun e10 H10 s10 _ x10 => ?_)
    have V0 := V0.keep s10
    have X0 := X0.snoc (es' := [e0, e1, e2, e3, e4, e5, e6, e7, e8, e9, e10]) s10 (e := e10) 10 rfl rfl rfl x10
    have S0 := S0.trans s10
    have hp := s10 _ _ hp
    refine mkv_read [V.str w] (fun R r => ⟨.str w, rfl, r⟩) rfl (by show 1 ≤ 1000; decide) (V0.all1 .w) (fun e11 H11 s11 _ x11 => ?_)
    have V0 := V0.keep s11
    have X0 := X0.snoc (es' := [e0, e1, e2, e3, e4, e5, e6, e7, e8, e9, e10, e11]) s11 (e := e11) 11 rfl rfl rfl x11
    have S0 := S0.trans s11
    have hp := s11 _ _ hp
    refine ⟨by show 6 ≤ sizeLine; decide, fun q1 nq => ⟨p0, q1, _, _, rfl, rfl, same_upd nq _ _ hp, upd_same, by show 12 ≤ sizeLine; decide, fun p1 np => ?_⟩⟩
    have u0 := same_upd (o := .lst [V.ref e6, V.ref e7, V.ref e8, V.ref e9, V.ref e10, V.ref e11]) nq
    have u1 := same_upd (o := .lst [V.ref e0, V.ref e1, V.ref e2, V.ref e3, V.ref e4, V.ref e5, V.ref e6, V.ref e7, V.ref e8, V.ref e9, V.ref e10, V.ref e11]) np
    have V0 := (V0.keep u0).keep u1
    have X0 := (X0.keep u0).keep u1
    have F0 := S0.trans u0
    have S0 := F0.trans u1
    have hp := upd_same (H := upd H11 q1 (.lst [V.ref e6, V.ref e7, V.ref e8, V.ref e9, V.ref e10, V.ref e11])) (a := p1) (o := .lst [V.ref e0, V.ref e1, V.ref e2, V.ref e3, V.ref e4, V.ref e5, V.ref e6, V.ref e7, V.ref e8, V.ref e9, V.ref e10, V.ref e11])
    refine ⟨.ref p1, rfl, ?_⟩
    refine mkv_read [V.ref t] (fun R r => ⟨.ref t, rfl, r⟩) rfl (by show 1 ≤ 1000; decide) (V0.all1 .r) (fun e12 H12 s12 _ x12 => ?_)
    have V0 := V0.keep s12
    have X0 := X0.snoc (es' := [e0, e1, e2, e3, e4, e5, e6, e7, e8, e9, e10, e11, e12]) s12 (e := e12) 12 rfl rfl rfl x12
    have S0 := S0.trans s12
    have hp := s12 _ _ hp
    refine mkv_read [V.str w] (fun R r => ⟨.str w, rfl, r⟩) rfl (by show 1 ≤ 1000; decide) (V0.all1 .w) (fun e13 H13 s13 _ x13 => ?_)
    have V0 := V0.keep s13
    have X0 := X0.snoc (es' := [e0, e1, e2, e3, e4, e5, e6, e7, e8, e9, e10, e11, e12, e13]) s13 (e := e13) 13 rfl rfl rfl x13
    have S0 := S0.trans s13
    have hp := s13 _ _ hp
    refine mkv_read [V.int n] (fun R r => ⟨.int n, rfl, r⟩) rfl (by show 1 ≤ 1000; decide) (V0.all1 .n) (fun e14 H14 s14 _ x14 => ?_)
    have V0 := V0.keep s14
    have X0 := X0.snoc (es' := [e0, e1, e2, e3, e4, e5, e6, e7, e8, e9, e10, e11, e12, e13, e14]) s14 (e := e14) 14 rfl rfl rfl x14
    have S0 := S0.trans s14
    have hp := s14 _ _ hp
    refine mkv_read [V.ref t] (fun R r => ⟨.ref t, rfl, r⟩) rfl (by show 1 ≤ 1000; decide) (V0.all1 .r) (fun e15 H15 s15 _ x15 => ?_)
    have V0 := V0.keep s15
    have X0 := X0.snoc (es' := [e0, e1, e2, e3, e4, e5, e6, e7, e8, e9, e10, e11, e12, e13, e14, e15]) s15 (e := e15) 15 rfl rfl rfl x15
    have S0 := S0.trans s15
    have hp := s15 _ _ hp
    refine mkv_read [V.ref t, V.str w] (fun R r => ⟨.ref t, rfl, .str w, rfl, r⟩) rfl (by show 2 ≤ 1000; decide) (V0.all2 .r .w) (fun e16 H16 s16 _ x16 => ?_)
    have V0 := V0.keep s16
    have X0 := X0.snoc (es' := [e0, e1, e2, e3, e4, e5, e6, e7, e8, e9, e10, e11, e12, e13, e14, e15, e16]) s16 (e := e16) 16 rfl rfl rfl x16
    have S0 := S0.trans s16
    have hp := s16 _ _ hp
    refine ⟨by show 5 ≤ sizeLine; decide, fun q2 nq => ⟨p1, q2, _, _, rfl, rfl, same_upd nq _ _ hp, upd_same, by show 17 ≤ sizeLine; decide, fun p2 np => ?_⟩⟩
    have u0 := same_upd (o := .lst [V.ref e12, V.ref e13, V.ref e14, V.ref e15, V.ref e16]) nq
    have u1 := same_upd (o := .lst [V.ref e0, V.ref e1, V.ref e2, V.ref e3, V.ref e4, V.ref e5, V.ref e6, V.ref e7, V.ref e8, V.ref e9, V.ref e10, V.ref e11, V.ref e12, V.ref e13, V.ref e14, V.ref e15, V.ref e16]) np
    have V0 := (V0.keep u0).keep u1
    have X0 := (X0.keep u0).keep u1
    have F0 := S0.trans u0
    have S0 := F0.trans u1
    have hp := upd_same (H := upd H16 q2 (.lst [V.ref e12, V.ref e13, V.ref e14, V.ref e15, V.ref e16])) (a := p2) (o := .lst [V.ref e0, V.ref e1, V.ref e2, V.ref e3, V.ref e4, V.ref e5, V.ref e6, V.ref e7, V.ref e8, V.ref e9, V.ref e10, V.ref e11, V.ref e12, V.ref e13, V.ref e14, V.ref e15, V.ref e16])
    refine ⟨.ref p2, rfl, ?_⟩
    refine mkv_read [V.str w, V.int n] (fun R r => ⟨.str w, rfl, .int n, rfl, r⟩) rfl (by show 2 ≤ 1000; decide) (V0.all2 .w .n) (fun e17 H17 s17 _ x17 => ?_)
    have V0 := V0.keep s17
    have X0 := X0.snoc (es' := [e0, e1, e2, e3, e4, e5, e6, e7, e8, e9, e10, e11, e12, e13, e14, e15, e16, e17]) s17 (e := e17) 17 rfl rfl rfl x17
    have S0 := S0.trans s17
    have hp := s17 _ _ hp
    refine mkv_read [V.int n] (fun R r => ⟨.int n, rfl, r⟩) rfl (by show 1 ≤ 1000; decide) (V0.all1 .n) (fun e18 H18 s18 _ x18 => ?_)
    have V0 := V0.keep s18
    have X0 := X0.snoc (es' := [e0, e1, e2, e3, e4, e5, e6, e7, e8, e9, e10, e11, e12, e13, e14, e15, e16, e17, e18]) s18 (e := e18) 18 rfl rfl rfl x18
    have S0 := S0.trans s18
    have hp := s18 _ _ hp
    refine mkv_read [V.ref t, V.int n] (fun R r => ⟨.ref t, rfl, .int n, rfl, r⟩) rfl (by show 2 ≤ 1000; decide) (V0.all2 .r .n) (fun e19 H19 s19 _ x19 => ?_)
    have V0 := V0.keep s19
    have X0 := X0.snoc (es' := [e0, e1, e2, e3, e4, e5, e6, e7, e8, e9, e10, e11, e12, e13, e14, e15, e16, e17, e18, e19]) s19 (e := e19) 19 rfl rfl rfl x19
    have S0 := S0.trans s19
    have hp := s19 _ _ hp
    refine mkv_read [V.ref t] (fun R r => ⟨.ref t, rfl, r⟩) rfl (by show 1 ≤ 1000; decide) (V0.all1 .r) (fun e20 H20 s20 _ x20 => ?_)
    have V0 := V0.keep s20
    have X0 := X0.snoc (es' := [e0, e1, e2, e3, e4, e5, e6, e7, e8, e9, e10, e11, e12, e13, e14, e15, e16, e17, e18, e19, e20]) s20 (e := e20) 20 rfl rfl rfl x20
    have S0 := S0.trans s20
    have hp := s20 _ _ hp
    refine ⟨by show 4 ≤ sizeLine; decide, fun q3 nq => ⟨p2, q3, _, _, rfl, rfl, same_upd nq _ _ hp, upd_same, by show 21 ≤ sizeLine; decide, fun p3 np => ?_⟩⟩
    have u0 := same_upd (o := .lst [V.ref e17, V.ref e18, V.ref e19, V.ref e20]) nq
    have u1 := same_upd (o := .lst [V.ref e0, V.ref e1, V.ref e2, V.ref e3, V.ref e4, V.ref e5, V.ref e6, V.ref e7, V.ref e8, V.ref e9, V.ref e10, V.ref e11, V.ref e12, V.ref e13, V.ref e14, V.ref e15, V.ref e16, V.ref e17, V.ref e18, V.ref e19, V.ref e20]) np
    have V0 := (V0.keep u0).keep u1
    have X0 := (X0.keep u0).keep u1
    have F0 := S0.trans u0
    have S0 := F0.trans u1
    have hp := upd_same (H := upd H20 q3 (.lst [V.ref e17, V.ref e18, V.ref e19, V.ref e20])) (a := p3) (o := .lst [V.ref e0, V.ref e1, V.ref e2, V.ref e3, V.ref e4, V.ref e5, V.ref e6, V.ref e7, V.ref e8, V.ref e9, V.ref e10, V.ref e11, V.ref e12, V.ref e13, V.ref e14, V.ref e15, V.ref e16, V.ref e17, V.ref e18, V.ref e19, V.ref e20])
    refine ⟨.ref p3, rfl, ?_⟩
    refine mkv_read [V.ref t] (fun R r => ⟨.ref t, rfl, r⟩) rfl (by show 1 ≤ 1000; decide) (V0.all1 .r) (fun e21 H21 s21 _ x21 => ?_)
    have V0 := V0.keep s21
    have X0 := X0.snoc (es' := [e0, e1, e2, e3, e4, e5, e6, e7, e8, e9, e10, e11, e12, e13, e14, e15, e16, e17, e18, e19, e20, e21]) s21 (e := e21) 21 rfl rfl rfl x21
    have S0 := S0.trans s21
    have hp := s21 _ _ hp
    refine mkv_read [V.ref t] (fun R r => ⟨.ref t, rfl, r⟩) rfl (by show 1 ≤ 1000; decide) (V0.all1 .r) (fun e22 H22 s22 _ x22 => ?_)
    have V0 := V0.keep s22
    have X0 := X0.snoc (es' := [e0, e1, e2, e3, e4, e5, e6, e7, e8, e9, e10, e11, e12, e13, e14, e15, e16, e17, e18, e19, e20, e21, e22]) s22 (e := e22) 22 rfl rfl rfl x22
    have S0 := S0.trans s22
    have hp := s22 _ _ hp
    refine mkv_read [V.str w, V.ref t] (fun R r => ⟨.str w, rfl, .ref t, rfl, r⟩) rfl (by show 2 ≤ 1000; decide) (V0.all2 .w .r) (fun e23 H23 s23 _ x23 => ?_)
    have V0 := V0.keep s23
    have X0 := X0.snoc (es' := [e0, e1, e2, e3, e4, e5, e6, e7, e8, e9, e10, e11, e12, e13, e14, e15, e16, e17, e18, e19, e20, e21, e22, e23]) s23 (e := e23) 23 rfl rfl rfl x23
    have S0 := S0.trans s23
    have hp := s23 _ _ hp
    refine mkv_read [V.ref t] (fun R r => ⟨.ref t, rfl, r⟩) rfl (by show 1 ≤ 1000; decide) (V0.all1 .r) (fun e24 H24 s24 _ x24 => ?_)
    have V0 := V0.keep s24
    have X0 := X0.snoc (es' := [e0, e1, e2, e3, e4, e5, e6, e7, e8, e9, e10, e11, e12, e13, e14, e15, e16, e17, e18, e19, e20, e21, e22, e23, e24]) s24 (e := e24) 24 rfl rfl rfl x24
    have S0 := S0.trans s24
    have hp := s24 _ _ hp
    refine mkv_read [V.ref t] (fun R r => ⟨.ref t, rfl, r⟩) rfl (by show 1 ≤ 1000; decide) (V0.all1 .r) (fun e25 H25 s25 _ x25 => ?_)
    have V0 := V0.keep s25
    have X0 := X0.snoc (es' := [e0, e1, e2, e3, e4, e5, e6, e7, e8, e9, e10, e11, e12, e13, e14, e15, e16, e17, e18, e19, e20, e21, e22, e23, e24, e25]) s25 (e := e25) 25 rfl rfl rfl x25
    have S0 := S0.trans s25
    have hp := s25 _ _ hp
    refine mkv_read [V.str w] (fun R r => ⟨.str w, rfl, r⟩) rfl (by show 1 ≤ 1000; decide) (V0.all1 .w) (fun e26 H26 s26 _ x26 => ?_)
    have V0 := V0.keep s26
    have X0 := X0.snoc (es' := [e0, e1, e2, e3, e4, e5, e6, e7, e8, e9, e10, e11, e12, e13, e14, e15, e16, e17, e18, e19, e20, e21, e22, e23, e24, e25, e26]) s26 (e := e26) 26 rfl rfl rfl x26
    have S0 := S0.trans s26
    have hp := s26 _ _ hp
    refine ⟨by show 6 ≤ sizeLine; decide, fun q4 nq => ⟨p3, q4, _, _, rfl, rfl, same_upd nq _ _ hp, upd_same, by show 27 ≤ sizeLine; decide, fun p4 np => ?_⟩⟩
    have u0 := same_upd (o := .lst [V.ref e21, V.ref e22, V.ref e23, V.ref e24, V.ref e25, V.ref e26]) nq
    have u1 := same_upd (o := .lst [V.ref e0, V.ref e1, V.ref e2, V.ref e3, V.ref e4, V.ref e5, V.ref e6, V.ref e7, V.ref e8, V.ref e9, V.ref e10, V.ref e11, V.ref e12, V.ref e13, V.ref e14, V.ref e15, V.ref e16, V.ref e17, V.ref e18, V.ref e19, V.ref e20, V.ref e21, V.ref e22, V.ref e23, V.ref e24, V.ref e25, V.ref e26]) np
    have V0 := (V0.keep u0).keep u1
    have X0 := (X0.keep u0).keep u1
    have F0 := S0.trans u0
    have S0 := F0.trans u1
    have hp := upd_same (H := upd H26 q4 (.lst [V.ref e21, V.ref e22, V.ref e23, V.ref e24, V.ref e25, V.ref e26])) (a := p4) (o := .lst [V.ref e0, V.ref e1, V.ref e2, V.ref e3, V.ref e4, V.ref e5, V.ref e6, V.ref e7, V.ref e8, V.ref e9, V.ref e10, V.ref e11, V.ref e12, V.ref e13, V.ref e14, V.ref e15, V.ref e16, V.ref e17, V.ref e18, V.ref e19, V.ref e20, V.ref e21, V.ref e22, V.ref e23, V.ref e24, V.ref e25, V.ref e26])
    exact q _ p4 [e0, e1, e2, e3, e4, e5, e6, e7, e8, e9, e10, e11, e12, e13, e14, e15, e16, e17, e18, e19, e20, e21, e22, e23, e24, e25, e26] S0 (F0.free np) hp rfl X0 V0
end
end K00
namespace K00
open PySem PySem.Spec PyProof.Rows L2
abbrev sCls : Stmt := top 42
theorem scC : FnScope ["_law_e", "_law_found"] ["_law_e"] (defScope sCls) := ⟨rfl, rfl, rfl, by decide +kernel, rfl, by decide +kernel, by decide +kernel⟩
/-- an error of the class C stands at e -/
def EI (H : Hp) (e C : Addr) : Prop := ∃ dd, H e = some (exo e C dd) ∧ ∀ d, dd = some d → ∃ fs, H d = some (exd d fs)
theorem EI.keep {H H' : Hp} {e C : Addr} (x : EI H e C) (s : Same H H') : EI H' e C := by
  obtain ⟨dd, h1, h2⟩ := x
  exact ⟨dd, s _ _ h1, fun d hd => (h2 d hd).imp fun fs h => s _ _ h⟩
theorem EI.of {H : Hp} {e C : Addr} {fs : List (Str × V)} (x : ExcAt H e C fs) : EI H e C := by
  rcases x with ⟨_, h⟩ | ⟨d, h1, h2⟩
  · exact ⟨none, h, fun d hd => by cases hd⟩
  · exact ⟨some d, h1, fun d2 hd => by cases hd; exact ⟨fs, h2⟩⟩
def Kit (K : PySem.W.Frag) : Prop := ∀ (i j : Nat) (p q : Str × List (Str × Kd)), tab[i]? = some p → tab[j]? = some q → PySem.W.kitOne K (.ref (He.ga K p.1)) (.ref (He.ga K q.1)) = some (decide (i = j))
section
variable {P : Program} {w : World} {K : PySem.W.Frag} {mg : Str → Option Value} {base : Heap}
def oneOf (i : Nat) : List V := [V.bl (decide (i = 0)), V.bl (decide (i = 1)), V.bl (decide (i = 2)), V.bl (decide (i = 3)), V.bl (decide (i = 4)), V.bl (decide (i = 5)), V.bl (decide (i = 6)), V.bl (decide (i = 7)), V.bl (decide (i = 8)), V.bl (decide (i = 9)), V.bl (decide (i = 10)), V.bl (decide (i = 11)), V.bl (decide (i = 12)), V.bl (decide (i = 13)), V.bl (decide (i = 14)), V.bl (decide (i = 15)), V.bl (decide (i = 16)), V.bl (decide (i = 17)), V.bl (decide (i = 18)), V.bl (decide (i = 19)), V.bl (decide (i = 20)), V.bl (decide (i = 21)), V.bl (decide (i = 22)), V.bl (decide (i = 23)), V.bl (decide (i = 24)), V.bl (decide (i = 25)), V.bl (decide (i = 26))]
def spCls (K : PySem.W.Frag) : Sp := fun vs H Q _ => ∃ (e : Addr) (i : Nat) (p : Str × List (Str × Kd)), vs = [.ref e] ∧ tab[i]? = some p ∧ EI H e (He.ga K p.1) ∧ ∀ (H' : Hp) (p : Addr), Same H H' → H p = none → H' p = some (.lst (oneOf i)) → Q (.ref p) H'
theorem ok_cls {f : Addr} {fd : FuncData} (F : FnP K "_law_classes" sCls f fd) (mi : mg "isinstance" = none) (kit : Kit K) (c : ∀ (j : Nat) (p : Str × List (Str × Kd)), tab[j]? = some p → Cl P w K mg base p.1 (He.ga K p.1) (p.2.map (·.1))) : FnOk P w K mg base CX0 1 f fd ["_law_e"] (spCls K) := by
  refine F.ok scC (fun vs H Q E h => ?_) (fun cdv A outer s H vs Q E hr h => ?_)
  · obtain ⟨e, i, p, rfl, _⟩ := h
    rfl
  · obtain ⟨e, i, p, rfl, hi, x0, q⟩ := h
    have ec := (c i p hi).ec
    have S0 := Same.refl H
    refine ⟨_, PSs.nox (pss_cons (ps_set (i := 1) scC.nd rfl (.inl rfl) (pe_lst (pa_cons (pe_callB call_isV (by rfl) mi (by decide +kernel) (pa_cons (pv 0) (pa_cons (pe_glob (v := .ref (He.ga K "BadPart")) (by rfl) (c 0 _ rfl).g rfl) pa_nil))) (pa_cons (pe_callB call_isV (by rfl) mi (by decide +kernel) (pa_cons (pv 0) (pa_cons (pe_glob (v := .ref (He.ga K "BadLine")) (by rfl) (c 1 _ rfl).g rfl) pa_nil))) (pa_cons (pe_callB call_isV (by rfl) mi (by decide +kernel) (pa_cons (pv 0) (pa_cons (pe_glob (v := .ref (He.ga K "NoSuch")) (by rfl) (c 2 _ rfl).g rfl) pa_nil))) (pa_cons (pe_callB call_isV (by rfl) mi (by decide +kernel) (pa_cons (pv 0) (pa_cons (pe_glob (v := .ref (He.ga K "Unlike")) (by rfl) (c 3 _ rfl).g rfl) pa_nil))) pa_nil))))))
      (pss_cons (ps_set (i := 1) scC.nd rfl (.inl rfl) (pe_op op_cat (pv 1) (pe_lst (pa_cons (pe_callB call_isV (by rfl) mi (by decide +kernel) (pa_cons (pv 0) (pa_cons (pe_glob (v := .ref (He.ga K "BadPath")) (by rfl) (c 4 _ rfl).g rfl) pa_nil))) (pa_cons (pe_callB call_isV (by rfl) mi (by decide +kernel) (pa_cons (pv 0) (pa_cons (pe_glob (v := .ref (He.ga K "BadMove")) (by rfl) (c 5 _ rfl).g rfl) pa_nil))) (pa_cons (pe_callB call_isV (by rfl) mi (by decide +kernel) (pa_cons (pv 0) (pa_cons (pe_glob (v := .ref (He.ga K "BadPlace")) (by rfl) (c 6 _ rfl).g rfl) pa_nil))) (pa_cons (pe_callB call_isV (by rfl) mi (by decide +kernel) (pa_cons (pv 0) (pa_cons (pe_glob (v := .ref (He.ga K "BadRun")) (by rfl) (c 7 _ rfl).g rfl) pa_nil))) pa_nil)))))))
      (pss_cons (ps_set (i := 1) scC.nd rfl (.inl rfl) (pe_op op_cat (pv 1) (pe_lst (pa_cons (pe_callB call_isV (by rfl) mi (by decide +kernel) (pa_cons (pv 0) (pa_cons (pe_glob (v := .ref (He.ga K "BadPoint")) (by rfl) (c 8 _ rfl).g rfl) pa_nil))) (pa_cons (pe_callB call_isV (by rfl) mi (by decide +kernel) (pa_cons (pv 0) (pa_cons (pe_glob (v := .ref (He.ga K "TooLarge")) (by rfl) (c 9 _ rfl).g rfl) pa_nil))) (pa_cons (pe_callB call_isV (by rfl) mi (by decide +kernel) (pa_cons (pv 0) (pa_cons (pe_glob (v := .ref (He.ga K "NoRow")) (by rfl) (c 10 _ rfl).g rfl) pa_nil))) (pa_cons (pe_callB call_isV (by rfl) mi (by decide +kernel) (pa_cons (pv 0) (pa_cons (pe_glob (v := .ref (He.ga K "NoTag")) (by rfl) (c 11 _ rfl).g rfl) pa_nil))) pa_nil)))))))
      (pss_cons (ps_set (i := 1) scC.nd rfl (.inl rfl) (pe_op op_cat (pv 1) (pe_lst (pa_cons (pe_callB call_isV (by rfl) mi (by decide +kernel) (pa_cons (pv 0) (pa_cons (pe_glob (v := .ref (He.ga K "NoNode")) (by rfl) (c 12 _ rfl).g rfl) pa_nil))) (pa_cons (pe_callB call_isV (by rfl) mi (by decide +kernel) (pa_cons (pv 0) (pa_cons (pe_glob (v := .ref (He.ga K "NoFirst")) (by rfl) (c 13 _ rfl).g rfl) pa_nil))) (pa_cons (pe_callB call_isV (by rfl) mi (by decide +kernel) (pa_cons (pv 0) (pa_cons (pe_glob (v := .ref (He.ga K "WrongFirst")) (by rfl) (c 14 _ rfl).g rfl) pa_nil))) (pa_cons (pe_callB call_isV (by rfl) mi (by decide +kernel) (pa_cons (pv 0) (pa_cons (pe_glob (v := .ref (He.ga K "NoHand")) (by rfl) (c 15 _ rfl).g rfl) pa_nil))) pa_nil)))))))
      (pss_cons (ps_set (i := 1) scC.nd rfl (.inl rfl) (pe_op op_cat (pv 1) (pe_lst (pa_cons (pe_callB call_isV (by rfl) mi (by decide +kernel) (pa_cons (pv 0) (pa_cons (pe_glob (v := .ref (He.ga K "WrongMove")) (by rfl) (c 16 _ rfl).g rfl) pa_nil))) (pa_cons (pe_callB call_isV (by rfl) mi (by decide +kernel) (pa_cons (pv 0) (pa_cons (pe_glob (v := .ref (He.ga K "MustWait")) (by rfl) (c 17 _ rfl).g rfl) pa_nil))) (pa_cons (pe_callB call_isV (by rfl) mi (by decide +kernel) (pa_cons (pv 0) (pa_cons (pe_glob (v := .ref (He.ga K "Refused")) (by rfl) (c 18 _ rfl).g rfl) pa_nil))) pa_nil))))))
      (pss_cons (ps_set (i := 1) scC.nd rfl (.inl rfl) (pe_op op_cat (pv 1) (pe_lst (pa_cons (pe_callB call_isV (by rfl) mi (by decide +kernel) (pa_cons (pv 0) (pa_cons (pe_glob (v := .ref (He.ga K "Unfinished")) (by rfl) (c 19 _ rfl).g rfl) pa_nil))) (pa_cons (pe_callB call_isV (by rfl) mi (by decide +kernel) (pa_cons (pv 0) (pa_cons (pe_glob (v := .ref (He.ga K "NoRequest")) (by rfl) (c 20 _ rfl).g rfl) pa_nil))) (pa_cons (pe_callB call_isV (by rfl) mi (by decide +kernel) (pa_cons (pv 0) (pa_cons (pe_glob (v := .ref (He.ga K "NoLockOrder")) (by rfl) (c 21 _ rfl).g rfl) pa_nil))) pa_nil))))))
      (pss_cons (ps_set (i := 1) scC.nd rfl (.inl rfl) (pe_op op_cat (pv 1) (pe_lst (pa_cons (pe_callB call_isV (by rfl) mi (by decide +kernel) (pa_cons (pv 0) (pa_cons (pe_glob (v := .ref (He.ga K "BadStand")) (by rfl) (c 22 _ rfl).g rfl) pa_nil))) (pa_cons (pe_callB call_isV (by rfl) mi (by decide +kernel) (pa_cons (pv 0) (pa_cons (pe_glob (v := .ref (He.ga K "Unnested")) (by rfl) (c 23 _ rfl).g rfl) pa_nil))) (pa_cons (pe_callB call_isV (by rfl) mi (by decide +kernel) (pa_cons (pv 0) (pa_cons (pe_glob (v := .ref (He.ga K "Clash")) (by rfl) (c 24 _ rfl).g rfl) pa_nil))) pa_nil))))))
      (pss_one (ps_ret (pe_op op_cat (pv 1) (pe_lst (pa_cons (pe_callB call_isV (by rfl) mi (by decide +kernel) (pa_cons (pv 0) (pa_cons (pe_glob (v := .ref (He.ga K "NoState")) (by rfl) (c 25 _ rfl).g rfl) pa_nil))) (pa_cons (pe_callB call_isV (by rfl) mi (by decide +kernel) (pa_cons (pv 0) (pa_cons (pe_glob (v := .ref (He.ga K "NotFit")) (by rfl) (c 26 _ rfl).g rfl) pa_nil))) pa_nil))))))))))))), ?_⟩
    obtain ⟨dd, he, hd⟩ := x0
    refine ⟨.ref e, rfl, e, _, dd, .ref (He.ga K "BadPart"), .ref (He.ga K "BadPart"), decide (i = 0), rfl, he, hd, ec, fun u h => h, kit i 0 _ _ hi rfl, ⟨.ref e, rfl, e, _, dd, .ref (He.ga K "BadLine"), .ref (He.ga K "BadLine"), decide (i = 1), rfl, he, hd, ec, fun u h => h, kit i 1 _ _ hi rfl, ⟨.ref e, rfl, e, _, dd, .ref (He.ga K "NoSuch"), .ref (He.ga K "NoSuch"), decide (i = 2), rfl, he, hd, ec, fun u h => h, kit i 2 _ _ hi rfl, ⟨.ref e, rfl, e, _, dd, .ref (He.ga K "Unlike"), .ref (He.ga K "Unlike"), decide (i = 3), rfl, he, hd, ec, fun u h => h, kit i 3 _ _ hi rfl, by show 4 ≤ sizeLine; decide, fun p0 np => ?_⟩⟩⟩⟩
    have u0 := same_upd (o := .lst [V.bl (decide (i = 0)), V.bl (decide (i = 1)), V.bl (decide (i = 2)), V.bl (decide (i = 3))]) np
    have x0 := EI.keep ⟨dd, he, hd⟩ u0
    have F0 := S0
    have S0 := S0.trans u0
    have hp := upd_same (H := H) (a := p0) (o := .lst [V.bl (decide (i = 0)), V.bl (decide (i = 1)), V.bl (decide (i = 2)), V.bl (decide (i = 3))])
    generalize upd H p0 (.lst [V.bl (decide (i = 0)), V.bl (decide (i = 1)), V.bl (decide (i = 2)), V.bl (decide (i = 3))]) = G0 at x0 S0 hp
    refine ⟨.ref p0, rfl, ?_⟩
    obtain ⟨dd, he, hd⟩ := x0
    refine ⟨.ref e, rfl, e, _, dd, .ref (He.ga K "BadPath"), .ref (He.ga K "BadPath"), decide (i = 4), rfl, he, hd, ec, fun u h => h, kit i 4 _ _ hi rfl, ⟨.ref e, rfl, e, _, dd, .ref (He.ga K "BadMove"), .ref (He.ga K "BadMove"), decide (i = 5), rfl, he, hd, ec, fun u h => h, kit i 5 _ _ hi rfl, ⟨.ref e, rfl, e, _, dd, .ref (He.ga K "BadPlace"), .ref (He.ga K "BadPlace"), decide (i = 6), rfl, he, hd, ec, fun u h => h, kit i 6 _ _ hi rfl, ⟨.ref e, rfl, e, _, dd, .ref (He.ga K "BadRun"), .ref (He.ga K "BadRun"), decide (i = 7), rfl, he, hd, ec, fun u h => h, kit i 7 _ _ hi rfl, by show 4 ≤ sizeLine; decide, fun q1 nq => ⟨p0, q1, _, _, rfl, rfl, same_upd nq _ _ hp, upd_same, by show 8 ≤ sizeLine; decide, fun p1 np => ?_⟩⟩⟩⟩⟩
    have u0 := same_upd (o := .lst [V.bl (decide (i = 4)), V.bl (decide (i = 5)), V.bl (decide (i = 6)), V.bl (decide (i = 7))]) nq
    have u1 := same_upd (o := .lst [V.bl (decide (i = 0)), V.bl (decide (i = 1)), V.bl (decide (i = 2)), V.bl (decide (i = 3)), V.bl (decide (i = 4)), V.bl (decide (i = 5)), V.bl (decide (i = 6)), V.bl (decide (i = 7))]) np
    have x0 := EI.keep (EI.keep ⟨dd, he, hd⟩ u0) u1
    have F0 := S0.trans u0
    have S0 := F0.trans u1
    have hp := upd_same (H := upd G0 q1 (.lst [V.bl (decide (i = 4)), V.bl (decide (i = 5)), V.bl (decide (i = 6)), V.bl (decide (i = 7))])) (a := p1) (o := .lst [V.bl (decide (i = 0)), V.bl (decide (i = 1)), V.bl (decide (i = 2)), V.bl (decide (i = 3)), V.bl (decide (i = 4)), V.bl (decide (i = 5)), V.bl (decide (i = 6)), V.bl (decide (i = 7))])
    refine ⟨.ref p1, rfl, ?_⟩
    obtain ⟨dd, he, hd⟩ := x0
    refine ⟨.ref e, rfl, e, _, dd, .ref (He.ga K "BadPoint"), .ref (He.ga K "BadPoint"), decide (i = 8), rfl, he, hd, ec, fun u h => h, kit i 8 _ _ hi rfl, ⟨.ref e, rfl, e, _, dd, .ref (He.ga K "TooLarge"), .ref (He.ga K "TooLarge"), decide (i = 9), rfl, he, hd, ec, fun u h => h, kit i 9 _ _ hi rfl, ⟨.ref e, rfl, e, _, dd, .ref (He.ga K "NoRow"), .ref (He.ga K "NoRow"), decide (i = 10), rfl, he, hd, ec, fun u h => h, kit i 10 _ _ hi rfl, ⟨.ref e, rfl, e, _, dd, .ref (He.ga K "NoTag"), .ref (He.ga K "NoTag"), decide (i = 11), rfl, he, hd, ec, fun u h => h, kit i 11 _ _ hi rfl, by show 4 ≤ sizeLine; decide, fun q2 nq => ⟨p1, q2, _, _, rfl, rfl, same_upd nq _ _ hp, upd_same, by show 12 ≤ sizeLine; decide, fun p2 np => ?_⟩⟩⟩⟩⟩
    have u0 := same_upd (o := .lst [V.bl (decide (i = 8)), V.bl (decide (i = 9)), V.bl (decide (i = 10)), V.bl (decide (i = 11))]) nq
    have u1 := same_upd (o := .lst [V.bl (decide (i = 0)), V.bl (decide (i = 1)), V.bl (decide (i = 2)), V.bl (decide (i = 3)), V.bl (decide (i = 4)), V.bl (decide (i = 5)), V.bl (decide (i = 6)), V.bl (decide (i = 7)), V.bl (decide (i = 8)), V.bl (decide (i = 9)), V.bl (decide (i = 10)), V.bl (decide (i = 11))]) np
    have x0 := EI.keep (EI.keep ⟨dd, he, hd⟩ u0) u1
    have F0 := S0.trans u0
    have S0 := F0.trans u1
    have hp := upd_same (H := upd (upd (upd G0 q1 (.lst [V.bl (decide (i = 4)), V.bl (decide (i = 5)), V.bl (decide (i = 6)), V.bl (decide (i = 7))])) p1 (.lst [V.bl (decide (i = 0)), V.bl (decide (i = 1)), V.bl (decide (i = 2)), V.bl (decide (i = 3)), V.bl (decide (i = 4)), V.bl (decide (i = 5)), V.bl (decide (i = 6)), V.bl (decide (i = 7))])) q2 (.lst [V.bl (decide (i = 8)), V.bl (decide (i = 9)), V.bl (decide (i = 10)), V.bl (decide (i = 11))])) (a := p2) (o := .lst [V.bl (decide (i = 0)), V.bl (decide (i = 1)), V.bl (decide (i = 2)), V.bl (decide (i = 3)), V.bl (decide (i = 4)), V.bl (decide (i = 5)), V.bl (decide (i = 6)), V.bl (decide (i = 7)), V.bl (decide (i = 8)), V.bl (decide (i = 9)), V.bl (decide (i = 10)), V.bl (decide (i = 11))])
    refine ⟨.ref p2, rfl, ?_⟩
    obtain ⟨dd, he, hd⟩ := x0
    refine ⟨.ref e, rfl, e, _, dd, .ref (He.ga K "NoNode"), .ref (He.ga K "NoNode"), decide (i = 12), rfl, he, hd, ec, fun u h => h, kit i 12 _ _ hi rfl, ⟨.ref e, rfl, e, _, dd, .ref (He.ga K "NoFirst"), .ref (He.ga K "NoFirst"), decide (i = 13), rfl, he, hd, ec, fun u h => h, kit i 13 _ _ hi rfl, ⟨.ref e, rfl, e, _, dd, .ref (He.ga K "WrongFirst"), .ref (He.ga K "WrongFirst"), decide (i = 14), rfl, he, hd, ec, fun u h => h, kit i 14 _ _ hi rfl, ⟨.ref e, rfl, e, _, dd, .ref (He.ga K "NoHand"), .ref (He.ga K "NoHand"), decide (i = 15), rfl, he, hd, ec, fun u h => h, kit i 15 _ _ hi rfl, by show 4 ≤ sizeLine; decide, fun q3 nq => ⟨p2, q3, _, _, rfl, rfl, same_upd nq _ _ hp, upd_same, by show 16 ≤ sizeLine; decide, fun p3 np => ?_⟩⟩⟩⟩⟩
    have u0 := same_upd (o := .lst [V.bl (decide (i = 12)), V.bl (decide (i = 13)), V.bl (decide (i = 14)), V.bl (decide (i = 15))]) nq
    have u1 := same_upd (o := .lst [V.bl (decide (i = 0)), V.bl (decide (i = 1)), V.bl (decide (i = 2)), V.bl (decide (i = 3)), V.bl (decide (i = 4)), V.bl (decide (i = 5)), V.bl (decide (i = 6)), V.bl (decide (i = 7)), V.bl (decide (i = 8)), V.bl (decide (i = 9)), V.bl (decide (i = 10)), V.bl (decide (i = 11)), V.bl (decide (i = 12)), V.bl (decide (i = 13)), V.bl (decide (i = 14)), V.bl (decide (i = 15))]) np
    have x0 := EI.keep (EI.keep ⟨dd, he, hd⟩ u0) u1
    have F0 := S0.trans u0
    have S0 := F0.trans u1
    have hp := upd_same (H := upd (upd (upd (upd (upd G0 q1 (.lst [V.bl (decide (i = 4)), V.bl (decide (i = 5)), V.bl (decide (i = 6)), V.bl (decide (i = 7))])) p1 (.lst [V.bl (decide (i = 0)), V.bl (decide (i = 1)), V.bl (decide (i = 2)), V.bl (decide (i = 3)), V.bl (decide (i = 4)), V.bl (decide (i = 5)), V.bl (decide (i = 6)), V.bl (decide (i = 7))])) q2 (.lst [V.bl (decide (i = 8)), V.bl (decide (i = 9)), V.bl (decide (i = 10)), V.bl (decide (i = 11))])) p2 (.lst [V.bl (decide (i = 0)), V.bl (decide (i = 1)), V.bl (decide (i = 2)), V.bl (decide (i = 3)), V.bl (decide (i = 4)), V.bl (decide (i = 5)), V.bl (decide (i = 6)), V.bl (decide (i = 7)), V.bl (decide (i = 8)), V.bl (decide (i = 9)), V.bl (decide (i = 10)), V.bl (decide (i = 11))])) q3 (.lst [V.bl (decide (i = 12)), V.bl (decide (i = 13)), V.bl (decide (i = 14)), V.bl (decide (i = 15))])) (a := p3) (o := .lst [V.bl (decide (i = 0)), V.bl (decide (i = 1)), V.bl (decide (i = 2)), V.bl (decide (i = 3)), V.bl (decide (i = 4)), V.bl (decide (i = 5)), V.bl (decide (i = 6)), V.bl (decide (i = 7)), V.bl (decide (i = 8)), V.bl (decide (i = 9)), V.bl (decide (i = 10)), V.bl (decide (i = 11)), V.bl (decide (i = 12)), V.bl (decide (i = 13)), V.bl (decide (i = 14)), V.bl (decide (i = 15))])
    refine ⟨.ref p3, rfl, ?_⟩
    obtain ⟨dd, he, hd⟩ := x0
    refine ⟨.ref e, rfl, e, _, dd, .ref (He.ga K "WrongMove"), .ref (He.ga K "WrongMove"), decide (i = 16), rfl, he, hd, ec, fun u h => h, kit i 16 _ _ hi rfl, ⟨.ref e, rfl, e, _, dd, .ref (He.ga K "MustWait"), .ref (He.ga K "MustWait"), decide (i = 17), rfl, he, hd, ec, fun u h => h, kit i 17 _ _ hi rfl, ⟨.ref e, rfl, e, _, dd, .ref (He.ga K "Refused"), .ref (He.ga K "Refused"), decide (i = 18), rfl, he, hd, ec, fun u h => h, kit i 18 _ _ hi rfl, by show 3 ≤ sizeLine; decide, fun q4 nq => ⟨p3, q4, _, _, rfl, rfl, same_upd nq _ _ hp, upd_same, by show 19 ≤ sizeLine; decide, fun p4 np => ?_⟩⟩⟩⟩
    have u0 := same_upd (o := .lst [V.bl (decide (i = 16)), V.bl (decide (i = 17)), V.bl (decide (i = 18))]) nq
    have u1 := same_upd (o := .lst [V.bl (decide (i = 0)), V.bl (decide (i = 1)), V.bl (decide (i = 2)), V.bl (decide (i = 3)), V.bl (decide (i = 4)), V.bl (decide (i = 5)), V.bl (decide (i = 6)), V.bl (decide (i = 7)), V.bl (decide (i = 8)), V.bl (decide (i = 9)), V.bl (decide (i = 10)), V.bl (decide (i = 11)), V.bl (decide (i = 12)), V.bl (decide (i = 13)), V.bl (decide (i = 14)), V.bl (decide (i = 15)), V.bl (decide (i = 16)), V.bl (decide (i = 17)), V.bl (decide (i = 18))]) np
    have x0 := EI.keep (EI.keep ⟨dd, he, hd⟩ u0) u1
    have F0 := S0.trans u0
    have S0 := F0.trans u1
    have hp := upd_same (H := upd (upd (upd (upd (upd (upd (upd G0 q1 (.lst [V.bl (decide (i = 4)), V.bl (decide (i = 5)), V.bl (decide (i = 6)), V.bl (decide (i = 7))])) p1 (.lst [V.bl (decide (i = 0)), V.bl (decide (i = 1)), V.bl (decide (i = 2)), V.bl (decide (i = 3)), V.bl (decide (i = 4)), V.bl (decide (i = 5)), V.bl (decide (i = 6)), V.bl (decide (i = 7))])) q2 (.lst [V.bl (decide (i = 8)), V.bl (decide (i = 9)), V.bl (decide (i = 10)), V.bl (decide (i = 11))])) p2 (.lst [V.bl (decide (i = 0)), V.bl (decide (i = 1)), V.bl (decide (i = 2)), V.bl (decide (i = 3)), V.bl (decide (i = 4)), V.bl (decide (i = 5)), V.bl (decide (i = 6)), V.bl (decide (i = 7)), V.bl (decide (i = 8)), V.bl (decide (i = 9)), V.bl (decide (i = 10)), V.bl (decide (i = 11))])) q3 (.lst [V.bl (decide (i = 12)), V.bl (decide (i = 13)), V.bl (decide (i = 14)), V.bl (decide (i = 15))])) p3 (.lst [V.bl (decide (i = 0)), V.bl (decide (i = 1)), V.bl (decide (i = 2)), V.bl (decide (i = 3)), V.bl (decide (i = 4)), V.bl (decide (i = 5)), V.bl (decide (i = 6)), V.bl (decide (i = 7)), V.bl (decide (i = 8)), V.bl (decide (i = 9)), V.bl (decide (i = 10)), V.bl (decide (i = 11)), V.bl (decide (i = 12)), V.bl (decide (i = 13)), V.bl (decide (i = 14)), V.bl (decide (i = 15))])) q4 (.lst [V.bl (decide (i = 16)), V.bl (decide (i = 17)), V.bl (decide (i = 18))])) (a := p4) (o := .lst [V.bl (decide (i = 0)), V.bl (decide (i = 1)), V.bl (decide (i = 2)), V.bl (decide (i = 3)), V.bl (decide (i = 4)), V.bl (decide (i = 5)), V.bl (decide (i = 6)), V.bl (decide (i = 7)), V.bl (decide (i = 8)), V.bl (decide (i = 9)), V.bl (decide (i = 10)), V.bl (decide (i = 11)), V.bl (decide (i = 12)), V.bl (decide (i = 13)), V.bl (decide (i = 14)), V.bl (decide (i = 15)), V.bl (decide (i = 16)), V.bl (decide (i = 17)), V.bl (decide (i = 18))])
    refine ⟨.ref p4, rfl, ?_⟩
    obtain ⟨dd, he, hd⟩ := x0
    refine ⟨.ref e, rfl, e, _, dd, .ref (He.ga K "Unfinished"), .ref (He.ga K "Unfinished"), decide (i = 19), rfl, he, hd, ec, fun u h => h, kit i 19 _ _ hi rfl, ⟨.ref e, rfl, e, _, dd, .ref (He.ga K "NoRequest"), .ref (He.ga K "NoRequest"), decide (i = 20), rfl, he, hd, ec, fun u h => h, kit i 20 _ _ hi rfl, ⟨.ref e, rfl, e, _, dd, .ref (He.ga K "NoLockOrder"), .ref (He.ga K "NoLockOrder"), decide (i = 21), rfl, he, hd, ec, fun u h => h, kit i 21 _ _ hi rfl, by show 3 ≤ sizeLine; decide, fun q5 nq => ⟨p4, q5, _, _, rfl, rfl, same_upd nq _ _ hp, upd_same, by show 22 ≤ sizeLine; decide, fun p5 np => ?_⟩⟩⟩⟩
    have u0 := same_upd (o := .lst [V.bl (decide (i = 19)), V.bl (decide (i = 20)), V.bl (decide (i = 21))]) nq
    have u1 := same_upd (o := .lst [V.bl (decide (i = 0)), V.bl (decide (i = 1)), V.bl (decide (i = 2)), V.bl (decide (i = 3)), V.bl (decide (i = 4)), V.bl (decide (i = 5)), V.bl (decide (i = 6)), V.bl (decide (i = 7)), V.bl (decide (i = 8)), V.bl (decide (i = 9)), V.bl (decide (i = 10)), V.bl (decide (i = 11)), V.bl (decide (i = 12)), V.bl (decide (i = 13)), V.bl (decide (i = 14)), V.bl (decide (i = 15)), V.bl (decide (i = 16)), V.bl (decide (i = 17)), V.bl (decide (i = 18)), V.bl (decide (i = 19)), V.bl (decide (i = 20)), V.bl (decide (i = 21))]) np
    have x0 := EI.keep (EI.keep ⟨dd, he, hd⟩ u0) u1
    have F0 := S0.trans u0
    have S0 := F0.trans u1
    have hp := upd_same (H := upd (upd (upd (upd (upd (upd (upd (upd (upd G0 q1 (.lst [V.bl (decide (i = 4)), V.bl (decide (i = 5)), V.bl (decide (i = 6)), V.bl (decide (i = 7))])) p1 (.lst [V.bl (decide (i = 0)), V.bl (decide (i = 1)), V.bl (decide (i = 2)), V.bl (decide (i = 3)), V.bl (decide (i = 4)), V.bl (decide (i = 5)), V.bl (decide (i = 6)), V.bl (decide (i = 7))])) q2 (.lst [V.bl (decide (i = 8)), V.bl (decide (i = 9)), V.bl (decide (i = 10)), V.bl (decide (i = 11))])) p2 (.lst [V.bl (decide (i = 0)), V.bl (decide (i = 1)), V.bl (decide (i = 2)), V.bl (decide (i = 3)), V.bl (decide (i = 4)), V.bl (decide (i = 5)), V.bl (decide (i = 6)), V.bl (decide (i = 7)), V.bl (decide (i = 8)), V.bl (decide (i = 9)), V.bl (decide (i = 10)), V.bl (decide (i = 11))])) q3 (.lst [V.bl (decide (i = 12)), V.bl (decide (i = 13)), V.bl (decide (i = 14)), V.bl (decide (i = 15))])) p3 (.lst [V.bl (decide (i = 0)), V.bl (decide (i = 1)), V.bl (decide (i = 2)), V.bl (decide (i = 3)), V.bl (decide (i = 4)), V.bl (decide (i = 5)), V.bl (decide (i = 6)), V.bl (decide (i = 7)), V.bl (decide (i = 8)), V.bl (decide (i = 9)), V.bl (decide (i = 10)), V.bl (decide (i = 11)), V.bl (decide (i = 12)), V.bl (decide (i = 13)), V.bl (decide (i = 14)), V.bl (decide (i = 15))])) q4 (.lst [V.bl (decide (i = 16)), V.bl (decide (i = 17)), V.bl (decide (i = 18))])) p4 (.lst [V.bl (decide (i = 0)), V.bl (decide (i = 1)), V.bl (decide (i = 2)), V.bl (decide (i = 3)), V.bl (decide (i = 4)), V.bl (decide (i = 5)), V.bl (decide (i = 6)), V.bl (decide (i = 7)), V.bl (decide (i = 8)), V.bl (decide (i = 9)), V.bl (decide (i = 10)), V.bl (decide (i = 11)), V.bl (decide (i = 12)), V.bl (decide (i = 13)), V.bl (decide (i = 14)), V.bl (decide (i = 15)), V.bl (decide (i = 16)), V.bl (decide (i = 17)), V.bl (decide (i = 18))])) q5 (.lst [V.bl (decide (i = 19)), V.bl (decide (i = 20)), V.bl (decide (i = 21))])) (a := p5) (o := .lst [V.bl (decide (i = 0)), V.bl (decide (i = 1)), V.bl (decide (i = 2)), V.bl (decide (i = 3)), V.bl (decide (i = 4)), V.bl (decide (i = 5)), V.bl (decide (i = 6)), V.bl (decide (i = 7)), V.bl (decide (i = 8)), V.bl (decide (i = 9)), V.bl (decide (i = 10)), V.bl (decide (i = 11)), V.bl (decide (i = 12)), V.bl (decide (i = 13)), V.bl (decide (i = 14)), V.bl (decide (i = 15)), V.bl (decide (i = 16)), V.bl (decide (i = 17)), V.bl (decide (i = 18)), V.bl (decide (i = 19)), V.bl (decide (i = 20)), V.bl (decide (i = 21))])
    refine ⟨.ref p5, rfl, ?_⟩
    obtain ⟨dd, he, hd⟩ := x0
    refine ⟨.ref e, rfl, e, _, dd, .ref (He.ga K "BadStand"), .ref (He.ga K "BadStand"), decide (i = 22), rfl, he, hd, ec, fun u h => h, kit i 22 _ _ hi rfl, ⟨.ref e, rfl, e, _, dd, .ref (He.ga K "Unnested"), .ref (He.ga K "Unnested"), decide (i = 23), rfl, he, hd, ec, fun u h => h, kit i 23 _ _ hi rfl, ⟨.ref e, rfl, e, _, dd, .ref (He.ga K "Clash"), .ref (He.ga K "Clash"), decide (i = 24), rfl, he, hd, ec, fun u h => h, kit i 24 _ _ hi rfl, by show 3 ≤ sizeLine; decide, fun q6 nq => ⟨p5, q6, _, _, rfl, rfl, same_upd nq _ _ hp, upd_same, by show 25 ≤ sizeLine; decide, fun p6 np => ?_⟩⟩⟩⟩
    have u0 := same_upd (o := .lst [V.bl (decide (i = 22)), V.bl (decide (i = 23)), V.bl (decide (i = 24))]) nq
    have u1 := same_upd (o := .lst [V.bl (decide (i = 0)), V.bl (decide (i = 1)), V.bl (decide (i = 2)), V.bl (decide (i = 3)), V.bl (decide (i = 4)), V.bl (decide (i = 5)), V.bl (decide (i = 6)), V.bl (decide (i = 7)), V.bl (decide (i = 8)), V.bl (decide (i = 9)), V.bl (decide (i = 10)), V.bl (decide (i = 11)), V.bl (decide (i = 12)), V.bl (decide (i = 13)), V.bl (decide (i = 14)), V.bl (decide (i = 15)), V.bl (decide (i = 16)), V.bl (decide (i = 17)), V.bl (decide (i = 18)), V.bl (decide (i = 19)), V.bl (decide (i = 20)), V.bl (decide (i = 21)), V.bl (decide (i = 22)), V.bl (decide (i = 23)), V.bl (decide (i = 24))]) np
    have x0 := EI.keep (EI.keep ⟨dd, he, hd⟩ u0) u1
    have F0 := S0.trans u0
    have S0 := F0.trans u1
    have hp := upd_same (H := upd (upd (upd (upd (upd (upd (upd (upd (upd (upd (upd G0 q1 (.lst [V.bl (decide (i = 4)), V.bl (decide (i = 5)), V.bl (decide (i = 6)), V.bl (decide (i = 7))])) p1 (.lst [V.bl (decide (i = 0)), V.bl (decide (i = 1)), V.bl (decide (i = 2)), V.bl (decide (i = 3)), V.bl (decide (i = 4)), V.bl (decide (i = 5)), V.bl (decide (i = 6)), V.bl (decide (i = 7))])) q2 (.lst [V.bl (decide (i = 8)), V.bl (decide (i = 9)), V.bl (decide (i = 10)), V.bl (decide (i = 11))])) p2 (.lst [V.bl (decide (i = 0)), V.bl (decide (i = 1)), V.bl (decide (i = 2)), V.bl (decide (i = 3)), V.bl (decide (i = 4)), V.bl (decide (i = 5)), V.bl (decide (i = 6)), V.bl (decide (i = 7)), V.bl (decide (i = 8)), V.bl (decide (i = 9)), V.bl (decide (i = 10)), V.bl (decide (i = 11))])) q3 (.lst [V.bl (decide (i = 12)), V.bl (decide (i = 13)), V.bl (decide (i = 14)), V.bl (decide (i = 15))])) p3 (.lst [V.bl (decide (i = 0)), V.bl (decide (i = 1)), V.bl (decide (i = 2)), V.bl (decide (i = 3)), V.bl (decide (i = 4)), V.bl (decide (i = 5)), V.bl (decide (i = 6)), V.bl (decide (i = 7)), V.bl (decide (i = 8)), V.bl (decide (i = 9)), V.bl (decide (i = 10)), V.bl (decide (i = 11)), V.bl (decide (i = 12)), V.bl (decide (i = 13)), V.bl (decide (i = 14)), V.bl (decide (i = 15))])) q4 (.lst [V.bl (decide (i = 16)), V.bl (decide (i = 17)), V.bl (decide (i = 18))])) p4 (.lst [V.bl (decide (i = 0)), V.bl (decide (i = 1)), V.bl (decide (i = 2)), V.bl (decide (i = 3)), V.bl (decide (i = 4)), V.bl (decide (i = 5)), V.bl (decide (i = 6)), V.bl (decide (i = 7)), V.bl (decide (i = 8)), V.bl (decide (i = 9)), V.bl (decide (i = 10)), V.bl (decide (i = 11)), V.bl (decide (i = 12)), V.bl (decide (i = 13)), V.bl (decide (i = 14)), V.bl (decide (i = 15)), V.bl (decide (i = 16)), V.bl (decide (i = 17)), V.bl (decide (i = 18))])) q5 (.lst [V.bl (decide (i = 19)), V.bl (decide (i = 20)), V.bl (decide (i = 21))])) p5 (.lst [V.bl (decide (i = 0)), V.bl (decide (i = 1)), V.bl (decide (i = 2)), V.bl (decide (i = 3)), V.bl (decide (i = 4)), V.bl (decide (i = 5)), V.bl (decide (i = 6)), V.bl (decide (i = 7)), V.bl (decide (i = 8)), V.bl (decide (i = 9)), V.bl (decide (i = 10)), V.bl (decide (i = 11)), V.bl (decide (i = 12)), V.bl (decide (i = 13)), V.bl (decide (i = 14)), V.bl (decide (i = 15)), V.bl (decide (i = 16)), V.bl (decide (i = 17)), V.bl (decide (i = 18)), V.bl (decide (i = 19)), V.bl (decide (i = 20)), V.bl (decide (i = 21))])) q6 (.lst [V.bl (decide (i = 22)), V.bl (decide (i = 23)), V.bl (decide (i = 24))])) (a := p6) (o := .lst [V.bl (decide (i = 0)), V.bl (decide (i = 1)), V.bl (decide (i = 2)), V.bl (decide (i = 3)), V.bl (decide (i = 4)), V.bl (decide (i = 5)), V.bl (decide (i = 6)), V.bl (decide (i = 7)), V.bl (decide (i = 8)), V.bl (decide (i = 9)), V.bl (decide (i = 10)), V.bl (decide (i = 11)), V.bl (decide (i = 12)), V.bl (decide (i = 13)), V.bl (decide (i = 14)), V.bl (decide (i = 15)), V.bl (decide (i = 16)), V.bl (decide (i = 17)), V.bl (decide (i = 18)), V.bl (decide (i = 19)), V.bl (decide (i = 20)), V.bl (decide (i = 21)), V.bl (decide (i = 22)), V.bl (decide (i = 23)), V.bl (decide (i = 24))])
    refine ⟨.ref p6, rfl, ?_⟩
    obtain ⟨dd, he, hd⟩ := x0
    refine ⟨.ref e, rfl, e, _, dd, .ref (He.ga K "NoState"), .ref (He.ga K "NoState"), decide (i = 25), rfl, he, hd, ec, fun u h => h, kit i 25 _ _ hi rfl, ⟨.ref e, rfl, e, _, dd, .ref (He.ga K "NotFit"), .ref (He.ga K "NotFit"), decide (i = 26), rfl, he, hd, ec, fun u h => h, kit i 26 _ _ hi rfl, by show 2 ≤ sizeLine; decide, fun q7 nq => ⟨p6, q7, _, _, rfl, rfl, same_upd nq _ _ hp, upd_same, by show 27 ≤ sizeLine; decide, fun p7 np => ?_⟩⟩⟩
    have u0 := same_upd (o := .lst [V.bl (decide (i = 25)), V.bl (decide (i = 26))]) nq
    have u1 := same_upd (o := .lst [V.bl (decide (i = 0)), V.bl (decide (i = 1)), V.bl (decide (i = 2)), V.bl (decide (i = 3)), V.bl (decide (i = 4)), V.bl (decide (i = 5)), V.bl (decide (i = 6)), V.bl (decide (i = 7)), V.bl (decide (i = 8)), V.bl (decide (i = 9)), V.bl (decide (i = 10)), V.bl (decide (i = 11)), V.bl (decide (i = 12)), V.bl (decide (i = 13)), V.bl (decide (i = 14)), V.bl (decide (i = 15)), V.bl (decide (i = 16)), V.bl (decide (i = 17)), V.bl (decide (i = 18)), V.bl (decide (i = 19)), V.bl (decide (i = 20)), V.bl (decide (i = 21)), V.bl (decide (i = 22)), V.bl (decide (i = 23)), V.bl (decide (i = 24)), V.bl (decide (i = 25)), V.bl (decide (i = 26))]) np
    have x0 := EI.keep (EI.keep ⟨dd, he, hd⟩ u0) u1
    have F0 := S0.trans u0
    have S0 := F0.trans u1
    have hp := upd_same (H := upd (upd (upd (upd (upd (upd (upd (upd (upd (upd (upd (upd (upd G0 q1 (.lst [V.bl (decide (i = 4)), V.bl (decide (i = 5)), V.bl (decide (i = 6)), V.bl (decide (i = 7))])) p1 (.lst [V.bl (decide (i = 0)), V.bl (decide (i = 1)), V.bl (decide (i = 2)), V.bl (decide (i = 3)), V.bl (decide (i = 4)), V.bl (decide (i = 5)), V.bl (decide (i = 6)), V.bl (decide (i = 7))])) q2 (.lst [V.bl (decide (i = 8)), V.bl (decide (i = 9)), V.bl (decide (i = 10)), V.bl (decide (i = 11))])) p2 (.lst [V.bl (decide (i = 0)), V.bl (decide (i = 1)), V.bl (decide (i = 2)), V.bl (decide (i = 3)), V.bl (decide (i = 4)), V.bl (decide (i = 5)), V.bl (decide (i = 6)), V.bl (decide (i = 7)), V.bl (decide (i = 8)), V.bl (decide (i = 9)), V.bl (decide (i = 10)), V.bl (decide (i = 11))])) q3 (.lst [V.bl (decide (i = 12)), V.bl (decide (i = 13)), V.bl (decide (i = 14)), V.bl (decide (i = 15))])) p3 (.lst [V.bl (decide (i = 0)), V.bl (decide (i = 1)), V.bl (decide (i = 2)), V.bl (decide (i = 3)), V.bl (decide (i = 4)), V.bl (decide (i = 5)), V.bl (decide (i = 6)), V.bl (decide (i = 7)), V.bl (decide (i = 8)), V.bl (decide (i = 9)), V.bl (decide (i = 10)), V.bl (decide (i = 11)), V.bl (decide (i = 12)), V.bl (decide (i = 13)), V.bl (decide (i = 14)), V.bl (decide (i = 15))])) q4 (.lst [V.bl (decide (i = 16)), V.bl (decide (i = 17)), V.bl (decide (i = 18))])) p4 (.lst [V.bl (decide (i = 0)), V.bl (decide (i = 1)), V.bl (decide (i = 2)), V.bl (decide (i = 3)), V.bl (decide (i = 4)), V.bl (decide (i = 5)), V.bl (decide (i = 6)), V.bl (decide (i = 7)), V.bl (decide (i = 8)), V.bl (decide (i = 9)), V.bl (decide (i = 10)), V.bl (decide (i = 11)), V.bl (decide (i = 12)), V.bl (decide (i = 13)), V.bl (decide (i = 14)), V.bl (decide (i = 15)), V.bl (decide (i = 16)), V.bl (decide (i = 17)), V.bl (decide (i = 18))])) q5 (.lst [V.bl (decide (i = 19)), V.bl (decide (i = 20)), V.bl (decide (i = 21))])) p5 (.lst [V.bl (decide (i = 0)), V.bl (decide (i = 1)), V.bl (decide (i = 2)), V.bl (decide (i = 3)), V.bl (decide (i = 4)), V.bl (decide (i = 5)), V.bl (decide (i = 6)), V.bl (decide (i = 7)), V.bl (decide (i = 8)), V.bl (decide (i = 9)), V.bl (decide (i = 10)), V.bl (decide (i = 11)), V.bl (decide (i = 12)), V.bl (decide (i = 13)), V.bl (decide (i = 14)), V.bl (decide (i = 15)), V.bl (decide (i = 16)), V.bl (decide (i = 17)), V.bl (decide (i = 18)), V.bl (decide (i = 19)), V.bl (decide (i = 20)), V.bl (decide (i = 21))])) q6 (.lst [V.bl (decide (i = 22)), V.bl (decide (i = 23)), V.bl (decide (i = 24))])) p6 (.lst [V.bl (decide (i = 0)), V.bl (decide (i = 1)), V.bl (decide (i = 2)), V.bl (decide (i = 3)), V.bl (decide (i = 4)), V.bl (decide (i = 5)), V.bl (decide (i = 6)), V.bl (decide (i = 7)), V.bl (decide (i = 8)), V.bl (decide (i = 9)), V.bl (decide (i = 10)), V.bl (decide (i = 11)), V.bl (decide (i = 12)), V.bl (decide (i = 13)), V.bl (decide (i = 14)), V.bl (decide (i = 15)), V.bl (decide (i = 16)), V.bl (decide (i = 17)), V.bl (decide (i = 18)), V.bl (decide (i = 19)), V.bl (decide (i = 20)), V.bl (decide (i = 21)), V.bl (decide (i = 22)), V.bl (decide (i = 23)), V.bl (decide (i = 24))])) q7 (.lst [V.bl (decide (i = 25)), V.bl (decide (i = 26))])) (a := p7) (o := .lst [V.bl (decide (i = 0)), V.bl (decide (i = 1)), V.bl (decide (i = 2)), V.bl (decide (i = 3)), V.bl (decide (i = 4)), V.bl (decide (i = 5)), V.bl (decide (i = 6)), V.bl (decide (i = 7)), V.bl (decide (i = 8)), V.bl (decide (i = 9)), V.bl (decide (i = 10)), V.bl (decide (i = 11)), V.bl (decide (i = 12)), V.bl (decide (i = 13)), V.bl (decide (i = 14)), V.bl (decide (i = 15)), V.bl (decide (i = 16)), V.bl (decide (i = 17)), V.bl (decide (i = 18)), V.bl (decide (i = 19)), V.bl (decide (i = 20)), V.bl (decide (i = 21)), V.bl (decide (i = 22)), V.bl (decide (i = 23)), V.bl (decide (i = 24)), V.bl (decide (i = 25)), V.bl (decide (i = 26))])
    exact q _ p7 S0 (F0.free np) hp
end
end K00
namespace K00
open PySem PySem.Spec PyProof.Rows L2
abbrev sHold : Stmt := top 44
theorem scH : FnScope ["_law_made", "_law_number", "_law_word", "_law_rest", "_law_told", "_law_due_here"] ["_law_made", "_law_number", "_law_word", "_law_rest"] (defScope sHold) := ⟨rfl, rfl, rfl, by decide +kernel, rfl, by decide +kernel, by decide +kernel⟩
/-- e.f, shut -/
structure XvS (K : PySem.W.Frag) (f : Str) (te : TE) (σ : L2.St) (H : Hp) (Q : VK) : Prop where
  out : tXv K f te σ H Q
theorem pe_xvs {X : Cx} {e : Expr} {te : TE} {f : Str} {pos : Pos} (he : PE X e te) (hb : attributeBase e f X.env (eval e X.env) = eval e X.env := by rfl) : PE X (.Attribute e f pos) (XvS X.K f te) := ⟨fun pins s σ H Q I q => (pe_xv he hb).run pins s σ H Q I q.out⟩
theorem look_mem {f : Str} {v : V} : ∀ {l : List (Str × V)}, l.lookup f = some v → f ∈ l.map (·.1)
  | [], h => by cases h
  | (g, u) :: r, h => by
    by_cases e : f = g
    · rw [e]
      exact List.mem_cons_self
    · have q : (f == g) = false := by simpa using e
      have h2 : (match f == g with | true => some u | false => r.lookup f) = some v := h
      rw [q] at h2
      exact List.mem_cons_of_mem _ (look_mem h2)
section
variable {P : Program} {w : World} {K : PySem.W.Frag} {mg : Str → Option Value} {base : Heap}
theorem xv_read {n : Int} {wd f : Str} {t pm : Addr} {H : Hp} {es : List Addr} {j : Nat} {ji : Int} {p : Str × List (Str × Kd)} {σ : L2.St} {Q : VK} {v : V} (c : ∀ (j : Nat) (p : Str × List (Str × Kd)), tab[j]? = some p → Cl P w K mg base p.1 (He.ga K p.1) (p.2.map (·.1)))
    (X : Ex K n wd t H es) (hl : es.length = 27) (hpm : H pm = some (.lst (es.map V.ref))) (hs : σ[0]? = some (some (.ref pm))) (hp : tab[j]? = some p) (hj : decide (j < 27 ∧ ji = (j : Int) ∧ f ∈ p.2.map (·.1)) = true)
    (hv : ((p.2.map fun q => (q.1, q.2.v n wd t)).reverse).lookup f = some v) (q : Q v H) : XvS K f (tOp (rIxL K) (tVar 0) (tC (.int ji))) σ H Q := by
  obtain ⟨h27, hji, hf⟩ := of_decide_eq_true hj
  have hjl : j < es.length := by omega
  have he : es[j]? = some es[j] := List.getElem?_eq_getElem hjl
  obtain ⟨p2, hp2, hx⟩ := X j _ he
  rw [hp] at hp2
  cases hp2
  have C := c j p hp
  rcases hx with ⟨h1, _⟩ | ⟨d, h1, h2⟩
  · rw [h1] at hv
    cases hv
  · refine ⟨⟨_, hs, pm, _, ji, .ref es[j], rfl, rfl, SqL.of hpm, ?_, es[j], _, d, _, v, rfl, C.xf, C.no f hf, h1, h2, hv, q⟩⟩
    rw [hji]
    exact atI_nat (by rw [List.getElem?_map, he]; rfl)
def dAll (n : Int) (w : Str) (k : Int) : List PyData := [.str w, .int n, .str w, .tuple [.str w, .int n, .int k], .int n, .int n, .tuple [.str w, .int n, .int k], .int n, .tuple [.str w, .int n, .int k], .str w, .tuple [.str w, .int n, .int k], .str w, .tuple [.str w, .int n, .int k], .str w, .int n, .tuple [.str w, .int n, .int k], .tuple [.str w, .int n, .int k], .str w, .str w, .int n, .int n, .tuple [.str w, .int n, .int k], .int n, .tuple [.str w, .int n, .int k], .tuple [.str w, .int n, .int k], .tuple [.str w, .int n, .int k], .str w, .tuple [.str w, .int n, .int k], .tuple [.str w, .int n, .int k], .tuple [.str w, .int n, .int k], .str w]
theorem dAll_sh (n : Int) {w : Str} (k : Int) (hw : PyData.strOk w = true) : SeqAt.shaped (.list (dAll n w k)) = true := by
  unfold SeqAt.shaped dAll
  simp [PyData.canLay0, PyData.canLayAll0, PyData.depth, PyData.depthAll, hw]
theorem Vs.rest {H : Hp} {n k : Int} {w : Str} {t : Addr} (v : Vs H n w t k) : Dp K H (.ref t) (.tuple [.str w, .int n, .int k]) := .tup (SqT.of v.t) (.cons (.str w) (.cons (.int n) (.cons (.int k) .nil)))
theorem dAll_ok {H : Hp} {n k : Int} {w : Str} {t : Addr} (v : Vs H n w t k) : DpAll K H [V.str w, V.int n, V.str w, V.ref t, V.int n, V.int n, V.ref t, V.int n, V.ref t, V.str w, V.ref t, V.str w, V.ref t, V.str w, V.int n, V.ref t, V.ref t, V.str w, V.str w, V.int n, V.int n, V.ref t, V.int n, V.ref t, V.ref t, V.ref t, V.str w, V.ref t, V.ref t, V.ref t, V.str w] (dAll n w k) := .cons (.str w) (.cons (.int n) (.cons (.str w) (.cons (v.rest) (.cons (.int n) (.cons (.int n) (.cons (v.rest) (.cons (.int n) (.cons (v.rest) (.cons (.str w) (.cons (v.rest) (.cons (.str w) (.cons (v.rest) (.cons (.str w) (.cons (.int n) (.cons (v.rest) (.cons (v.rest) (.cons (.str w) (.cons (.str w) (.cons (.int n) (.cons (.int n) (.cons (v.rest) (.cons (.int n) (.cons (v.rest) (.cons (v.rest) (.cons (v.rest) (.cons (.str w) (.cons (v.rest) (.cons (v.rest) (.cons (v.rest) (.cons (.str w) (.nil)))))))))))))))))))))))))))))))
def spHold (K : PySem.W.Frag) : Sp := fun vs H Q _ => ∃ (pm : Addr) (es : List Addr) (n : Int) (wd : Str) (t : Addr) (k : Int), vs = [.ref pm, .int n, .str wd, .ref t] ∧ Vs H n wd t k ∧ es.length = 27 ∧ H pm = some (.lst (es.map V.ref)) ∧ Ex K n wd t H es ∧ ∀ H', Same H H' → Q (.bl true) H'
theorem ok_hold {f : Addr} {fd : FuncData} (F : FnP K "_law_fields_hold" sHold f fd) (c : ∀ (j : Nat) (p : Str × List (Str × Kd)), tab[j]? = some p → Cl P w K mg base p.1 (He.ga K p.1) (p.2.map (·.1))) : FnOk P w K mg base CX0 1 f fd ["_law_made", "_law_number", "_law_word", "_law_rest"] (spHold K) := by
  refine F.ok scH (fun vs H Q E h => ?_) (fun cdv A outer s H vs Q E hr h => ?_)
  · obtain ⟨pm, es, n, wd, t, k, rfl, _⟩ := h
    rfl
  · obtain ⟨pm, es, n, w, t, k, rfl, V0, hl, hpm, X, q⟩ := h
    have S0 := Same.refl H
    refine ⟨_, PSs.nox (pss_cons (ps_set (i := 4) scH.nd rfl (.inl rfl) (pe_lst (pa_cons (pe_xvs (pe_ix ix_list (pv 0) pe_int (fun _ _ => rfl))) (pa_cons (pe_xvs (pe_ix ix_list (pv 0) pe_int (fun _ _ => rfl))) (pa_cons (pe_xvs (pe_ix ix_list (pv 0) pe_int (fun _ _ => rfl))) (pa_cons (pe_xvs (pe_ix ix_list (pv 0) pe_int (fun _ _ => rfl))) (pa_cons (pe_xvs (pe_ix ix_list (pv 0) pe_int (fun _ _ => rfl))) (pa_cons (pe_xvs (pe_ix ix_list (pv 0) pe_int (fun _ _ => rfl))) pa_nil))))))))
      (pss_cons (ps_set (i := 4) scH.nd rfl (.inl rfl) (pe_op op_cat (pv 4) (pe_lst (pa_cons (pe_xvs (pe_ix ix_list (pv 0) pe_int (fun _ _ => rfl))) (pa_cons (pe_xvs (pe_ix ix_list (pv 0) pe_int (fun _ _ => rfl))) (pa_cons (pe_xvs (pe_ix ix_list (pv 0) pe_int (fun _ _ => rfl))) (pa_cons (pe_xvs (pe_ix ix_list (pv 0) pe_int (fun _ _ => rfl))) (pa_cons (pe_xvs (pe_ix ix_list (pv 0) pe_int (fun _ _ => rfl))) (pa_cons (pe_xvs (pe_ix ix_list (pv 0) pe_int (fun _ _ => rfl))) pa_nil)))))))))
      (pss_cons (ps_set (i := 4) scH.nd rfl (.inl rfl) (pe_op op_cat (pv 4) (pe_lst (pa_cons (pe_xvs (pe_ix ix_list (pv 0) pe_int (fun _ _ => rfl))) (pa_cons (pe_xvs (pe_ix ix_list (pv 0) pe_int (fun _ _ => rfl))) (pa_cons (pe_xvs (pe_ix ix_list (pv 0) pe_int (fun _ _ => rfl))) (pa_cons (pe_xvs (pe_ix ix_list (pv 0) pe_int (fun _ _ => rfl))) (pa_cons (pe_xvs (pe_ix ix_list (pv 0) pe_int (fun _ _ => rfl))) (pa_cons (pe_xvs (pe_ix ix_list (pv 0) pe_int (fun _ _ => rfl))) pa_nil)))))))))
      (pss_cons (ps_set (i := 4) scH.nd rfl (.inl rfl) (pe_op op_cat (pv 4) (pe_lst (pa_cons (pe_xvs (pe_ix ix_list (pv 0) pe_int (fun _ _ => rfl))) (pa_cons (pe_xvs (pe_ix ix_list (pv 0) pe_int (fun _ _ => rfl))) (pa_cons (pe_xvs (pe_ix ix_list (pv 0) pe_int (fun _ _ => rfl))) (pa_cons (pe_xvs (pe_ix ix_list (pv 0) pe_int (fun _ _ => rfl))) (pa_cons (pe_xvs (pe_ix ix_list (pv 0) pe_int (fun _ _ => rfl))) pa_nil))))))))
      (pss_cons (ps_set (i := 4) scH.nd rfl (.inl rfl) (pe_op op_cat (pv 4) (pe_lst (pa_cons (pe_xvs (pe_ix ix_list (pv 0) pe_int (fun _ _ => rfl))) (pa_cons (pe_xvs (pe_ix ix_list (pv 0) pe_int (fun _ _ => rfl))) (pa_cons (pe_xvs (pe_ix ix_list (pv 0) pe_int (fun _ _ => rfl))) (pa_cons (pe_xvs (pe_ix ix_list (pv 0) pe_int (fun _ _ => rfl))) (pa_cons (pe_xvs (pe_ix ix_list (pv 0) pe_int (fun _ _ => rfl))) pa_nil))))))))
      (pss_cons (ps_set (i := 4) scH.nd rfl (.inl rfl) (pe_op op_cat (pv 4) (pe_lst (pa_cons (pe_xvs (pe_ix ix_list (pv 0) pe_int (fun _ _ => rfl))) (pa_cons (pe_xvs (pe_ix ix_list (pv 0) pe_int (fun _ _ => rfl))) (pa_cons (pe_xvs (pe_ix ix_list (pv 0) pe_int (fun _ _ => rfl))) pa_nil))))))
      (pss_cons (ps_set (i := 5) scH.nd rfl (.inl rfl) (pe_lst (pa_cons (pv 2) (pa_cons (pv 1) (pa_cons (pv 2) (pa_cons (pv 3) (pa_cons (pv 1) (pa_cons (pv 1) (pa_cons (pv 3) (pa_cons (pv 1) (pa_cons (pv 3) (pa_cons (pv 2) (pa_cons (pv 3) (pa_cons (pv 2) pa_nil))))))))))))))
      (pss_cons (ps_set (i := 5) scH.nd rfl (.inl rfl) (pe_op op_cat (pv 5) (pe_lst (pa_cons (pv 3) (pa_cons (pv 2) (pa_cons (pv 1) (pa_cons (pv 3) (pa_cons (pv 3) (pa_cons (pv 2) (pa_cons (pv 2) (pa_cons (pv 1) (pa_cons (pv 1) (pa_cons (pv 3) (pa_cons (pv 1) pa_nil))))))))))))))
      (pss_one (ps_ret (pe_cmpR (op_eqD hr.units) (pv 4) (pe_op op_cat (pv 5) (pe_lst (pa_cons (pv 3) (pa_cons (pv 3) (pa_cons (pv 3) (pa_cons (pv 2) (pa_cons (pv 3) (pa_cons (pv 3) (pa_cons (pv 3) (pa_cons (pv 2) pa_nil)))))))))) (nomark _)))))))))))), ?_⟩
    refine xv_read (j := 0) c X hl hpm rfl rfl (by decide +kernel) rfl ?_
    refine xv_read (j := 1) c X hl hpm rfl rfl (by decide +kernel) rfl ?_
    refine xv_read (j := 1) c X hl hpm rfl rfl (by decide +kernel) rfl ?_
    refine xv_read (j := 2) c X hl hpm rfl rfl (by decide +kernel) rfl ?_
    refine xv_read (j := 4) c X hl hpm rfl rfl (by decide +kernel) rfl ?_
    refine xv_read (j := 5) c X hl hpm rfl rfl (by decide +kernel) rfl ?_
    refine ⟨by show 6 ≤ sizeLine; decide, fun p0 np => ?_⟩
    have u0 := same_upd (o := .lst [V.str w, V.int n, V.str w, V.ref t, V.int n, V.int n]) np
    have X := X.keep u0
    have hpm := u0 _ _ hpm
    have V0 := V0.keep u0
    have S0 := S0.trans u0
    have h4 := upd_same (H := H) (a := p0) (o := .lst [V.str w, V.int n, V.str w, V.ref t, V.int n, V.int n])
    refine ⟨.ref p0, rfl, ?_⟩
    refine xv_read (j := 6) c X hl hpm rfl rfl (by decide +kernel) rfl ?_
    refine xv_read (j := 7) c X hl hpm rfl rfl (by decide +kernel) rfl ?_
    refine xv_read (j := 8) c X hl hpm rfl rfl (by decide +kernel) rfl ?_
    refine xv_read (j := 9) c X hl hpm rfl rfl (by decide +kernel) rfl ?_
    refine xv_read (j := 10) c X hl hpm rfl rfl (by decide +kernel) rfl ?_
    refine xv_read (j := 11) c X hl hpm rfl rfl (by decide +kernel) rfl ?_
    refine ⟨by show 6 ≤ sizeLine; decide, fun q1 nq => ⟨p0, q1, _, _, rfl, rfl, same_upd nq _ _ h4, upd_same, by show 12 ≤ sizeLine; decide, fun p1 np => ?_⟩⟩
    have u0 := same_upd (o := .lst [V.ref t, V.int n, V.ref t, V.str w, V.ref t, V.str w]) nq
    have X := X.keep u0
    have hpm := u0 _ _ hpm
    have V0 := V0.keep u0
    have S0 := S0.trans u0
    have u0 := same_upd (o := .lst [V.str w, V.int n, V.str w, V.ref t, V.int n, V.int n, V.ref t, V.int n, V.ref t, V.str w, V.ref t, V.str w]) np
    have X := X.keep u0
    have hpm := u0 _ _ hpm
    have V0 := V0.keep u0
    have S0 := S0.trans u0
    have h4 := upd_same (H := upd (upd H p0 (.lst [V.str w, V.int n, V.str w, V.ref t, V.int n, V.int n])) q1 (.lst [V.ref t, V.int n, V.ref t, V.str w, V.ref t, V.str w])) (a := p1) (o := .lst [V.str w, V.int n, V.str w, V.ref t, V.int n, V.int n, V.ref t, V.int n, V.ref t, V.str w, V.ref t, V.str w])
    refine ⟨.ref p1, rfl, ?_⟩
    refine xv_read (j := 12) c X hl hpm rfl rfl (by decide +kernel) rfl ?_
    refine xv_read (j := 13) c X hl hpm rfl rfl (by decide +kernel) rfl ?_
    refine xv_read (j := 14) c X hl hpm rfl rfl (by decide +kernel) rfl ?_
    refine xv_read (j := 15) c X hl hpm rfl rfl (by decide +kernel) rfl ?_
    refine xv_read (j := 16) c X hl hpm rfl rfl (by decide +kernel) rfl ?_
    refine xv_read (j := 16) c X hl hpm rfl rfl (by decide +kernel) rfl ?_
    refine ⟨by show 6 ≤ sizeLine; decide, fun q2 nq => ⟨p1, q2, _, _, rfl, rfl, same_upd nq _ _ h4, upd_same, by show 18 ≤ sizeLine; decide, fun p2 np => ?_⟩⟩
    have u0 := same_upd (o := .lst [V.ref t, V.str w, V.int n, V.ref t, V.ref t, V.str w]) nq
    have X := X.keep u0
    have hpm := u0 _ _ hpm
    have V0 := V0.keep u0
    have S0 := S0.trans u0
    have u0 := same_upd (o := .lst [V.str w, V.int n, V.str w, V.ref t, V.int n, V.int n, V.ref t, V.int n, V.ref t, V.str w, V.ref t, V.str w, V.ref t, V.str w, V.int n, V.ref t, V.ref t, V.str w]) np
    have X := X.keep u0
    have hpm := u0 _ _ hpm
    have V0 := V0.keep u0
    have S0 := S0.trans u0
    have h4 := upd_same (H := upd (upd (upd (upd H p0 (.lst [V.str w, V.int n, V.str w, V.ref t, V.int n, V.int n])) q1 (.lst [V.ref t, V.int n, V.ref t, V.str w, V.ref t, V.str w])) p1 (.lst [V.str w, V.int n, V.str w, V.ref t, V.int n, V.int n, V.ref t, V.int n, V.ref t, V.str w, V.ref t, V.str w])) q2 (.lst [V.ref t, V.str w, V.int n, V.ref t, V.ref t, V.str w])) (a := p2) (o := .lst [V.str w, V.int n, V.str w, V.ref t, V.int n, V.int n, V.ref t, V.int n, V.ref t, V.str w, V.ref t, V.str w, V.ref t, V.str w, V.int n, V.ref t, V.ref t, V.str w])
    refine ⟨.ref p2, rfl, ?_⟩
    refine xv_read (j := 17) c X hl hpm rfl rfl (by decide +kernel) rfl ?_
    refine xv_read (j := 17) c X hl hpm rfl rfl (by decide +kernel) rfl ?_
    refine xv_read (j := 18) c X hl hpm rfl rfl (by decide +kernel) rfl ?_
    refine xv_read (j := 19) c X hl hpm rfl rfl (by decide +kernel) rfl ?_
    refine xv_read (j := 19) c X hl hpm rfl rfl (by decide +kernel) rfl ?_
    refine ⟨by show 5 ≤ sizeLine; decide, fun q3 nq => ⟨p2, q3, _, _, rfl, rfl, same_upd nq _ _ h4, upd_same, by show 23 ≤ sizeLine; decide, fun p3 np => ?_⟩⟩
    have u0 := same_upd (o := .lst [V.str w, V.int n, V.int n, V.ref t, V.int n]) nq
    have X := X.keep u0
    have hpm := u0 _ _ hpm
    have V0 := V0.keep u0
    have S0 := S0.trans u0
    have u0 := same_upd (o := .lst [V.str w, V.int n, V.str w, V.ref t, V.int n, V.int n, V.ref t, V.int n, V.ref t, V.str w, V.ref t, V.str w, V.ref t, V.str w, V.int n, V.ref t, V.ref t, V.str w, V.str w, V.int n, V.int n, V.ref t, V.int n]) np
    have X := X.keep u0
    have hpm := u0 _ _ hpm
    have V0 := V0.keep u0
    have S0 := S0.trans u0
    have h4 := upd_same (H := upd (upd (upd (upd (upd (upd H p0 (.lst [V.str w, V.int n, V.str w, V.ref t, V.int n, V.int n])) q1 (.lst [V.ref t, V.int n, V.ref t, V.str w, V.ref t, V.str w])) p1 (.lst [V.str w, V.int n, V.str w, V.ref t, V.int n, V.int n, V.ref t, V.int n, V.ref t, V.str w, V.ref t, V.str w])) q2 (.lst [V.ref t, V.str w, V.int n, V.ref t, V.ref t, V.str w])) p2 (.lst [V.str w, V.int n, V.str w, V.ref t, V.int n, V.int n, V.ref t, V.int n, V.ref t, V.str w, V.ref t, V.str w, V.ref t, V.str w, V.int n, V.ref t, V.ref t, V.str w])) q3 (.lst [V.str w, V.int n, V.int n, V.ref t, V.int n])) (a := p3) (o := .lst [V.str w, V.int n, V.str w, V.ref t, V.int n, V.int n, V.ref t, V.int n, V.ref t, V.str w, V.ref t, V.str w, V.ref t, V.str w, V.int n, V.ref t, V.ref t, V.str w, V.str w, V.int n, V.int n, V.ref t, V.int n])
    refine ⟨.ref p3, rfl, ?_⟩
    refine xv_read (j := 20) c X hl hpm rfl rfl (by decide +kernel) rfl ?_
    refine xv_read (j := 21) c X hl hpm rfl rfl (by decide +kernel) rfl ?_
    refine xv_read (j := 22) c X hl hpm rfl rfl (by decide +kernel) rfl ?_
    refine xv_read (j := 23) c X hl hpm rfl rfl (by decide +kernel) rfl ?_
    refine xv_read (j := 23) c X hl hpm rfl rfl (by decide +kernel) rfl ?_
    refine ⟨by show 5 ≤ sizeLine; decide, fun q4 nq => ⟨p3, q4, _, _, rfl, rfl, same_upd nq _ _ h4, upd_same, by show 28 ≤ sizeLine; decide, fun p4 np => ?_⟩⟩
    have u0 := same_upd (o := .lst [V.ref t, V.ref t, V.ref t, V.str w, V.ref t]) nq
    have X := X.keep u0
    have hpm := u0 _ _ hpm
    have V0 := V0.keep u0
    have S0 := S0.trans u0
    have u0 := same_upd (o := .lst [V.str w, V.int n, V.str w, V.ref t, V.int n, V.int n, V.ref t, V.int n, V.ref t, V.str w, V.ref t, V.str w, V.ref t, V.str w, V.int n, V.ref t, V.ref t, V.str w, V.str w, V.int n, V.int n, V.ref t, V.int n, V.ref t, V.ref t, V.ref t, V.str w, V.ref t]) np
    have X := X.keep u0
    have hpm := u0 _ _ hpm
    have V0 := V0.keep u0
    have S0 := S0.trans u0
    have h4 := upd_same (H := upd (upd (upd (upd (upd (upd (upd (upd H p0 (.lst [V.str w, V.int n, V.str w, V.ref t, V.int n, V.int n])) q1 (.lst [V.ref t, V.int n, V.ref t, V.str w, V.ref t, V.str w])) p1 (.lst [V.str w, V.int n, V.str w, V.ref t, V.int n, V.int n, V.ref t, V.int n, V.ref t, V.str w, V.ref t, V.str w])) q2 (.lst [V.ref t, V.str w, V.int n, V.ref t, V.ref t, V.str w])) p2 (.lst [V.str w, V.int n, V.str w, V.ref t, V.int n, V.int n, V.ref t, V.int n, V.ref t, V.str w, V.ref t, V.str w, V.ref t, V.str w, V.int n, V.ref t, V.ref t, V.str w])) q3 (.lst [V.str w, V.int n, V.int n, V.ref t, V.int n])) p3 (.lst [V.str w, V.int n, V.str w, V.ref t, V.int n, V.int n, V.ref t, V.int n, V.ref t, V.str w, V.ref t, V.str w, V.ref t, V.str w, V.int n, V.ref t, V.ref t, V.str w, V.str w, V.int n, V.int n, V.ref t, V.int n])) q4 (.lst [V.ref t, V.ref t, V.ref t, V.str w, V.ref t])) (a := p4) (o := .lst [V.str w, V.int n, V.str w, V.ref t, V.int n, V.int n, V.ref t, V.int n, V.ref t, V.str w, V.ref t, V.str w, V.ref t, V.str w, V.int n, V.ref t, V.ref t, V.str w, V.str w, V.int n, V.int n, V.ref t, V.int n, V.ref t, V.ref t, V.ref t, V.str w, V.ref t])
    refine ⟨.ref p4, rfl, ?_⟩
    refine xv_read (j := 24) c X hl hpm rfl rfl (by decide +kernel) rfl ?_
    refine xv_read (j := 25) c X hl hpm rfl rfl (by decide +kernel) rfl ?_
    refine xv_read (j := 26) c X hl hpm rfl rfl (by decide +kernel) rfl ?_
    refine ⟨by show 3 ≤ sizeLine; decide, fun q5 nq => ⟨p4, q5, _, _, rfl, rfl, same_upd nq _ _ h4, upd_same, by show 31 ≤ sizeLine; decide, fun p5 np => ?_⟩⟩
    have u0 := same_upd (o := .lst [V.ref t, V.ref t, V.str w]) nq
    have X := X.keep u0
    have hpm := u0 _ _ hpm
    have V0 := V0.keep u0
    have S0 := S0.trans u0
    have u0 := same_upd (o := .lst [V.str w, V.int n, V.str w, V.ref t, V.int n, V.int n, V.ref t, V.int n, V.ref t, V.str w, V.ref t, V.str w, V.ref t, V.str w, V.int n, V.ref t, V.ref t, V.str w, V.str w, V.int n, V.int n, V.ref t, V.int n, V.ref t, V.ref t, V.ref t, V.str w, V.ref t, V.ref t, V.ref t, V.str w]) np
    have X := X.keep u0
    have hpm := u0 _ _ hpm
    have V0 := V0.keep u0
    have S0 := S0.trans u0
    have h4 := upd_same (H := upd (upd (upd (upd (upd (upd (upd (upd (upd (upd H p0 (.lst [V.str w, V.int n, V.str w, V.ref t, V.int n, V.int n])) q1 (.lst [V.ref t, V.int n, V.ref t, V.str w, V.ref t, V.str w])) p1 (.lst [V.str w, V.int n, V.str w, V.ref t, V.int n, V.int n, V.ref t, V.int n, V.ref t, V.str w, V.ref t, V.str w])) q2 (.lst [V.ref t, V.str w, V.int n, V.ref t, V.ref t, V.str w])) p2 (.lst [V.str w, V.int n, V.str w, V.ref t, V.int n, V.int n, V.ref t, V.int n, V.ref t, V.str w, V.ref t, V.str w, V.ref t, V.str w, V.int n, V.ref t, V.ref t, V.str w])) q3 (.lst [V.str w, V.int n, V.int n, V.ref t, V.int n])) p3 (.lst [V.str w, V.int n, V.str w, V.ref t, V.int n, V.int n, V.ref t, V.int n, V.ref t, V.str w, V.ref t, V.str w, V.ref t, V.str w, V.int n, V.ref t, V.ref t, V.str w, V.str w, V.int n, V.int n, V.ref t, V.int n])) q4 (.lst [V.ref t, V.ref t, V.ref t, V.str w, V.ref t])) p4 (.lst [V.str w, V.int n, V.str w, V.ref t, V.int n, V.int n, V.ref t, V.int n, V.ref t, V.str w, V.ref t, V.str w, V.ref t, V.str w, V.int n, V.ref t, V.ref t, V.str w, V.str w, V.int n, V.int n, V.ref t, V.int n, V.ref t, V.ref t, V.ref t, V.str w, V.ref t])) q5 (.lst [V.ref t, V.ref t, V.str w])) (a := p5) (o := .lst [V.str w, V.int n, V.str w, V.ref t, V.int n, V.int n, V.ref t, V.int n, V.ref t, V.str w, V.ref t, V.str w, V.ref t, V.str w, V.int n, V.ref t, V.ref t, V.str w, V.str w, V.int n, V.int n, V.ref t, V.int n, V.ref t, V.ref t, V.ref t, V.str w, V.ref t, V.ref t, V.ref t, V.str w])
    refine ⟨.str w, rfl, ⟨.int n, rfl, ⟨.str w, rfl, ⟨.ref t, rfl, ⟨.int n, rfl, ⟨.int n, rfl, ⟨.ref t, rfl, ⟨.int n, rfl, ⟨.ref t, rfl, ⟨.str w, rfl, ⟨.ref t, rfl, ⟨.str w, rfl, by show 12 ≤ sizeLine; decide, fun r0 np => ?_⟩⟩⟩⟩⟩⟩⟩⟩⟩⟩⟩⟩
    have u0 := same_upd (o := .lst [V.str w, V.int n, V.str w, V.ref t, V.int n, V.int n, V.ref t, V.int n, V.ref t, V.str w, V.ref t, V.str w]) np
    have V0 := V0.keep u0
    have S0 := S0.trans u0
    have h4 := u0 _ _ h4
    have h5 := upd_same (H := (upd (upd (upd (upd (upd (upd (upd (upd (upd (upd (upd H p0 (.lst [V.str w, V.int n, V.str w, V.ref t, V.int n, V.int n])) q1 (.lst [V.ref t, V.int n, V.ref t, V.str w, V.ref t, V.str w])) p1 (.lst [V.str w, V.int n, V.str w, V.ref t, V.int n, V.int n, V.ref t, V.int n, V.ref t, V.str w, V.ref t, V.str w])) q2 (.lst [V.ref t, V.str w, V.int n, V.ref t, V.ref t, V.str w])) p2 (.lst [V.str w, V.int n, V.str w, V.ref t, V.int n, V.int n, V.ref t, V.int n, V.ref t, V.str w, V.ref t, V.str w, V.ref t, V.str w, V.int n, V.ref t, V.ref t, V.str w])) q3 (.lst [V.str w, V.int n, V.int n, V.ref t, V.int n])) p3 (.lst [V.str w, V.int n, V.str w, V.ref t, V.int n, V.int n, V.ref t, V.int n, V.ref t, V.str w, V.ref t, V.str w, V.ref t, V.str w, V.int n, V.ref t, V.ref t, V.str w, V.str w, V.int n, V.int n, V.ref t, V.int n])) q4 (.lst [V.ref t, V.ref t, V.ref t, V.str w, V.ref t])) p4 (.lst [V.str w, V.int n, V.str w, V.ref t, V.int n, V.int n, V.ref t, V.int n, V.ref t, V.str w, V.ref t, V.str w, V.ref t, V.str w, V.int n, V.ref t, V.ref t, V.str w, V.str w, V.int n, V.int n, V.ref t, V.int n, V.ref t, V.ref t, V.ref t, V.str w, V.ref t])) q5 (.lst [V.ref t, V.ref t, V.str w])) p5 (.lst [V.str w, V.int n, V.str w, V.ref t, V.int n, V.int n, V.ref t, V.int n, V.ref t, V.str w, V.ref t, V.str w, V.ref t, V.str w, V.int n, V.ref t, V.ref t, V.str w, V.str w, V.int n, V.int n, V.ref t, V.int n, V.ref t, V.ref t, V.ref t, V.str w, V.ref t, V.ref t, V.ref t, V.str w]))) (a := r0) (o := .lst [V.str w, V.int n, V.str w, V.ref t, V.int n, V.int n, V.ref t, V.int n, V.ref t, V.str w, V.ref t, V.str w])
    refine ⟨.ref r0, rfl, ?_⟩
    refine ⟨.ref t, rfl, ⟨.str w, rfl, ⟨.int n, rfl, ⟨.ref t, rfl, ⟨.ref t, rfl, ⟨.str w, rfl, ⟨.str w, rfl, ⟨.int n, rfl, ⟨.int n, rfl, ⟨.ref t, rfl, ⟨.int n, rfl, by show 11 ≤ sizeLine; decide, fun q11 nq => ⟨r0, q11, _, _, rfl, rfl, same_upd nq _ _ h5, upd_same, by show 23 ≤ sizeLine; decide, fun r1 np => ?_⟩⟩⟩⟩⟩⟩⟩⟩⟩⟩⟩⟩
    have u0 := same_upd (o := .lst [V.ref t, V.str w, V.int n, V.ref t, V.ref t, V.str w, V.str w, V.int n, V.int n, V.ref t, V.int n]) nq
    have u1 := same_upd (o := .lst [V.str w, V.int n, V.str w, V.ref t, V.int n, V.int n, V.ref t, V.int n, V.ref t, V.str w, V.ref t, V.str w, V.ref t, V.str w, V.int n, V.ref t, V.ref t, V.str w, V.str w, V.int n, V.int n, V.ref t, V.int n]) np
    have V0 := (V0.keep u0).keep u1
    have S0 := (S0.trans u0).trans u1
    have h4 := u1 _ _ (u0 _ _ h4)
    have h5 := upd_same (H := upd (upd (upd (upd (upd (upd (upd (upd (upd (upd (upd (upd (upd H p0 (.lst [V.str w, V.int n, V.str w, V.ref t, V.int n, V.int n])) q1 (.lst [V.ref t, V.int n, V.ref t, V.str w, V.ref t, V.str w])) p1 (.lst [V.str w, V.int n, V.str w, V.ref t, V.int n, V.int n, V.ref t, V.int n, V.ref t, V.str w, V.ref t, V.str w])) q2 (.lst [V.ref t, V.str w, V.int n, V.ref t, V.ref t, V.str w])) p2 (.lst [V.str w, V.int n, V.str w, V.ref t, V.int n, V.int n, V.ref t, V.int n, V.ref t, V.str w, V.ref t, V.str w, V.ref t, V.str w, V.int n, V.ref t, V.ref t, V.str w])) q3 (.lst [V.str w, V.int n, V.int n, V.ref t, V.int n])) p3 (.lst [V.str w, V.int n, V.str w, V.ref t, V.int n, V.int n, V.ref t, V.int n, V.ref t, V.str w, V.ref t, V.str w, V.ref t, V.str w, V.int n, V.ref t, V.ref t, V.str w, V.str w, V.int n, V.int n, V.ref t, V.int n])) q4 (.lst [V.ref t, V.ref t, V.ref t, V.str w, V.ref t])) p4 (.lst [V.str w, V.int n, V.str w, V.ref t, V.int n, V.int n, V.ref t, V.int n, V.ref t, V.str w, V.ref t, V.str w, V.ref t, V.str w, V.int n, V.ref t, V.ref t, V.str w, V.str w, V.int n, V.int n, V.ref t, V.int n, V.ref t, V.ref t, V.ref t, V.str w, V.ref t])) q5 (.lst [V.ref t, V.ref t, V.str w])) p5 (.lst [V.str w, V.int n, V.str w, V.ref t, V.int n, V.int n, V.ref t, V.int n, V.ref t, V.str w, V.ref t, V.str w, V.ref t, V.str w, V.int n, V.ref t, V.ref t, V.str w, V.str w, V.int n, V.int n, V.ref t, V.int n, V.ref t, V.ref t, V.ref t, V.str w, V.ref t, V.ref t, V.ref t, V.str w])) r0 (.lst [V.str w, V.int n, V.str w, V.ref t, V.int n, V.int n, V.ref t, V.int n, V.ref t, V.str w, V.ref t, V.str w])) q11 (.lst [V.ref t, V.str w, V.int n, V.ref t, V.ref t, V.str w, V.str w, V.int n, V.int n, V.ref t, V.int n])) (a := r1) (o := .lst [V.str w, V.int n, V.str w, V.ref t, V.int n, V.int n, V.ref t, V.int n, V.ref t, V.str w, V.ref t, V.str w, V.ref t, V.str w, V.int n, V.ref t, V.ref t, V.str w, V.str w, V.int n, V.int n, V.ref t, V.int n])
    refine ⟨.ref p5, rfl, .ref r1, rfl, ?_⟩
    refine ⟨.ref t, rfl, ⟨.ref t, rfl, ⟨.ref t, rfl, ⟨.str w, rfl, ⟨.ref t, rfl, ⟨.ref t, rfl, ⟨.ref t, rfl, ⟨.str w, rfl, by show 8 ≤ sizeLine; decide, fun q12 nq => ⟨r1, q12, _, _, rfl, rfl, same_upd nq _ _ h5, upd_same, by show 31 ≤ sizeLine; decide, fun r2 np => ?_⟩⟩⟩⟩⟩⟩⟩⟩⟩
    have u0 := same_upd (o := .lst [V.ref t, V.ref t, V.ref t, V.str w, V.ref t, V.ref t, V.ref t, V.str w]) nq
    have u1 := same_upd (o := .lst [V.str w, V.int n, V.str w, V.ref t, V.int n, V.int n, V.ref t, V.int n, V.ref t, V.str w, V.ref t, V.str w, V.ref t, V.str w, V.int n, V.ref t, V.ref t, V.str w, V.str w, V.int n, V.int n, V.ref t, V.int n, V.ref t, V.ref t, V.ref t, V.str w, V.ref t, V.ref t, V.ref t, V.str w]) np
    have V0 := (V0.keep u0).keep u1
    have S0 := (S0.trans u0).trans u1
    have h4 := u1 _ _ (u0 _ _ h4)
    have h5 := upd_same (H := upd (upd (upd (upd (upd (upd (upd (upd (upd (upd (upd (upd (upd (upd (upd H p0 (.lst [V.str w, V.int n, V.str w, V.ref t, V.int n, V.int n])) q1 (.lst [V.ref t, V.int n, V.ref t, V.str w, V.ref t, V.str w])) p1 (.lst [V.str w, V.int n, V.str w, V.ref t, V.int n, V.int n, V.ref t, V.int n, V.ref t, V.str w, V.ref t, V.str w])) q2 (.lst [V.ref t, V.str w, V.int n, V.ref t, V.ref t, V.str w])) p2 (.lst [V.str w, V.int n, V.str w, V.ref t, V.int n, V.int n, V.ref t, V.int n, V.ref t, V.str w, V.ref t, V.str w, V.ref t, V.str w, V.int n, V.ref t, V.ref t, V.str w])) q3 (.lst [V.str w, V.int n, V.int n, V.ref t, V.int n])) p3 (.lst [V.str w, V.int n, V.str w, V.ref t, V.int n, V.int n, V.ref t, V.int n, V.ref t, V.str w, V.ref t, V.str w, V.ref t, V.str w, V.int n, V.ref t, V.ref t, V.str w, V.str w, V.int n, V.int n, V.ref t, V.int n])) q4 (.lst [V.ref t, V.ref t, V.ref t, V.str w, V.ref t])) p4 (.lst [V.str w, V.int n, V.str w, V.ref t, V.int n, V.int n, V.ref t, V.int n, V.ref t, V.str w, V.ref t, V.str w, V.ref t, V.str w, V.int n, V.ref t, V.ref t, V.str w, V.str w, V.int n, V.int n, V.ref t, V.int n, V.ref t, V.ref t, V.ref t, V.str w, V.ref t])) q5 (.lst [V.ref t, V.ref t, V.str w])) p5 (.lst [V.str w, V.int n, V.str w, V.ref t, V.int n, V.int n, V.ref t, V.int n, V.ref t, V.str w, V.ref t, V.str w, V.ref t, V.str w, V.int n, V.ref t, V.ref t, V.str w, V.str w, V.int n, V.int n, V.ref t, V.int n, V.ref t, V.ref t, V.ref t, V.str w, V.ref t, V.ref t, V.ref t, V.str w])) r0 (.lst [V.str w, V.int n, V.str w, V.ref t, V.int n, V.int n, V.ref t, V.int n, V.ref t, V.str w, V.ref t, V.str w])) q11 (.lst [V.ref t, V.str w, V.int n, V.ref t, V.ref t, V.str w, V.str w, V.int n, V.int n, V.ref t, V.int n])) r1 (.lst [V.str w, V.int n, V.str w, V.ref t, V.int n, V.int n, V.ref t, V.int n, V.ref t, V.str w, V.ref t, V.str w, V.ref t, V.str w, V.int n, V.ref t, V.ref t, V.str w, V.str w, V.int n, V.int n, V.ref t, V.int n])) q12 (.lst [V.ref t, V.ref t, V.ref t, V.str w, V.ref t, V.ref t, V.ref t, V.str w])) (a := r2) (o := .lst [V.str w, V.int n, V.str w, V.ref t, V.int n, V.int n, V.ref t, V.int n, V.ref t, V.str w, V.ref t, V.str w, V.ref t, V.str w, V.int n, V.ref t, V.ref t, V.str w, V.str w, V.int n, V.int n, V.ref t, V.int n, V.ref t, V.ref t, V.ref t, V.str w, V.ref t, V.ref t, V.ref t, V.str w])
    refine ⟨.list (dAll n w k), .list (dAll n w k), .lst (SqL.of h4) (dAll_ok V0), .lst (SqL.of h5) (dAll_ok V0), dAll_sh n k V0.o, dAll_sh n k V0.o, ?_⟩
    rw [SeqAt.eqv_refl _ (SeqAt.canLay_of_shaped (dAll_sh n k V0.o))]
    exact q _ S0
end
end K00
namespace K00
open PySem PySem.Spec PyProof.Rows L2
abbrev sLaw : Stmt := top 45
abbrev nL : List Str := ["_law_script", "_law_draws_here", "_law_words_here", "_law_rules", "_law_turn", "_law_value_here", "_law_actual", "_law_word", "_law_number", "_law_rest", "_law_made", "_law_at", "_law_e", "_law_k", "_law_one"]
theorem scL : FnScope nL ["_law_script"] (defScope sLaw) := ⟨rfl, rfl, rfl, by decide +kernel, rfl, by decide +kernel, by decide +kernel⟩
def RUL : List Str := ["form", "place", "many", "pair", "twice", "scope", "unknown", "fit", "needs", "order", "end"]
theorem res_no : ∀ s ∈ RES, isName s = false ∧ s.length ≤ 1000 := by decide +kernel
theorem rul_ok : ∀ s ∈ RUL, PyData.strOk s = true ∧ (reprText s).length ≤ 1000 ∧ s.length ≤ 1000 := by decide +kernel
theorem strs_dp {K : PySem.W.Frag} {H : Hp} : ∀ l : List Str, DpAll K H (l.map V.str) (l.map PyData.str)
  | [] => .nil
  | x :: r => .cons (.str x) (strs_dp r)
theorem RES_sh : SeqAt.shaped (.list (RES.map PyData.str)) = true := by decide +kernel
theorem RUL_sh : SeqAt.shaped (.list (RUL.map PyData.str)) = true := by decide +kernel
theorem Ask.keep {H H' : Hp} {v : V} {b : Bool} (a : Ask H v b) (s : Same H H') : Ask H' v b := by
  cases a with
  | str x h => exact .str x h
  | non => exact .non
  | bl k => exact .bl k
  | int i => exact .int i
  | lst p xs h => exact .lst p xs (s _ _ h)
  | tup p xs h => exact .tup p xs (s _ _ h)
theorem Dr.same {H H1 H2 : Hp} {pd : Addr} (d : Dr H H1 pd) (s : Same H1 H2) : Dr H H2 pd := by
  refine ⟨fun b o e n => s _ _ (d.but b o e n), ?_⟩
  obtain ⟨ys, hy⟩ := d.dr
  exact ⟨ys, s _ _ hy⟩
theorem oneOf_at (i : Nat) : ∀ j : Nat, j < 27 → (oneOf i)[j]? = some (V.bl (decide (i = j)))
  | 0, _ => rfl
  | 1, _ => rfl
  | 2, _ => rfl
  | 3, _ => rfl
  | 4, _ => rfl
  | 5, _ => rfl
  | 6, _ => rfl
  | 7, _ => rfl
  | 8, _ => rfl
  | 9, _ => rfl
  | 10, _ => rfl
  | 11, _ => rfl
  | 12, _ => rfl
  | 13, _ => rfl
  | 14, _ => rfl
  | 15, _ => rfl
  | 16, _ => rfl
  | 17, _ => rfl
  | 18, _ => rfl
  | 19, _ => rfl
  | 20, _ => rfl
  | 21, _ => rfl
  | 22, _ => rfl
  | 23, _ => rfl
  | 24, _ => rfl
  | 25, _ => rfl
  | 26, _ => rfl
  | n + 27, h => absurd h (by omega)
theorem oneOf_len (i : Nat) : (oneOf i).length = 27 := rfl
theorem log_ok {n : Int} (h : n.natAbs ≤ 1000) : n.natAbs.log2 < 1920 := by
  have := Nat.log2_le_self n.natAbs
  omega
theorem one_sh (i : Int) : SeqAt.shaped (.list [.int i]) = true := by
  unfold SeqAt.shaped
  simp [PyData.canLay0, PyData.canLayAll0, PyData.depth, PyData.depthAll]
/-- the lists of the law: the draws, the words, the rules -/
structure St0 (H : Hp) (pd pw pr : Addr) : Prop where
  d : ∃ zs : List Int, H pd = some (.lst (zs.map V.int))
  w : H pw = some (.lst (RES.map V.str))
  r : H pr = some (.lst (RUL.map V.str))
  ne : pw ≠ pd
  ne2 : pr ≠ pd
theorem St0.same {H H' : Hp} {pd pw pr : Addr} (x : St0 H pd pw pr) (s : Same H H') : St0 H' pd pw pr := by
  obtain ⟨zs, hz⟩ := x.d
  exact ⟨⟨zs, s _ _ hz⟩, s _ _ x.w, s _ _ x.r, x.ne, x.ne2⟩
theorem St0.dr {H H' : Hp} {pd pw pr : Addr} (x : St0 H pd pw pr) (d : Dr H H' pd) : St0 H' pd pw pr := ⟨d.dr, d.but _ _ x.w x.ne, d.but _ _ x.r x.ne2, x.ne, x.ne2⟩
theorem St0.draw {H : Hp} {pd pw pr : Addr} (x : St0 H pd pw pr) (ys : List Int) : St0 (upd H pd (.lst (ys.map V.int))) pd pw pr := ⟨⟨ys, upd_same⟩, by rw [upd_ne x.ne]; exact x.w, by rw [upd_ne x.ne2]; exact x.r, x.ne, x.ne2⟩
/-- what the law's names hold -/
structure LawN (K : PySem.W.Frag) (mg : Str → Option Value) (aR aU : Addr) : Prop where
  nm : Nm K mg aR
  tuple : mg "tuple" = none
  list : mg "list" = none
  bool : mg "bool" = none
  range : mg "range" = none
  enum : mg "enumerate" = none
  int : mg "int" = none
  abs : mg "abs" = none
  ve : mg "ValueError" = none
  he : mg "HandsError" = some (.ref (He.ga K "HandsError"))
  rul : mg "RULES" = some (.ref aU)
  rulT : ∀ H : Hp, SqT K H aU (RUL.map V.str)
  resK : ∃ o, K.lookup aR = some o ∧ o.cls = .type "tuple"
  rulK : ∃ o, K.lookup aU = some o ∧ o.cls = .type "tuple"
  kit : Kit K
  kitH : ∀ (i : Nat) (p : Str × List (Str × Kd)), tab[i]? = some p → PySem.W.kitOne K (.ref (He.ga K p.1)) (.ref (He.ga K "HandsError")) = some true
  kitV : ∀ (i : Nat) (p : Str × List (Str × Kd)), tab[i]? = some p → PySem.W.kitOne K (.ref (He.ga K p.1)) (.type "ValueError") = some true
section
variable {P : Program} {w : World} {K : PySem.W.Frag} {mg : Str → Option Value} {base : Heap} {aR aU : Addr}
def spLaw (K : PySem.W.Frag) : Sp := fun vs H Q _ => ∃ (a : Addr) (ns : List Int), vs = [.ref a] ∧ SqL K H a (ns.map V.int) ∧ ∀ H', Q (.bl true) H'
theorem ok_law {f fD fN fW fV fU fC fE fH fI : Addr} {fd fdD fdN fdW fdV fdU fdC fdE fdH fdI : FuncData} (F : FnP K "law" sLaw f fd) (FD : FnP K "_law_draws" sDraws fD fdD) (FN : FnP K "_law_next" sNext fN fdN) (FW : FnP K "_law_words" sWords fW fdW)
    (FV : FnP K "_law_value" sVal fV fdV) (FU : FnP K "_law_due" sDue fU fdU) (FC : FnP K "_law_classes" sCls fC fdC) (FE : FnP K "_law_errors" sErr fE fdE) (FH : FnP K "_law_fields_hold" sHold fH fdH) (FI : FnP K "is_name" sIs fI fdI)
    (gD : mg "_law_draws" = some (.ref fD)) (gN : mg "_law_next" = some (.ref fN)) (gW : mg "_law_words" = some (.ref fW)) (gV : mg "_law_value" = some (.ref fV)) (gU : mg "_law_due" = some (.ref fU)) (gC : mg "_law_classes" = some (.ref fC)) (gE : mg "_law_errors" = some (.ref fE)) (gH : mg "_law_fields_hold" = some (.ref fH)) (gI : mg "is_name" = some (.ref fI))
    (N : LawN K mg aR aU) (c : ∀ (j : Nat) (p : Str × List (Str × Kd)), tab[j]? = some p → Cl P w K mg base p.1 (He.ga K p.1) (p.2.map (·.1))) : FnOk P w K mg base CX0 4 f fd ["_law_script"] (spLaw K) := by
  have GD : FnOk P w K mg base CX0 1 fD fdD ["_law_script"] (spDraws K) := ok_draws FD N.enum N.abs N.int N.range N.nm.len
  have GN : FnOk P w K mg base CX0 1 fN fdN ["_law_draws_here", "_law_many"] spNext := ok_next FN N.nm.len N.int
  have GW : FnOk P w K mg base CX0 1 fW fdW [] spWords := ok_words FW
  have GV : FnOk P w K mg base CX0 2 fV fdV ["_law_draws_here", "_law_words_here"] spVal := ok_val FV FN gN N.nm.len N.int N.range
  have GU : FnOk P w K mg base CX0 1 fU fdU ["_law_value_here", "_law_words_here"] spDue := ok_due FU N.nm
  have GC : FnOk P w K mg base CX0 1 fC fdC ["_law_e"] (spCls K) := ok_cls FC N.nm.isi N.kit c
  have GE : FnOk P w K mg base CX0 3 fE fdE ["_law_number", "_law_word", "_law_rest"] (spErr K) := ok_err FE c
  have GH : FnOk P w K mg base CX0 1 fH fdH ["_law_made", "_law_number", "_law_word", "_law_rest"] (spHold K) := ok_hold FH c
  have GI : FnOk P w K mg base CX0 1 fI fdI ["value"] spIs := ok_is FI N.nm
  have bD : Binds K fdD ["_law_script"] [] := FD.bindsN fun _ _ _ _ _ _ us hl => match us, hl with | [_], _ => rfl
  have bN : Binds K fdN ["_law_draws_here", "_law_many"] [] := FN.bindsN fun _ _ _ _ _ _ us hl => match us, hl with | [_, _], _ => rfl
  have bW : Binds K fdW [] [] := FW.bindsN fun _ _ _ _ _ _ us hl => match us, hl with | [], _ => rfl
  have bV : Binds K fdV ["_law_draws_here", "_law_words_here"] [] := FV.bindsN fun _ _ _ _ _ _ us hl => match us, hl with | [_, _], _ => rfl
  have bU : Binds K fdU ["_law_value_here", "_law_words_here"] [] := FU.bindsN fun _ _ _ _ _ _ us hl => match us, hl with | [_, _], _ => rfl
  have bC : Binds K fdC ["_law_e"] [] := FC.bindsN fun _ _ _ _ _ _ us hl => match us, hl with | [_], _ => rfl
  have bE : Binds K fdE ["_law_number", "_law_word", "_law_rest"] [] := FE.bindsN fun _ _ _ _ _ _ us hl => match us, hl with | [_, _, _], _ => rfl
  have bH : Binds K fdH ["_law_made", "_law_number", "_law_word", "_law_rest"] [] := FH.bindsN fun _ _ _ _ _ _ us hl => match us, hl with | [_, _, _, _], _ => rfl
  have bI : Binds K fdI ["value"] [] := FI.bindsN fun _ _ _ _ _ _ us hl => match us, hl with | [_], _ => rfl
  refine F.ok scL (fun vs H Q E h => ?_) (fun cdv A outer s H vs Q E hr h => ?_)
  · obtain ⟨a, ns, rfl, _⟩ := h
    rfl
  · obtain ⟨a, ns, rfl, hS, q⟩ := h
    have hr1 : Room 1 (A.deeper (envOfC "law" (defScope sLaw) s.heap.objs.size f cdv)) := hr.mono (by decide)
    have hr2 : Room 2 (A.deeper (envOfC "law" (defScope sLaw) s.heap.objs.size f cdv)) := hr.mono (by decide)
    refine ⟨_, PSs.nox (pss_cons (ps_set (i := 1) scL.nd rfl (.inl rfl) (pe_call GD hr1 (by rfl) gD FD.kp bD .nil pass0 (pa_cons (pv 0) pa_nil)))
      (pss_cons (ps_set (i := 2) scL.nd rfl (.inl rfl) (pe_call0 GW hr1 (by rfl) gW FW.kp bW .nil pass0))
      (pss_cons (ps_set (i := 3) scL.nd rfl (.inl rfl) (pe_lst (pa_cs (vs := RUL.map V.str) (by rfl))))
      (pss_cons (ps_if (PW.pt (pw_or (pt_not (pt_val (pe_callB call_isi (by rfl) N.nm.isi (by decide +kernel) (pa_cons (pe_glob (v := .ref aR) (by rfl) N.nm.res rfl) (pa_cons (pe_bltn (v := .ty "tuple") (by rfl) N.tuple (by decide +kernel) rfl) pa_nil)))))
        (pw_or1 (pt_cmpR (op_neD hr.units) (pe_callTy call_list_of (by rfl) N.list (by decide +kernel) (pa_cons (pe_glob (v := .ref aR) (by rfl) N.nm.res rfl) pa_nil)) (pv 2) (nomark _))))) (pss_one (ps_ret pe_bl)) pss_nil)
      (pss_cons (ps_if (PW.pt (pw_or (pt_not (pt_val (pe_callB call_isi (by rfl) N.nm.isi (by decide +kernel) (pa_cons (pe_glob (v := .ref aU) (by rfl) N.rul rfl) (pa_cons (pe_bltn (v := .ty "tuple") (by rfl) N.tuple (by decide +kernel) rfl) pa_nil)))))
        (pw_or1 (pt_cmpR (op_neD hr.units) (pe_callTy call_list_of (by rfl) N.list (by decide +kernel) (pa_cons (pe_glob (v := .ref aU) (by rfl) N.rul rfl) pa_nil)) (pv 3) (nomark _))))) (pss_one (ps_ret pe_bl)) pss_nil)
      (pss_cons (ps_for PassesOwn.never rfl (pi_range1 rfl N.range (pa_cons pe_int pa_nil)) (pg_name (i := 4) scL.nd rfl (.inl rfl))
        (pss_cons (ps_set (i := 5) scL.nd rfl (.inl rfl) (pe_call GV hr2 (by rfl) gV FV.kp bV .nil pass0 (pa_cons (pv 1) (pa_cons (pv 2) pa_nil))))
        (pss_cons (ps_set (i := 6) scL.nd rfl (.inl rfl) (pe_call GI hr1 (by rfl) gI FI.kp bI .nil pass0 (pa_cons (pv 5) pa_nil)))
        (pss_one (ps_if (PW.pt (pw_or (pt_not (pt_val (pe_callB call_isi (by rfl) N.nm.isi (by decide +kernel) (pa_cons (pv 6) (pa_cons (pe_bltn (v := .ty "bool") (by rfl) N.bool (by decide +kernel) rfl) pa_nil)))))
          (pw_or1 (pt_cmpR op_ne (pv 6) (pe_call GU hr1 (by rfl) gU FU.kp bU .nil pass0 (pa_cons (pv 5) (pa_cons (pv 2) pa_nil))) (nomark _))))) (pss_one (ps_ret pe_bl)) pss_nil)))))
      (pss_cons (ps_for PassesOwn.never rfl (pi_list (pv 2)) (pg_name (i := 7) scL.nd rfl (.inl rfl))
        (pss_cons (ps_set (i := 6) scL.nd rfl (.inl rfl) (pe_call GI hr1 (by rfl) gI FI.kp bI .nil pass0 (pa_cons (pv 7) pa_nil)))
        (pss_one (ps_if (PW.pt (pw_or (pt_not (pt_val (pe_callB call_isi (by rfl) N.nm.isi (by decide +kernel) (pa_cons (pv 6) (pa_cons (pe_bltn (v := .ty "bool") (by rfl) N.bool (by decide +kernel) rfl) pa_nil)))))
          (pw_or1 (pt_val (pv 6))))) (pss_one (ps_ret pe_bl)) pss_nil))))
      (pss_cons (ps_set (i := 8) scL.nd rfl (.inl rfl) (pe_op op_sub (pe_call GN hr1 (by rfl) gN FN.kp bN .nil pass0 (pa_cons (pv 1) (pa_cons pe_int pa_nil))) pe_int))
      (pss_cons (ps_set (i := 7) scL.nd rfl (.inl rfl) (pe_ix ix_list (pv 3) (pe_call GN hr1 (by rfl) gN FN.kp bN .nil pass0 (pa_cons (pv 1) (pa_cons pe_int pa_nil))) (fun _ _ => rfl)))
      (pss_cons (ps_set (i := 9) scL.nd rfl (.inl rfl) (pe_tup (pa_cons (pv 7) (pa_cons (pv 8) (pa_cons (pe_call GN hr1 (by rfl) gN FN.kp bN .nil pass0 (pa_cons (pv 1) (pa_cons pe_int pa_nil))) pa_nil)))))
      (pss_cons (ps_set (i := 10) scL.nd rfl (.inl rfl) (pe_call GE hr (by rfl) gE FE.kp bE .nil pass0 (pa_cons (pv 8) (pa_cons (pv 7) (pa_cons (pv 9) pa_nil)))))
      (pss_cons (ps_for PassesOwn.never rfl (pi_enum (by rfl) N.enum (pa_cons (pv 10) pa_nil)) (pg_tup rfl (pgs_cons (pg_name (i := 11) scL.nd rfl (.inl rfl)) (pgs_cons (pg_name (i := 12) scL.nd rfl (.inl rfl)) pgs_nil)))
        (pss_cons (ps_if (PW.pt (pw_or (pt_not (pt_val (pe_callB call_isV (by rfl) N.nm.isi (by decide +kernel) (pa_cons (pv 12) (pa_cons (pe_glob (v := .ref (He.ga K "HandsError")) (by rfl) N.he rfl) pa_nil)))))
          (pw_or1 (pt_not (pt_val (pe_callB call_isV (by rfl) N.nm.isi (by decide +kernel) (pa_cons (pv 12) (pa_cons (pe_bltn (v := .ty "ValueError") (by rfl) N.ve (by decide +kernel) rfl) pa_nil)))))))) (pss_one (ps_ret pe_bl)) pss_nil)
        (pss_one (ps_if (pt_cmpR (op_neD hr.units)
          (pe_lc (own := [("_law_k", 13), ("_law_one", 14)]) (g := gTup K 2 (gCons (gName 13) (gCons (gName 14) gNil))) (tt := _) rfl scL.nd (pi_enum (by rfl) N.enum (pa_cons (pe_call GC hr1 (by rfl) gC FC.kp bC .nil pass0 (pa_cons (pv 12) pa_nil)) pa_nil)) (blkOk_by (N := nL) (sc := defScope sLaw) (by decide +kernel))
            (fun _ _ _ _ _ => pg_tup rfl (pgs_cons (pg_name (i := 13) scL.nd rfl (.inl rfl)) (pgs_cons (pg_name (i := 14) scL.nd rfl (.inl rfl)) pgs_nil))) (fun _ _ _ _ _ => pts_one (pt_val (pv 14))) (fun _ _ _ _ _ => pv 13))
          (pe_lst (pa_cons (pv 11) pa_nil)) (nomark _)) (pss_one (ps_ret pe_bl)) pss_nil))))
      (pss_one (ps_ret (pe_call GH hr1 (by rfl) gH FH.kp bH .nil pass0 (pa_cons (pv 10) (pa_cons (pv 8) (pa_cons (pv 7) (pa_cons (pv 9) pa_nil))))))))))))))))))), ?_⟩
    obtain ⟨oR, eR, cR⟩ := N.resK
    obtain ⟨oU, eU, cU⟩ := N.rulK
    -- the draws, the words, the rules
    refine ⟨.ref a, rfl, a, ns, rfl, hS, fun H1 pd zs s1 npd hpd _ => ?_⟩
    refine ⟨rfl, fun H2 pw s2 npw hpw => ?_⟩
    have nw : pw ≠ pd := (ne_of_none hpd npw).symm
    refine ⟨by decide, fun pr npr => ?_⟩
    have S3 : St0 (upd H2 pr (.lst (RUL.map V.str))) pd pw pr := ⟨⟨zs, same_upd npr _ _ (s2 _ _ hpd)⟩, same_upd npr _ _ hpw, upd_same, nw, (ne_of_none (s2 _ _ hpd) npr).symm⟩
    generalize upd H2 pr (.lst (RUL.map V.str)) = H3 at S3
    -- RESERVED, RULES
    refine ⟨.ref aR, .ty "tuple", .type "tuple", .type "tuple", true, rfl, .ty _, .kTuple eR cR, kit_ty (a := "tuple") (b := "tuple") (r := true) (by decide +kernel), true, rfl, iteF ⟨aR, _, rfl, .inr (N.nm.resT _), fun l nl => ⟨.ref pw, rfl, .list (RES.map .str), .list (RES.map .str), .lst (SqL.of upd_same) (strs_dp _), .lst (SqL.of (same_upd nl _ _ S3.w)) (strs_dp _), RES_sh, RES_sh, _, rfl, ?_⟩⟩⟩
    rw [SeqAt.eqv_refl _ (SeqAt.canLay_of_shaped RES_sh)]
    refine iteF ?_
    have S4 := S3.same (same_upd (o := .lst (RES.map V.str)) nl)
    generalize upd H3 l (.lst (RES.map V.str)) = H4 at S4
    refine ⟨.ref aU, .ty "tuple", .type "tuple", .type "tuple", true, rfl, .ty _, .kTuple eU cU, kit_ty (a := "tuple") (b := "tuple") (r := true) (by decide +kernel), true, rfl, iteF ⟨aU, _, rfl, .inr (N.rulT _), fun l2 nl2 => ⟨.ref pr, rfl, .list (RUL.map .str), .list (RUL.map .str), .lst (SqL.of upd_same) (strs_dp _), .lst (SqL.of (same_upd nl2 _ _ S4.r)) (strs_dp _), RUL_sh, RUL_sh, _, rfl, ?_⟩⟩⟩
    rw [SeqAt.eqv_refl _ (SeqAt.canLay_of_shaped RUL_sh)]
    refine iteF ?_
    have S5 := S4.same (same_upd (o := .lst (RUL.map V.str)) nl2)
    generalize upd H4 l2 (.lst (RUL.map V.str)) = H5 at S5
    -- sixteen values
    refine ⟨16, rfl, by decide, by decide, for_range (n := 16) (fun _ σ G => ∃ (y4 y5 y6 : Option V), σ = [some (.ref a), some (.ref pd), some (.ref pw), some (.ref pr), y4, y5, y6, none, none, none, none, none, none, none, none] ∧ St0 G pd pw pr) ⟨none, none, none, rfl, S5⟩ ?_ ?_⟩
    · rintro i σ G _ ⟨y4, y5, y6, rfl, S⟩
      obtain ⟨z, hz⟩ := S.d
      refine ⟨.ref pd, rfl, .ref pw, rfl, pd, pw, rfl, Dr.refl hz, S.w, fun G1 v b d1 ask => ?_⟩
      have S := S.dr d1
      refine ⟨v, rfl, v, b, rfl, ask, fun G2 s2 => ?_⟩
      have S := S.same s2
      have ask := ask.keep s2
      refine ⟨.bl b, rfl, .bl b, .ty "bool", .type "bool", .type "bool", true, rfl, .ty _, .base (.bl b), kit_ty (a := "bool") (b := "bool") (r := true) (by decide +kernel), true, rfl, iteF ⟨.bl b, rfl, v, rfl, .ref pw, rfl, v, pw, b, rfl, ask, S.w, rfl, _, rfl, ?_⟩⟩
      exact iteNS rfl ⟨_, _, _, rfl, S⟩
    rintro σ G ⟨y4, y5, y6, rfl, S⟩
    -- the reserved words
    refine ⟨.ref pw, rfl, pw, rfl, ⟨_, SqL.of S.w⟩, for_list (K := K) (a := pw) (xs := RES.map V.str) (fun _ σ G => ∃ (y4 y5 y6 y7 : Option V), σ = [some (.ref a), some (.ref pd), some (.ref pw), some (.ref pr), y4, y5, y6, y7, none, none, none, none, none, none, none] ∧ St0 G pd pw pr) ⟨y4, y5, y6, none, rfl, S⟩ (fun i σ G _ ⟨_, _, _, _, _, S⟩ => SqL.of S.w) ?_ ?_⟩
    · rintro i x σ G hx ⟨y4, y5, y6, y7, rfl, S⟩
      obtain ⟨x, hxm, rfl⟩ := List.mem_map.mp (List.mem_of_getElem? hx)
      obtain ⟨r1, r2⟩ := res_no x hxm
      refine ⟨.str x, rfl, .str x, isName x, rfl, .str x r2, fun G2 s2 => ?_⟩
      rw [r1]
      have S := S.same s2
      refine ⟨.bl false, rfl, .bl false, .ty "bool", .type "bool", .type "bool", true, rfl, .ty _, .base (.bl false), kit_ty (a := "bool") (b := "bool") (r := true) (by decide +kernel), true, rfl, iteF ⟨.bl false, rfl, false, rfl, iteF ⟨_, _, _, _, rfl, S⟩⟩⟩
    rintro σ G ⟨y4, y5, y6, y7, rfl, S⟩
    -- the number, the word, the rest
    obtain ⟨z1, hz1⟩ := S.d
    refine ⟨.ref pd, rfl, pd, z1, 720, rfl, hz1, by decide, fun r1 y1 a0 a1 _ => ⟨r1, 9, rfl, rfl, ?_⟩⟩
    have S := S.draw y1
    generalize upd G pd (.lst (y1.map V.int)) = G1 at S
    obtain ⟨z2, hz2⟩ := S.d
    refine ⟨.ref pr, rfl, .ref pd, rfl, pd, z2, 11, rfl, hz2, by decide, fun r2 y2 b0 b1 _ => ?_⟩
    have S := S.draw y2
    generalize upd G1 pd (.lst (y2.map V.int)) = G2 at S
    obtain ⟨v, hv, hm⟩ := at_in (xs := RUL.map V.str) (n := 11) b0 b1 (by decide)
    obtain ⟨wd, hwd, rfl⟩ := List.mem_map.mp hm
    obtain ⟨w1, w2⟩ := rul_ok wd hwd
    refine ⟨pr, _, r2, .str wd, rfl, rfl, SqL.of S.r, hv, ?_⟩
    obtain ⟨z3, hz3⟩ := S.d
    refine ⟨.str wd, rfl, .int (r1 - 9), rfl, .ref pd, rfl, pd, z3, 720, rfl, hz3, by decide, fun r3 y3 c0 c1 _ => ⟨by show 3 ≤ sizeLine; decide, fun t nt => ?_⟩⟩
    have V0 : Vs (upd (upd G2 pd (.lst (y3.map V.int))) t (.tup [.str wd, .int (r1 - 9), .int r3])) (r1 - 9) wd t r3 := ⟨w1, upd_same, log_ok (by omega), log_ok (by omega), w2⟩
    generalize upd (upd G2 pd (.lst (y3.map V.int))) t (.tup [.str wd, .int (r1 - 9), .int r3]) = G3 at V0
    -- the errors
    refine ⟨.int (r1 - 9), rfl, .str wd, rfl, .ref t, rfl, r1 - 9, wd, t, r3, rfl, V0, fun H9 pm es s9 npm hpm hl X V9 => ?_⟩
    refine ⟨.ref pm, rfl, pm, es.map V.ref, rfl, SqL.of hpm, for_enum (K := K) (a := pm) (xs := es.map V.ref) (fun _ σ G => ∃ (u11 u12 u13 u14 : Option V), σ = [some (.ref a), some (.ref pd), some (.ref pw), some (.ref pr), y4, y5, y6, some (.str wd), some (.int (r1 - 9)), some (.ref t), some (.ref pm), u11, u12, u13, u14] ∧ Same H9 G) ⟨none, none, none, none, rfl, Same.refl _⟩ (fun i σ G _ ⟨_, _, _, _, _, s⟩ => SqL.of (s _ _ hpm)) ?_ ?_⟩
    · rintro i x σ G T hx ⟨u11, u12, u13, u14, rfl, s⟩ nT
      obtain ⟨e, he, rfl⟩ : ∃ e, es[i]? = some e ∧ x = V.ref e := by
        rw [List.getElem?_map] at hx
        cases q : es[i]? with
        | none =>
          rw [q] at hx
          cases hx
        | some e =>
          rw [q] at hx
          exact ⟨e, rfl, (Option.some.inj hx).symm⟩
      have hi : i < 27 := by
        have := (List.getElem?_eq_some_iff.mp he).1
        omega
      obtain ⟨p, hp, hxe⟩ := X i e he
      have C := c i p hp
      refine ⟨T, [.int (i : Nat), .ref e], rfl, .inl (.inl upd_same), rfl, .int (i : Nat), [.ref e], rfl, .ref e, [], rfl, rfl, ?_⟩
      have s := s.trans (same_upd (o := .tup [.int (i : Nat), .ref e]) nT)
      generalize upd G T (.tup [.int (i : Nat), .ref e]) = G4 at s
      obtain ⟨dd, h1, h2⟩ := (EI.of hxe).keep s
      refine ⟨.ref e, rfl, e, _, dd, .ref (He.ga K "HandsError"), .ref (He.ga K "HandsError"), true, rfl, h1, h2, C.ec, fun u h => h, N.kitH i p hp, true, rfl, iteF ⟨.ref e, rfl, e, _, dd, .ty "ValueError", .type "ValueError", true, rfl, h1, h2, C.ec, fun u h => h, N.kitV i p hp, true, rfl, iteF ?_⟩⟩
      refine ⟨.ref e, rfl, e, i, p, rfl, hp, ⟨dd, h1, h2⟩, fun G5 pc s5 npc hpc => ⟨pc, oneOf i, rfl, SqL.of hpc, fun D nD => lc_it walk_enum (fun j G6 => Same G5 G6 ∧ G6 D = some (.lst (if i < j then [V.int (i : Nat)] else []))) ⟨same_upd nD, by rw [upd_same, if_neg (Nat.not_lt_zero i)]⟩ (fun j G6 _ ⟨s6, _⟩ => SqL.of (s6 _ _ hpc)) ?_ ?_⟩⟩
      · rintro j x G6 G7 hj ⟨s6, hD⟩ ⟨T2, x1, x2, rfl, nT2, rfl, e1, e2⟩
        have e1 : x1 = .int (j : Nat) := (Option.some.inj e1).symm
        have e2 : x2 = .bl (decide (i = j)) := (Option.some.inj ((oneOf_at i j hj).symm.trans e2)).symm
        subst e1 e2
        have hD2 := same_upd (o := .tup [.int (j : Nat), .bl (decide (i = j))]) nT2 _ _ hD
        have s7 := s6.trans (same_upd (o := .tup [.int (j : Nat), .bl (decide (i = j))]) nT2)
        refine ⟨T2, [.int (j : Nat), .bl (decide (i = j))], rfl, .inl (.inl upd_same), rfl, .int (j : Nat), [.bl (decide (i = j))], rfl, .bl (decide (i = j)), [], rfl, rfl, rfl, .bl (decide (i = j)), rfl, decide (i = j), rfl, ite2 (fun hc => ?_) (fun hc => ?_)⟩
        · have eij : i = j := of_decide_eq_true hc
          subst eij
          refine ⟨.int (i : Nat), rfl, _, hD2, ?_, Same.put s7 nD, ?_⟩
          · rw [if_neg (Nat.lt_irrefl i)]
            decide
          · rw [upd_same, if_neg (Nat.lt_irrefl i), if_pos (Nat.lt_succ_self i)]
            rfl
        · have eij : i ≠ j := fun z => hc (decide_eq_true z)
          refine ⟨s7, ?_⟩
          rw [hD2]
          by_cases hl2 : i < j
          · rw [if_pos hl2, if_pos (by omega)]
          · rw [if_neg hl2, if_neg (by omega)]
      · rintro G6 ⟨s6, hD⟩
        rw [oneOf_len, if_pos hi] at hD
        refine ⟨.int (i : Nat), rfl, by show 1 ≤ sizeLine; decide, fun p2 n2 => ⟨.list [.int (i : Nat)], .list [.int (i : Nat)], .lst (SqL.of (same_upd n2 _ _ hD)) (.cons (.int _) .nil), .lst (SqL.of upd_same) (.cons (.int _) .nil), one_sh _, one_sh _, _, rfl, ?_⟩⟩
        rw [SeqAt.eqv_refl _ (SeqAt.canLay_of_shaped (one_sh _))]
        exact iteF ⟨_, _, _, _, rfl, ((s.trans s5).trans s6).trans (same_upd n2)⟩
    rintro σ G ⟨u11, u12, u13, u14, rfl, s⟩
    exact ⟨.ref pm, rfl, .int (r1 - 9), rfl, .str wd, rfl, .ref t, rfl, pm, es, r1 - 9, wd, t, r3, rfl, V9.keep s, hl, s _ _ hpm, X.keep s, fun H' s' => q H'⟩
end
end K00
namespace K00
open PySem PySem.Spec PyProof.Rows L2 NdefX
/-- the __init__ of the i-th statement of the top, a class -/
def ini (i : Nat) : Stmt := match top i with
  | .ClassDef (body := b) .. => b.headD (.Pass ⟨0, 0, 0, 0⟩)
  | s => s
section
variable {P : Program} {w : World} {K : PySem.W.Frag} {mg : Str → Option Value} {base : Heap} {C fI cc cda : Addr}
theorem units3 {A : Around} {env : Env} (h : A.units + 200 < cLine) : (A.deeper env).units < cLine := by
  show A.units + 3 < cLine
  omega
theorem units5 {A : Around} {env : Env} (h : A.units + 200 < cLine) : (A.deeper env).units + 2 < cLine := by
  show A.units + 3 + 2 < cLine
  omega
theorem i_BadPart (T : SupC P K mg C fI cc cda "BadPart.__init__" (defArgs (ini 9)) (defBody (ini 9)) (defScope (ini 9))) (hno : ∀ f ∈ (["rule"] : List Str), PySem.W.findIn K (.ref C) f = some none) :
    ∃ fd, FnOk P w K mg base CX0 1 fI fd (("self" : Str) :: ["rule"]) (spInit C ["rule"]) ∧ Binds K fd (("self" : Str) :: ["rule"]) [] :=
  init1 T (nscope_by (by decide +kernel)) (ar := ((defArgs (ini 9)).args.headD ⟨"", none, ⟨0, 0, 0, 0⟩⟩)) (by rfl) (by rfl) (by rfl) (fun _ _ _ _ _ _ us hl => match us, hl with | [_, _], _ => rfl) (fun _ => rfl) (fun _ => rfl) (fun A outer s H E hu => ⟨_, pe_joined (.cons pe_str (.cons (pe_fmtRA (units3 hu) (pv 1)) .nil)), fun σ H' R hv q => by
    obtain ⟨v1, e1, h1⟩ := hv 1 (by decide) (by decide)
    exact msg_ok (R := fun out H1 => R (.str out) H1) (fun x => q x) _ Str.empty (List.forall_mem_cons.mpr ⟨good_str (by decide +kernel), List.forall_mem_cons.mpr ⟨good_fmt e1 h1, List.forall_mem_nil _⟩⟩) (by show 0 + 100000 * 2 ≤ sizeLine; rw [sizeLine_eq]; decide)⟩) (by decide +kernel) (by decide +kernel) (hno _ (by decide +kernel))
theorem i_BadLine (T : SupC P K mg C fI cc cda "BadLine.__init__" (defArgs (ini 10)) (defBody (ini 10)) (defScope (ini 10))) (hno : ∀ f ∈ (["line", "rule"] : List Str), PySem.W.findIn K (.ref C) f = some none) :
    ∃ fd, FnOk P w K mg base CX0 1 fI fd (("self" : Str) :: ["line", "rule"]) (spInit C ["line", "rule"]) ∧ Binds K fd (("self" : Str) :: ["line", "rule"]) [] :=
  init2 T (nscope_by (by decide +kernel)) (ar := ((defArgs (ini 10)).args.headD ⟨"", none, ⟨0, 0, 0, 0⟩⟩)) (by rfl) (by rfl) (by rfl) (fun _ _ _ _ _ _ us hl => match us, hl with | [_, _, _], _ => rfl) (fun _ => rfl) (fun _ => rfl) (fun A outer s H E hu => ⟨_, pe_joined (.cons pe_str (.cons (pe_fmtRA (units3 hu) (pv 1)) (.cons pe_str (.cons (pe_fmtRA (units3 hu) (pv 2)) .nil)))), fun σ H' R hv q => by
    obtain ⟨v1, e1, h1⟩ := hv 1 (by decide) (by decide)
    obtain ⟨v2, e2, h2⟩ := hv 2 (by decide) (by decide)
    exact msg_ok (R := fun out H1 => R (.str out) H1) (fun x => q x) _ Str.empty (List.forall_mem_cons.mpr ⟨good_str (by decide +kernel), List.forall_mem_cons.mpr ⟨good_fmt e1 h1, List.forall_mem_cons.mpr ⟨good_str (by decide +kernel), List.forall_mem_cons.mpr ⟨good_fmt e2 h2, List.forall_mem_nil _⟩⟩⟩⟩) (by show 0 + 100000 * 4 ≤ sizeLine; rw [sizeLine_eq]; decide)⟩) (by decide +kernel) (by decide +kernel) (hno _ (by decide +kernel)) (by decide +kernel) (by decide +kernel) (hno _ (by decide +kernel))
theorem i_NoSuch (T : SupC P K mg C fI cc cda "NoSuch.__init__" (defArgs (ini 11)) (defBody (ini 11)) (defScope (ini 11))) (hno : ∀ f ∈ (["name"] : List Str), PySem.W.findIn K (.ref C) f = some none) :
    ∃ fd, FnOk P w K mg base CX0 1 fI fd (("self" : Str) :: ["name"]) (spInit C ["name"]) ∧ Binds K fd (("self" : Str) :: ["name"]) [] :=
  init1 T (nscope_by (by decide +kernel)) (ar := ((defArgs (ini 11)).args.headD ⟨"", none, ⟨0, 0, 0, 0⟩⟩)) (by rfl) (by rfl) (by rfl) (fun _ _ _ _ _ _ us hl => match us, hl with | [_, _], _ => rfl) (fun _ => rfl) (fun _ => rfl) (fun A outer s H E hu => ⟨_, pe_joined (.cons pe_str (.cons (pe_fmtRA (units3 hu) (pv 1)) .nil)), fun σ H' R hv q => by
    obtain ⟨v1, e1, h1⟩ := hv 1 (by decide) (by decide)
    exact msg_ok (R := fun out H1 => R (.str out) H1) (fun x => q x) _ Str.empty (List.forall_mem_cons.mpr ⟨good_str (by decide +kernel), List.forall_mem_cons.mpr ⟨good_fmt e1 h1, List.forall_mem_nil _⟩⟩) (by show 0 + 100000 * 2 ≤ sizeLine; rw [sizeLine_eq]; decide)⟩) (by decide +kernel) (by decide +kernel) (hno _ (by decide +kernel))
theorem i_Unlike (T : SupC P K mg C fI cc cda "Unlike.__init__" (defArgs (ini 12)) (defBody (ini 12)) (defScope (ini 12))) (hno : ∀ f ∈ ([] : List Str), PySem.W.findIn K (.ref C) f = some none) :
    ∃ fd, FnOk P w K mg base CX0 1 fI fd (("self" : Str) :: []) (spInit C []) ∧ Binds K fd (("self" : Str) :: []) [] :=
  init0 T (nscope_by (by decide +kernel)) (ar := ((defArgs (ini 12)).args.headD ⟨"", none, ⟨0, 0, 0, 0⟩⟩)) (by rfl) (by rfl) (by rfl) (fun _ _ _ _ _ _ us hl => match us, hl with | [_], _ => rfl) (fun _ => rfl) (fun _ => rfl) (fun A outer s H E hu => ⟨_, pe_str, fun σ H' R hv q => q _⟩)
theorem i_BadPath (T : SupC P K mg C fI cc cda "BadPath.__init__" (defArgs (ini 13)) (defBody (ini 13)) (defScope (ini 13))) (hno : ∀ f ∈ (["position"] : List Str), PySem.W.findIn K (.ref C) f = some none) :
    ∃ fd, FnOk P w K mg base CX0 1 fI fd (("self" : Str) :: ["position"]) (spInit C ["position"]) ∧ Binds K fd (("self" : Str) :: ["position"]) [] :=
  init1 T (nscope_by (by decide +kernel)) (ar := ((defArgs (ini 13)).args.headD ⟨"", none, ⟨0, 0, 0, 0⟩⟩)) (by rfl) (by rfl) (by rfl) (fun _ _ _ _ _ _ us hl => match us, hl with | [_, _], _ => rfl) (fun _ => rfl) (fun _ => rfl) (fun A outer s H E hu => ⟨_, pe_joined (.cons pe_str (.cons (pe_fmtRA (units3 hu) (pv 1)) .nil)), fun σ H' R hv q => by
    obtain ⟨v1, e1, h1⟩ := hv 1 (by decide) (by decide)
    exact msg_ok (R := fun out H1 => R (.str out) H1) (fun x => q x) _ Str.empty (List.forall_mem_cons.mpr ⟨good_str (by decide +kernel), List.forall_mem_cons.mpr ⟨good_fmt e1 h1, List.forall_mem_nil _⟩⟩) (by show 0 + 100000 * 2 ≤ sizeLine; rw [sizeLine_eq]; decide)⟩) (by decide +kernel) (by decide +kernel) (hno _ (by decide +kernel))
theorem i_BadMove (T : SupC P K mg C fI cc cda "BadMove.__init__" (defArgs (ini 14)) (defBody (ini 14)) (defScope (ini 14))) (hno : ∀ f ∈ (["position"] : List Str), PySem.W.findIn K (.ref C) f = some none) :
    ∃ fd, FnOk P w K mg base CX0 1 fI fd (("self" : Str) :: ["position"]) (spInit C ["position"]) ∧ Binds K fd (("self" : Str) :: ["position"]) [] :=
  init1 T (nscope_by (by decide +kernel)) (ar := ((defArgs (ini 14)).args.headD ⟨"", none, ⟨0, 0, 0, 0⟩⟩)) (by rfl) (by rfl) (by rfl) (fun _ _ _ _ _ _ us hl => match us, hl with | [_, _], _ => rfl) (fun _ => rfl) (fun _ => rfl) (fun A outer s H E hu => ⟨_, pe_joined (.cons pe_str (.cons (pe_fmtRA (units3 hu) (pv 1)) (.cons pe_str .nil))), fun σ H' R hv q => by
    obtain ⟨v1, e1, h1⟩ := hv 1 (by decide) (by decide)
    exact msg_ok (R := fun out H1 => R (.str out) H1) (fun x => q x) _ Str.empty (List.forall_mem_cons.mpr ⟨good_str (by decide +kernel), List.forall_mem_cons.mpr ⟨good_fmt e1 h1, List.forall_mem_cons.mpr ⟨good_str (by decide +kernel), List.forall_mem_nil _⟩⟩⟩) (by show 0 + 100000 * 3 ≤ sizeLine; rw [sizeLine_eq]; decide)⟩) (by decide +kernel) (by decide +kernel) (hno _ (by decide +kernel))
theorem i_BadPlace (T : SupC P K mg C fI cc cda "BadPlace.__init__" (defArgs (ini 15)) (defBody (ini 15)) (defScope (ini 15))) (hno : ∀ f ∈ (["place"] : List Str), PySem.W.findIn K (.ref C) f = some none) :
    ∃ fd, FnOk P w K mg base CX0 1 fI fd (("self" : Str) :: ["place"]) (spInit C ["place"]) ∧ Binds K fd (("self" : Str) :: ["place"]) [] :=
  init1 T (nscope_by (by decide +kernel)) (ar := ((defArgs (ini 15)).args.headD ⟨"", none, ⟨0, 0, 0, 0⟩⟩)) (by rfl) (by rfl) (by rfl) (fun _ _ _ _ _ _ us hl => match us, hl with | [_, _], _ => rfl) (fun _ => rfl) (fun _ => rfl) (fun A outer s H E hu => ⟨_, pe_joined (.cons pe_str (.cons (pe_fmtRA (units3 hu) (pv 1)) .nil)), fun σ H' R hv q => by
    obtain ⟨v1, e1, h1⟩ := hv 1 (by decide) (by decide)
    exact msg_ok (R := fun out H1 => R (.str out) H1) (fun x => q x) _ Str.empty (List.forall_mem_cons.mpr ⟨good_str (by decide +kernel), List.forall_mem_cons.mpr ⟨good_fmt e1 h1, List.forall_mem_nil _⟩⟩) (by show 0 + 100000 * 2 ≤ sizeLine; rw [sizeLine_eq]; decide)⟩) (by decide +kernel) (by decide +kernel) (hno _ (by decide +kernel))
theorem i_BadRun (T : SupC P K mg C fI cc cda "BadRun.__init__" (defArgs (ini 16)) (defBody (ini 16)) (defScope (ini 16))) (hno : ∀ f ∈ (["position"] : List Str), PySem.W.findIn K (.ref C) f = some none) :
    ∃ fd, FnOk P w K mg base CX0 1 fI fd (("self" : Str) :: ["position"]) (spInit C ["position"]) ∧ Binds K fd (("self" : Str) :: ["position"]) [] :=
  init1 T (nscope_by (by decide +kernel)) (ar := ((defArgs (ini 16)).args.headD ⟨"", none, ⟨0, 0, 0, 0⟩⟩)) (by rfl) (by rfl) (by rfl) (fun _ _ _ _ _ _ us hl => match us, hl with | [_, _], _ => rfl) (fun _ => rfl) (fun _ => rfl) (fun A outer s H E hu => ⟨_, pe_joined (.cons pe_str (.cons (pe_fmtRA (units3 hu) (pv 1)) .nil)), fun σ H' R hv q => by
    obtain ⟨v1, e1, h1⟩ := hv 1 (by decide) (by decide)
    exact msg_ok (R := fun out H1 => R (.str out) H1) (fun x => q x) _ Str.empty (List.forall_mem_cons.mpr ⟨good_str (by decide +kernel), List.forall_mem_cons.mpr ⟨good_fmt e1 h1, List.forall_mem_nil _⟩⟩) (by show 0 + 100000 * 2 ≤ sizeLine; rw [sizeLine_eq]; decide)⟩) (by decide +kernel) (by decide +kernel) (hno _ (by decide +kernel))
theorem i_BadPoint (T : SupC P K mg C fI cc cda "BadPoint.__init__" (defArgs (ini 17)) (defBody (ini 17)) (defScope (ini 17))) (hno : ∀ f ∈ (["point"] : List Str), PySem.W.findIn K (.ref C) f = some none) :
    ∃ fd, FnOk P w K mg base CX0 1 fI fd (("self" : Str) :: ["point"]) (spInit C ["point"]) ∧ Binds K fd (("self" : Str) :: ["point"]) [] :=
  init1 T (nscope_by (by decide +kernel)) (ar := ((defArgs (ini 17)).args.headD ⟨"", none, ⟨0, 0, 0, 0⟩⟩)) (by rfl) (by rfl) (by rfl) (fun _ _ _ _ _ _ us hl => match us, hl with | [_, _], _ => rfl) (fun _ => rfl) (fun _ => rfl) (fun A outer s H E hu => ⟨_, pe_joined (.cons pe_str (.cons (pe_fmtRA (units3 hu) (pv 1)) .nil)), fun σ H' R hv q => by
    obtain ⟨v1, e1, h1⟩ := hv 1 (by decide) (by decide)
    exact msg_ok (R := fun out H1 => R (.str out) H1) (fun x => q x) _ Str.empty (List.forall_mem_cons.mpr ⟨good_str (by decide +kernel), List.forall_mem_cons.mpr ⟨good_fmt e1 h1, List.forall_mem_nil _⟩⟩) (by show 0 + 100000 * 2 ≤ sizeLine; rw [sizeLine_eq]; decide)⟩) (by decide +kernel) (by decide +kernel) (hno _ (by decide +kernel))
theorem i_TooLarge (T : SupC P K mg C fI cc cda "TooLarge.__init__" (defArgs (ini 18)) (defBody (ini 18)) (defScope (ini 18))) (hno : ∀ f ∈ (["what"] : List Str), PySem.W.findIn K (.ref C) f = some none) :
    ∃ fd, FnOk P w K mg base CX0 1 fI fd (("self" : Str) :: ["what"]) (spInit C ["what"]) ∧ Binds K fd (("self" : Str) :: ["what"]) [] :=
  init1 T (nscope_by (by decide +kernel)) (ar := ((defArgs (ini 18)).args.headD ⟨"", none, ⟨0, 0, 0, 0⟩⟩)) (by rfl) (by rfl) (by rfl) (fun _ _ _ _ _ _ us hl => match us, hl with | [_, _], _ => rfl) (fun _ => rfl) (fun _ => rfl) (fun A outer s H E hu => ⟨_, pe_joined (.cons pe_str (.cons (pe_fmtA (units5 hu) (pv 1)) .nil)), fun σ H' R hv q => by
    obtain ⟨v1, e1, h1⟩ := hv 1 (by decide) (by decide)
    exact msg_ok (R := fun out H1 => R (.str out) H1) (fun x => q x) _ Str.empty (List.forall_mem_cons.mpr ⟨good_str (by decide +kernel), List.forall_mem_cons.mpr ⟨good_fmtP e1 h1, List.forall_mem_nil _⟩⟩) (by show 0 + 100000 * 2 ≤ sizeLine; rw [sizeLine_eq]; decide)⟩) (by decide +kernel) (by decide +kernel) (hno _ (by decide +kernel))
theorem i_NoRow (T : SupC P K mg C fI cc cda "NoRow.__init__" (defArgs (ini 19)) (defBody (ini 19)) (defScope (ini 19))) (hno : ∀ f ∈ (["row"] : List Str), PySem.W.findIn K (.ref C) f = some none) :
    ∃ fd, FnOk P w K mg base CX0 1 fI fd (("self" : Str) :: ["row"]) (spInit C ["row"]) ∧ Binds K fd (("self" : Str) :: ["row"]) [] :=
  init1 T (nscope_by (by decide +kernel)) (ar := ((defArgs (ini 19)).args.headD ⟨"", none, ⟨0, 0, 0, 0⟩⟩)) (by rfl) (by rfl) (by rfl) (fun _ _ _ _ _ _ us hl => match us, hl with | [_, _], _ => rfl) (fun _ => rfl) (fun _ => rfl) (fun A outer s H E hu => ⟨_, pe_joined (.cons pe_str (.cons (pe_fmtRA (units3 hu) (pv 1)) .nil)), fun σ H' R hv q => by
    obtain ⟨v1, e1, h1⟩ := hv 1 (by decide) (by decide)
    exact msg_ok (R := fun out H1 => R (.str out) H1) (fun x => q x) _ Str.empty (List.forall_mem_cons.mpr ⟨good_str (by decide +kernel), List.forall_mem_cons.mpr ⟨good_fmt e1 h1, List.forall_mem_nil _⟩⟩) (by show 0 + 100000 * 2 ≤ sizeLine; rw [sizeLine_eq]; decide)⟩) (by decide +kernel) (by decide +kernel) (hno _ (by decide +kernel))
theorem i_NoTag (T : SupC P K mg C fI cc cda "NoTag.__init__" (defArgs (ini 20)) (defBody (ini 20)) (defScope (ini 20))) (hno : ∀ f ∈ (["tag"] : List Str), PySem.W.findIn K (.ref C) f = some none) :
    ∃ fd, FnOk P w K mg base CX0 1 fI fd (("self" : Str) :: ["tag"]) (spInit C ["tag"]) ∧ Binds K fd (("self" : Str) :: ["tag"]) [] :=
  init1 T (nscope_by (by decide +kernel)) (ar := ((defArgs (ini 20)).args.headD ⟨"", none, ⟨0, 0, 0, 0⟩⟩)) (by rfl) (by rfl) (by rfl) (fun _ _ _ _ _ _ us hl => match us, hl with | [_, _], _ => rfl) (fun _ => rfl) (fun _ => rfl) (fun A outer s H E hu => ⟨_, pe_joined (.cons pe_str (.cons (pe_fmtRA (units3 hu) (pv 1)) .nil)), fun σ H' R hv q => by
    obtain ⟨v1, e1, h1⟩ := hv 1 (by decide) (by decide)
    exact msg_ok (R := fun out H1 => R (.str out) H1) (fun x => q x) _ Str.empty (List.forall_mem_cons.mpr ⟨good_str (by decide +kernel), List.forall_mem_cons.mpr ⟨good_fmt e1 h1, List.forall_mem_nil _⟩⟩) (by show 0 + 100000 * 2 ≤ sizeLine; rw [sizeLine_eq]; decide)⟩) (by decide +kernel) (by decide +kernel) (hno _ (by decide +kernel))
theorem i_NoNode (T : SupC P K mg C fI cc cda "NoNode.__init__" (defArgs (ini 21)) (defBody (ini 21)) (defScope (ini 21))) (hno : ∀ f ∈ (["node"] : List Str), PySem.W.findIn K (.ref C) f = some none) :
    ∃ fd, FnOk P w K mg base CX0 1 fI fd (("self" : Str) :: ["node"]) (spInit C ["node"]) ∧ Binds K fd (("self" : Str) :: ["node"]) [] :=
  init1 T (nscope_by (by decide +kernel)) (ar := ((defArgs (ini 21)).args.headD ⟨"", none, ⟨0, 0, 0, 0⟩⟩)) (by rfl) (by rfl) (by rfl) (fun _ _ _ _ _ _ us hl => match us, hl with | [_, _], _ => rfl) (fun _ => rfl) (fun _ => rfl) (fun A outer s H E hu => ⟨_, pe_joined (.cons pe_str (.cons (pe_fmtRA (units3 hu) (pv 1)) .nil)), fun σ H' R hv q => by
    obtain ⟨v1, e1, h1⟩ := hv 1 (by decide) (by decide)
    exact msg_ok (R := fun out H1 => R (.str out) H1) (fun x => q x) _ Str.empty (List.forall_mem_cons.mpr ⟨good_str (by decide +kernel), List.forall_mem_cons.mpr ⟨good_fmt e1 h1, List.forall_mem_nil _⟩⟩) (by show 0 + 100000 * 2 ≤ sizeLine; rw [sizeLine_eq]; decide)⟩) (by decide +kernel) (by decide +kernel) (hno _ (by decide +kernel))
theorem i_NoFirst (T : SupC P K mg C fI cc cda "NoFirst.__init__" (defArgs (ini 22)) (defBody (ini 22)) (defScope (ini 22))) (hno : ∀ f ∈ (["kind"] : List Str), PySem.W.findIn K (.ref C) f = some none) :
    ∃ fd, FnOk P w K mg base CX0 1 fI fd (("self" : Str) :: ["kind"]) (spInit C ["kind"]) ∧ Binds K fd (("self" : Str) :: ["kind"]) [] :=
  init1 T (nscope_by (by decide +kernel)) (ar := ((defArgs (ini 22)).args.headD ⟨"", none, ⟨0, 0, 0, 0⟩⟩)) (by rfl) (by rfl) (by rfl) (fun _ _ _ _ _ _ us hl => match us, hl with | [_, _], _ => rfl) (fun _ => rfl) (fun _ => rfl) (fun A outer s H E hu => ⟨_, pe_joined (.cons pe_str (.cons (pe_fmtRA (units3 hu) (pv 1)) (.cons pe_str .nil))), fun σ H' R hv q => by
    obtain ⟨v1, e1, h1⟩ := hv 1 (by decide) (by decide)
    exact msg_ok (R := fun out H1 => R (.str out) H1) (fun x => q x) _ Str.empty (List.forall_mem_cons.mpr ⟨good_str (by decide +kernel), List.forall_mem_cons.mpr ⟨good_fmt e1 h1, List.forall_mem_cons.mpr ⟨good_str (by decide +kernel), List.forall_mem_nil _⟩⟩⟩) (by show 0 + 100000 * 3 ≤ sizeLine; rw [sizeLine_eq]; decide)⟩) (by decide +kernel) (by decide +kernel) (hno _ (by decide +kernel))
theorem i_WrongFirst (T : SupC P K mg C fI cc cda "WrongFirst.__init__" (defArgs (ini 23)) (defBody (ini 23)) (defScope (ini 23))) (hno : ∀ f ∈ (["position"] : List Str), PySem.W.findIn K (.ref C) f = some none) :
    ∃ fd, FnOk P w K mg base CX0 1 fI fd (("self" : Str) :: ["position"]) (spInit C ["position"]) ∧ Binds K fd (("self" : Str) :: ["position"]) [] :=
  init1 T (nscope_by (by decide +kernel)) (ar := ((defArgs (ini 23)).args.headD ⟨"", none, ⟨0, 0, 0, 0⟩⟩)) (by rfl) (by rfl) (by rfl) (fun _ _ _ _ _ _ us hl => match us, hl with | [_, _], _ => rfl) (fun _ => rfl) (fun _ => rfl) (fun A outer s H E hu => ⟨_, pe_joined (.cons pe_str (.cons (pe_fmtRA (units3 hu) (pv 1)) (.cons pe_str .nil))), fun σ H' R hv q => by
    obtain ⟨v1, e1, h1⟩ := hv 1 (by decide) (by decide)
    exact msg_ok (R := fun out H1 => R (.str out) H1) (fun x => q x) _ Str.empty (List.forall_mem_cons.mpr ⟨good_str (by decide +kernel), List.forall_mem_cons.mpr ⟨good_fmt e1 h1, List.forall_mem_cons.mpr ⟨good_str (by decide +kernel), List.forall_mem_nil _⟩⟩⟩) (by show 0 + 100000 * 3 ≤ sizeLine; rw [sizeLine_eq]; decide)⟩) (by decide +kernel) (by decide +kernel) (hno _ (by decide +kernel))
theorem i_NoHand (T : SupC P K mg C fI cc cda "NoHand.__init__" (defArgs (ini 24)) (defBody (ini 24)) (defScope (ini 24))) (hno : ∀ f ∈ (["hand"] : List Str), PySem.W.findIn K (.ref C) f = some none) :
    ∃ fd, FnOk P w K mg base CX0 1 fI fd (("self" : Str) :: ["hand"]) (spInit C ["hand"]) ∧ Binds K fd (("self" : Str) :: ["hand"]) [] :=
  init1 T (nscope_by (by decide +kernel)) (ar := ((defArgs (ini 24)).args.headD ⟨"", none, ⟨0, 0, 0, 0⟩⟩)) (by rfl) (by rfl) (by rfl) (fun _ _ _ _ _ _ us hl => match us, hl with | [_, _], _ => rfl) (fun _ => rfl) (fun _ => rfl) (fun A outer s H E hu => ⟨_, pe_joined (.cons pe_str (.cons (pe_fmtRA (units3 hu) (pv 1)) .nil)), fun σ H' R hv q => by
    obtain ⟨v1, e1, h1⟩ := hv 1 (by decide) (by decide)
    exact msg_ok (R := fun out H1 => R (.str out) H1) (fun x => q x) _ Str.empty (List.forall_mem_cons.mpr ⟨good_str (by decide +kernel), List.forall_mem_cons.mpr ⟨good_fmt e1 h1, List.forall_mem_nil _⟩⟩) (by show 0 + 100000 * 2 ≤ sizeLine; rw [sizeLine_eq]; decide)⟩) (by decide +kernel) (by decide +kernel) (hno _ (by decide +kernel))
theorem i_WrongMove (T : SupC P K mg C fI cc cda "WrongMove.__init__" (defArgs (ini 25)) (defBody (ini 25)) (defScope (ini 25))) (hno : ∀ f ∈ (["move", "rule"] : List Str), PySem.W.findIn K (.ref C) f = some none) :
    ∃ fd, FnOk P w K mg base CX0 1 fI fd (("self" : Str) :: ["move", "rule"]) (spInit C ["move", "rule"]) ∧ Binds K fd (("self" : Str) :: ["move", "rule"]) [] :=
  init2 T (nscope_by (by decide +kernel)) (ar := ((defArgs (ini 25)).args.headD ⟨"", none, ⟨0, 0, 0, 0⟩⟩)) (by rfl) (by rfl) (by rfl) (fun _ _ _ _ _ _ us hl => match us, hl with | [_, _, _], _ => rfl) (fun _ => rfl) (fun _ => rfl) (fun A outer s H E hu => ⟨_, pe_joined (.cons pe_str (.cons (pe_fmtRA (units3 hu) (pv 1)) (.cons pe_str (.cons (pe_fmtRA (units3 hu) (pv 2)) .nil)))), fun σ H' R hv q => by
    obtain ⟨v1, e1, h1⟩ := hv 1 (by decide) (by decide)
    obtain ⟨v2, e2, h2⟩ := hv 2 (by decide) (by decide)
    exact msg_ok (R := fun out H1 => R (.str out) H1) (fun x => q x) _ Str.empty (List.forall_mem_cons.mpr ⟨good_str (by decide +kernel), List.forall_mem_cons.mpr ⟨good_fmt e1 h1, List.forall_mem_cons.mpr ⟨good_str (by decide +kernel), List.forall_mem_cons.mpr ⟨good_fmt e2 h2, List.forall_mem_nil _⟩⟩⟩⟩) (by show 0 + 100000 * 4 ≤ sizeLine; rw [sizeLine_eq]; decide)⟩) (by decide +kernel) (by decide +kernel) (hno _ (by decide +kernel)) (by decide +kernel) (by decide +kernel) (hno _ (by decide +kernel))
theorem i_MustWait (T : SupC P K mg C fI cc cda "MustWait.__init__" (defArgs (ini 26)) (defBody (ini 26)) (defScope (ini 26))) (hno : ∀ f ∈ (["lock", "hand"] : List Str), PySem.W.findIn K (.ref C) f = some none) :
    ∃ fd, FnOk P w K mg base CX0 1 fI fd (("self" : Str) :: ["lock", "hand"]) (spInit C ["lock", "hand"]) ∧ Binds K fd (("self" : Str) :: ["lock", "hand"]) [] :=
  init2 T (nscope_by (by decide +kernel)) (ar := ((defArgs (ini 26)).args.headD ⟨"", none, ⟨0, 0, 0, 0⟩⟩)) (by rfl) (by rfl) (by rfl) (fun _ _ _ _ _ _ us hl => match us, hl with | [_, _, _], _ => rfl) (fun _ => rfl) (fun _ => rfl) (fun A outer s H E hu => ⟨_, pe_joined (.cons pe_str (.cons (pe_fmtRA (units3 hu) (pv 1)) (.cons pe_str (.cons (pe_fmtRA (units3 hu) (pv 2)) .nil)))), fun σ H' R hv q => by
    obtain ⟨v1, e1, h1⟩ := hv 1 (by decide) (by decide)
    obtain ⟨v2, e2, h2⟩ := hv 2 (by decide) (by decide)
    exact msg_ok (R := fun out H1 => R (.str out) H1) (fun x => q x) _ Str.empty (List.forall_mem_cons.mpr ⟨good_str (by decide +kernel), List.forall_mem_cons.mpr ⟨good_fmt e1 h1, List.forall_mem_cons.mpr ⟨good_str (by decide +kernel), List.forall_mem_cons.mpr ⟨good_fmt e2 h2, List.forall_mem_nil _⟩⟩⟩⟩) (by show 0 + 100000 * 4 ≤ sizeLine; rw [sizeLine_eq]; decide)⟩) (by decide +kernel) (by decide +kernel) (hno _ (by decide +kernel)) (by decide +kernel) (by decide +kernel) (hno _ (by decide +kernel))
theorem i_Refused (T : SupC P K mg C fI cc cda "Refused.__init__" (defArgs (ini 27)) (defBody (ini 27)) (defScope (ini 27))) (hno : ∀ f ∈ (["position"] : List Str), PySem.W.findIn K (.ref C) f = some none) :
    ∃ fd, FnOk P w K mg base CX0 1 fI fd (("self" : Str) :: ["position"]) (spInit C ["position"]) ∧ Binds K fd (("self" : Str) :: ["position"]) [] :=
  init1 T (nscope_by (by decide +kernel)) (ar := ((defArgs (ini 27)).args.headD ⟨"", none, ⟨0, 0, 0, 0⟩⟩)) (by rfl) (by rfl) (by rfl) (fun _ _ _ _ _ _ us hl => match us, hl with | [_, _], _ => rfl) (fun _ => rfl) (fun _ => rfl) (fun A outer s H E hu => ⟨_, pe_joined (.cons pe_str (.cons (pe_fmtRA (units3 hu) (pv 1)) (.cons pe_str .nil))), fun σ H' R hv q => by
    obtain ⟨v1, e1, h1⟩ := hv 1 (by decide) (by decide)
    exact msg_ok (R := fun out H1 => R (.str out) H1) (fun x => q x) _ Str.empty (List.forall_mem_cons.mpr ⟨good_str (by decide +kernel), List.forall_mem_cons.mpr ⟨good_fmt e1 h1, List.forall_mem_cons.mpr ⟨good_str (by decide +kernel), List.forall_mem_nil _⟩⟩⟩) (by show 0 + 100000 * 3 ≤ sizeLine; rw [sizeLine_eq]; decide)⟩) (by decide +kernel) (by decide +kernel) (hno _ (by decide +kernel))
theorem i_Unfinished (T : SupC P K mg C fI cc cda "Unfinished.__init__" (defArgs (ini 28)) (defBody (ini 28)) (defScope (ini 28))) (hno : ∀ f ∈ (["cycle", "short"] : List Str), PySem.W.findIn K (.ref C) f = some none) :
    ∃ fd, FnOk P w K mg base CX0 1 fI fd (("self" : Str) :: ["cycle", "short"]) (spInit C ["cycle", "short"]) ∧ Binds K fd (("self" : Str) :: ["cycle", "short"]) [] :=
  init2 T (nscope_by (by decide +kernel)) (ar := ((defArgs (ini 28)).args.headD ⟨"", none, ⟨0, 0, 0, 0⟩⟩)) (by rfl) (by rfl) (by rfl) (fun _ _ _ _ _ _ us hl => match us, hl with | [_, _, _], _ => rfl) (fun _ => rfl) (fun _ => rfl) (fun A outer s H E hu => ⟨_, pe_joined (.cons pe_str (.cons (pe_fmtRA (units3 hu) (pv 1)) (.cons pe_str (.cons (pe_fmtRA (units3 hu) (pv 2)) .nil)))), fun σ H' R hv q => by
    obtain ⟨v1, e1, h1⟩ := hv 1 (by decide) (by decide)
    obtain ⟨v2, e2, h2⟩ := hv 2 (by decide) (by decide)
    exact msg_ok (R := fun out H1 => R (.str out) H1) (fun x => q x) _ Str.empty (List.forall_mem_cons.mpr ⟨good_str (by decide +kernel), List.forall_mem_cons.mpr ⟨good_fmt e1 h1, List.forall_mem_cons.mpr ⟨good_str (by decide +kernel), List.forall_mem_cons.mpr ⟨good_fmt e2 h2, List.forall_mem_nil _⟩⟩⟩⟩) (by show 0 + 100000 * 4 ≤ sizeLine; rw [sizeLine_eq]; decide)⟩) (by decide +kernel) (by decide +kernel) (hno _ (by decide +kernel)) (by decide +kernel) (by decide +kernel) (hno _ (by decide +kernel))
theorem i_NoRequest (T : SupC P K mg C fI cc cda "NoRequest.__init__" (defArgs (ini 29)) (defBody (ini 29)) (defScope (ini 29))) (hno : ∀ f ∈ (["request"] : List Str), PySem.W.findIn K (.ref C) f = some none) :
    ∃ fd, FnOk P w K mg base CX0 1 fI fd (("self" : Str) :: ["request"]) (spInit C ["request"]) ∧ Binds K fd (("self" : Str) :: ["request"]) [] :=
  init1 T (nscope_by (by decide +kernel)) (ar := ((defArgs (ini 29)).args.headD ⟨"", none, ⟨0, 0, 0, 0⟩⟩)) (by rfl) (by rfl) (by rfl) (fun _ _ _ _ _ _ us hl => match us, hl with | [_, _], _ => rfl) (fun _ => rfl) (fun _ => rfl) (fun A outer s H E hu => ⟨_, pe_joined (.cons pe_str (.cons (pe_fmtRA (units3 hu) (pv 1)) .nil)), fun σ H' R hv q => by
    obtain ⟨v1, e1, h1⟩ := hv 1 (by decide) (by decide)
    exact msg_ok (R := fun out H1 => R (.str out) H1) (fun x => q x) _ Str.empty (List.forall_mem_cons.mpr ⟨good_str (by decide +kernel), List.forall_mem_cons.mpr ⟨good_fmt e1 h1, List.forall_mem_nil _⟩⟩) (by show 0 + 100000 * 2 ≤ sizeLine; rw [sizeLine_eq]; decide)⟩) (by decide +kernel) (by decide +kernel) (hno _ (by decide +kernel))
theorem i_NoLockOrder (T : SupC P K mg C fI cc cda "NoLockOrder.__init__" (defArgs (ini 30)) (defBody (ini 30)) (defScope (ini 30))) (hno : ∀ f ∈ (["cycle"] : List Str), PySem.W.findIn K (.ref C) f = some none) :
    ∃ fd, FnOk P w K mg base CX0 1 fI fd (("self" : Str) :: ["cycle"]) (spInit C ["cycle"]) ∧ Binds K fd (("self" : Str) :: ["cycle"]) [] :=
  init1 T (nscope_by (by decide +kernel)) (ar := ((defArgs (ini 30)).args.headD ⟨"", none, ⟨0, 0, 0, 0⟩⟩)) (by rfl) (by rfl) (by rfl) (fun _ _ _ _ _ _ us hl => match us, hl with | [_, _], _ => rfl) (fun _ => rfl) (fun _ => rfl) (fun A outer s H E hu => ⟨_, pe_joined (.cons pe_str (.cons (pe_fmtRA (units3 hu) (pv 1)) (.cons pe_str .nil))), fun σ H' R hv q => by
    obtain ⟨v1, e1, h1⟩ := hv 1 (by decide) (by decide)
    exact msg_ok (R := fun out H1 => R (.str out) H1) (fun x => q x) _ Str.empty (List.forall_mem_cons.mpr ⟨good_str (by decide +kernel), List.forall_mem_cons.mpr ⟨good_fmt e1 h1, List.forall_mem_cons.mpr ⟨good_str (by decide +kernel), List.forall_mem_nil _⟩⟩⟩) (by show 0 + 100000 * 3 ≤ sizeLine; rw [sizeLine_eq]; decide)⟩) (by decide +kernel) (by decide +kernel) (hno _ (by decide +kernel))
theorem i_BadStand (T : SupC P K mg C fI cc cda "BadStand.__init__" (defArgs (ini 31)) (defBody (ini 31)) (defScope (ini 31))) (hno : ∀ f ∈ (["part"] : List Str), PySem.W.findIn K (.ref C) f = some none) :
    ∃ fd, FnOk P w K mg base CX0 1 fI fd (("self" : Str) :: ["part"]) (spInit C ["part"]) ∧ Binds K fd (("self" : Str) :: ["part"]) [] :=
  init1 T (nscope_by (by decide +kernel)) (ar := ((defArgs (ini 31)).args.headD ⟨"", none, ⟨0, 0, 0, 0⟩⟩)) (by rfl) (by rfl) (by rfl) (fun _ _ _ _ _ _ us hl => match us, hl with | [_, _], _ => rfl) (fun _ => rfl) (fun _ => rfl) (fun A outer s H E hu => ⟨_, pe_joined (.cons pe_str (.cons (pe_fmtA (units5 hu) (pv 1)) .nil)), fun σ H' R hv q => by
    obtain ⟨v1, e1, h1⟩ := hv 1 (by decide) (by decide)
    exact msg_ok (R := fun out H1 => R (.str out) H1) (fun x => q x) _ Str.empty (List.forall_mem_cons.mpr ⟨good_str (by decide +kernel), List.forall_mem_cons.mpr ⟨good_fmtP e1 h1, List.forall_mem_nil _⟩⟩) (by show 0 + 100000 * 2 ≤ sizeLine; rw [sizeLine_eq]; decide)⟩) (by decide +kernel) (by decide +kernel) (hno _ (by decide +kernel))
theorem i_Unnested (T : SupC P K mg C fI cc cda "Unnested.__init__" (defArgs (ini 32)) (defBody (ini 32)) (defScope (ini 32))) (hno : ∀ f ∈ (["routine", "nodes"] : List Str), PySem.W.findIn K (.ref C) f = some none) :
    ∃ fd, FnOk P w K mg base CX0 1 fI fd (("self" : Str) :: ["routine", "nodes"]) (spInit C ["routine", "nodes"]) ∧ Binds K fd (("self" : Str) :: ["routine", "nodes"]) [] :=
  init2 T (nscope_by (by decide +kernel)) (ar := ((defArgs (ini 32)).args.headD ⟨"", none, ⟨0, 0, 0, 0⟩⟩)) (by rfl) (by rfl) (by rfl) (fun _ _ _ _ _ _ us hl => match us, hl with | [_, _, _], _ => rfl) (fun _ => rfl) (fun _ => rfl) (fun A outer s H E hu => ⟨_, pe_joined (.cons pe_str (.cons (pe_fmtRA (units3 hu) (pv 1)) (.cons pe_str (.cons (pe_fmtRA (units3 hu) (pv 2)) .nil)))), fun σ H' R hv q => by
    obtain ⟨v1, e1, h1⟩ := hv 1 (by decide) (by decide)
    obtain ⟨v2, e2, h2⟩ := hv 2 (by decide) (by decide)
    exact msg_ok (R := fun out H1 => R (.str out) H1) (fun x => q x) _ Str.empty (List.forall_mem_cons.mpr ⟨good_str (by decide +kernel), List.forall_mem_cons.mpr ⟨good_fmt e1 h1, List.forall_mem_cons.mpr ⟨good_str (by decide +kernel), List.forall_mem_cons.mpr ⟨good_fmt e2 h2, List.forall_mem_nil _⟩⟩⟩⟩) (by show 0 + 100000 * 4 ≤ sizeLine; rw [sizeLine_eq]; decide)⟩) (by decide +kernel) (by decide +kernel) (hno _ (by decide +kernel)) (by decide +kernel) (by decide +kernel) (hno _ (by decide +kernel))
theorem i_Clash (T : SupC P K mg C fI cc cda "Clash.__init__" (defArgs (ini 33)) (defBody (ini 33)) (defScope (ini 33))) (hno : ∀ f ∈ (["cycle"] : List Str), PySem.W.findIn K (.ref C) f = some none) :
    ∃ fd, FnOk P w K mg base CX0 1 fI fd (("self" : Str) :: ["cycle"]) (spInit C ["cycle"]) ∧ Binds K fd (("self" : Str) :: ["cycle"]) [] :=
  init1 T (nscope_by (by decide +kernel)) (ar := ((defArgs (ini 33)).args.headD ⟨"", none, ⟨0, 0, 0, 0⟩⟩)) (by rfl) (by rfl) (by rfl) (fun _ _ _ _ _ _ us hl => match us, hl with | [_, _], _ => rfl) (fun _ => rfl) (fun _ => rfl) (fun A outer s H E hu => ⟨_, pe_joined (.cons pe_str (.cons (pe_fmtRA (units3 hu) (pv 1)) .nil)), fun σ H' R hv q => by
    obtain ⟨v1, e1, h1⟩ := hv 1 (by decide) (by decide)
    exact msg_ok (R := fun out H1 => R (.str out) H1) (fun x => q x) _ Str.empty (List.forall_mem_cons.mpr ⟨good_str (by decide +kernel), List.forall_mem_cons.mpr ⟨good_fmt e1 h1, List.forall_mem_nil _⟩⟩) (by show 0 + 100000 * 2 ≤ sizeLine; rw [sizeLine_eq]; decide)⟩) (by decide +kernel) (by decide +kernel) (hno _ (by decide +kernel))
theorem i_NoState (T : SupC P K mg C fI cc cda "NoState.__init__" (defArgs (ini 34)) (defBody (ini 34)) (defScope (ini 34))) (hno : ∀ f ∈ (["state"] : List Str), PySem.W.findIn K (.ref C) f = some none) :
    ∃ fd, FnOk P w K mg base CX0 1 fI fd (("self" : Str) :: ["state"]) (spInit C ["state"]) ∧ Binds K fd (("self" : Str) :: ["state"]) [] :=
  init1 T (nscope_by (by decide +kernel)) (ar := ((defArgs (ini 34)).args.headD ⟨"", none, ⟨0, 0, 0, 0⟩⟩)) (by rfl) (by rfl) (by rfl) (fun _ _ _ _ _ _ us hl => match us, hl with | [_, _], _ => rfl) (fun _ => rfl) (fun _ => rfl) (fun A outer s H E hu => ⟨_, pe_joined (.cons pe_str (.cons (pe_fmtRA (units3 hu) (pv 1)) .nil)), fun σ H' R hv q => by
    obtain ⟨v1, e1, h1⟩ := hv 1 (by decide) (by decide)
    exact msg_ok (R := fun out H1 => R (.str out) H1) (fun x => q x) _ Str.empty (List.forall_mem_cons.mpr ⟨good_str (by decide +kernel), List.forall_mem_cons.mpr ⟨good_fmt e1 h1, List.forall_mem_nil _⟩⟩) (by show 0 + 100000 * 2 ≤ sizeLine; rw [sizeLine_eq]; decide)⟩) (by decide +kernel) (by decide +kernel) (hno _ (by decide +kernel))
theorem i_NotFit (T : SupC P K mg C fI cc cda "NotFit.__init__" (defArgs (ini 35)) (defBody (ini 35)) (defScope (ini 35))) (hno : ∀ f ∈ (["rule"] : List Str), PySem.W.findIn K (.ref C) f = some none) :
    ∃ fd, FnOk P w K mg base CX0 1 fI fd (("self" : Str) :: ["rule"]) (spInit C ["rule"]) ∧ Binds K fd (("self" : Str) :: ["rule"]) [] :=
  init1 T (nscope_by (by decide +kernel)) (ar := ((defArgs (ini 35)).args.headD ⟨"", none, ⟨0, 0, 0, 0⟩⟩)) (by rfl) (by rfl) (by rfl) (fun _ _ _ _ _ _ us hl => match us, hl with | [_, _], _ => rfl) (fun _ => rfl) (fun _ => rfl) (fun A outer s H E hu => ⟨_, pe_joined (.cons pe_str (.cons (pe_fmtRA (units3 hu) (pv 1)) .nil)), fun σ H' R hv q => by
    obtain ⟨v1, e1, h1⟩ := hv 1 (by decide) (by decide)
    exact msg_ok (R := fun out H1 => R (.str out) H1) (fun x => q x) _ Str.empty (List.forall_mem_cons.mpr ⟨good_str (by decide +kernel), List.forall_mem_cons.mpr ⟨good_fmt e1 h1, List.forall_mem_nil _⟩⟩) (by show 0 + 100000 * 2 ≤ sizeLine; rw [sizeLine_eq]; decide)⟩) (by decide +kernel) (by decide +kernel) (hno _ (by decide +kernel))
end
end K00
namespace K00
open PySem PySem.Spec PyProof.Rows L2
abbrev PP : Program := PySem.Challenge.pw_handsroom_k00_names_and_words
/-! ### what is looked at -/
def clsB (K : PySem.W.Frag) (C : Addr) : Bool := match K.lookup C with
  | some ⟨.type "type", _, .cls cd, sl⟩ => (match cd.mro, sl.toList with
    | .ref C' :: bm, [_, _, _, _, some (.builtin n), _] => C' == C && n == "ValueError.__new__" && !cd.hasDel && cd.hasDict && PySem.HandSPX.refsVE bm
    | _, _ => false)
  | _ => false
theorem clsB_ok {K : PySem.W.Frag} {C : Addr} (q : clsB K C = true) : ∃ nm q N bs bm sn sub ab col dd k0 k1 k2 k3 k5, K.lookup C = some (excClassObj nm q C N bs bm true sn sub ab col dd k0 k1 k2 k3 k5 "ValueError.__new__") ∧ PySem.HandSPX.refsVE bm = true := by
  unfold clsB at q
  split at q
  · rename_i dd cd sl ho
    split at q
    · rename_i C' bm k0 k1 k2 k3 n k5 hm hs
      simp only [Bool.and_eq_true, beq_iff_eq, Bool.not_eq_true'] at q
      obtain ⟨⟨⟨⟨rfl, rfl⟩, hdel⟩, hd⟩, hb⟩ := q
      obtain ⟨nm, bs, mro, ns, qn, hdd, sn, sub, ab, col, del⟩ := cd
      dsimp only at hm hdel hd
      subst hm hdel hd
      have hsl : sl = #[k0, k1, k2, k3, some (.builtin "ValueError.__new__"), k5] := by
        obtain ⟨l⟩ := sl
        simp only at hs
        rw [hs]
      subst hsl
      exact ⟨nm, qn, ns, bs, bm, sn, sub, ab, col, dd, k0, k1, k2, k3, k5, ho, hb⟩
    · cases q
  · cases q
def cellB (K : PySem.W.Frag) (cc C : Addr) : Bool := match K.lookup cc with
  | some ⟨_, _, .cell (some (.ref D)), _⟩ => D == C
  | _ => false
theorem cellB_ok {K : PySem.W.Frag} {cc C : Addr} (q : cellB K cc C = true) : ∃ (cl : Value) (cld : Option Addr) (csl : Array (Option Value)), K.lookup cc = some ⟨cl, cld, .cell (some (.ref C)), csl⟩ := by
  unfold cellB at q
  split at q
  · rename_i cl cld D csl ho
    rw [← beq_iff_eq.mp q]
    exact ⟨cl, cld, csl, ho⟩
  · cases q
def fileB (K : PySem.W.Frag) (cda : Addr) : Bool := match K.lookup cda with
  | some ⟨_, _, .fields vs, _⟩ => (match (vs[2]? : Option Value) with
    | some (.str fl _) => (PP.main.file : Str) == fl
    | _ => false)
  | _ => false
theorem fileB_ok {K : PySem.W.Frag} {cda : Addr} (q : fileB K cda = true) : ∃ (ccl : Value) (cdd : Option Addr) (vs : Array Value) (ccs : Array (Option Value)) (fl : Str) (tf : Tok), K.lookup cda = some ⟨ccl, cdd, .fields vs, ccs⟩ ∧ vs[2]? = some (.str fl tf) ∧ ((PP.main.file : Str) == fl) = true := by
  unfold fileB at q
  split at q
  · rename_i ccl cdd vs ccs ho
    split at q
    · rename_i fl tf hv
      exact ⟨ccl, cdd, vs, ccs, fl, tf, ho, hv, q⟩
    · cases q
  · cases q
def cloB (K : PySem.W.Frag) (C : Addr) (qn : Str) (clo : List (Str × Addr)) (dfl cod : Value) : Bool := match clo, dfl, cod with
  | [(_, cc)], .none, .ref cda => PySem.W.codeIn K (.ref cda) qn && (cellB K cc C && fileB K cda)
  | _, _, _ => false
theorem cloB_ok {K : PySem.W.Frag} {C : Addr} {qn : Str} {clo : List (Str × Addr)} {dfl cod : Value} (h : cloB K C qn clo dfl cod = true) : ∃ n0 cc cda, clo = [(n0, cc)] ∧ dfl = .none ∧ cod = .ref cda ∧ PySem.W.codeIn K (.ref cda) qn = true ∧ cellB K cc C = true ∧ fileB K cda = true := by
  unfold cloB at h
  split at h
  · rename_i n0 cc cda
    obtain ⟨y1, y2⟩ := He.ba h
    obtain ⟨y3, y4⟩ := He.ba y2
    exact ⟨n0, cc, cda, rfl, rfl, rfl, y1, y3, y4⟩
  · cases h
def fnB (K : PySem.W.Frag) (C fI : Addr) : Bool := match K.lookup fI with
  | some ⟨_, _, .func fd, _⟩ => cloB K C fd.qualname fd.closure fd.defaults fd.code
  | _ => false
abbrev FnE : Type := Option (Str × Arguments × FuncBody × Scope × Addr × List Str × Addr)
def fnE (K : PySem.W.Frag) (x : Str) : FnE := match K.lookup (He.ma K (He.ga K x) "__init__") with
  | some ⟨_, _, .func fd, _⟩ => some (fd.qualname, fd.params, fd.body, fd.scope, fd.globals, fd.closure.map (·.1), fd.builtins)
  | _ => none
def valE (q : Str × Str × Nat) : FnE := some (q.2.1, defArgs (ini q.2.2), .stmts (defBody (ini q.2.2)), defScope (ini q.2.2), mainGlobals, ["__class__"], builtinsNs)
def nextB (K : PySem.W.Frag) (C : Addr) : Bool := match PySem.W.clsIn K C with
  | some cd => He.eqO (PySem.W.alongIn K "__init__" ((cd.mro.dropWhile (· != .ref C)).drop 1)) (some (some (.builtin "ValueError.__init__")))
  | none => false
theorem nextB_ok {K : PySem.W.Frag} {C : Addr} (q : nextB K C = true) : ∃ cd, PySem.W.clsIn K C = some cd ∧ PySem.W.alongIn K "__init__" ((cd.mro.dropWhile (· != .ref C)).drop 1) = some (some (.builtin "ValueError.__init__")) := by
  unfold nextB at q
  split at q
  · rename_i cd hc
    exact ⟨cd, hc, He.eqO_ok q⟩
  · cases q
def oxB (K : PySem.W.Frag) (C : Addr) : Bool := clsB K C && (He.eqO (PySem.W.findIn K (.ref C) "__setattr__") (some (some (.builtin "object.__setattr__"))) && (decide (PySem.W.subIn K (.ref C) (.type "BaseException") = some true) && (decide (PySem.W.typeIn K (.ref C) = some (.type "type")) && PySem.W.keepIn K (.ref C))))
theorem oxB_ok {K : PySem.W.Frag} {C : Addr} (q : oxB K C = true) : OexC K C := by
  obtain ⟨h1, q⟩ := He.ba q
  obtain ⟨h2, q⟩ := He.ba q
  obtain ⟨h3, q⟩ := He.ba q
  obtain ⟨h4, h5⟩ := He.ba q
  exact ⟨clsB_ok h1, He.eqO_ok h2, of_decide_eq_true h3, of_decide_eq_true h4, h5⟩
def ecB (K : PySem.W.Frag) (C : Addr) : Bool := xfB K C && (He.eqO (PySem.W.findIn K (.ref C) "__class__") (some (some (.builtin "object.__class__"))) && (decide (PySem.W.mroIn K C (.type "object") = some true) && (decide (PySem.W.mroIn K C (.ref C) = some true) && decide (PySem.W.subIn K (.ref C) (.type "ValueError") = some true))))
def gsB (K : PySem.W.Frag) : Bool := He.eqO (PySem.W.specialIn K (.builtin "object.__class__") "__get__") (some (some (.builtin "getset_descriptor.__get__"))) && (decide (PySem.W.takesIn K (.builtin "object.__class__") = some true) && He.eqO (PySem.W.nsIn K cStatics "thirdparty.any") (some none))
def exB (K : PySem.W.Frag) (C : Addr) (fns : List Str) : Bool := oxB K C && (ecB K C && (nextB K C && (He.eqO (PySem.W.findIn K (.ref C) "__init__") (some (some (.ref (He.ma K C "__init__")))) && (decide (PySem.W.typeIn K (.ref (He.ma K C "__init__")) = some (.type "function")) && (fnB K C (He.ma K C "__init__") && fns.all fun f => He.eqO (PySem.W.findIn K (.ref C) f) (some none))))))
def kitB27 (K : PySem.W.Frag) (as : List Addr) (H : Addr) : Bool := (as.zip (List.range 27)).all fun p => decide (PySem.W.kitOne K (.ref p.1) (.ref H) = some true) && (decide (PySem.W.kitOne K (.ref p.1) (.type "ValueError") = some true) && (as.zip (List.range 27)).all fun q => decide (PySem.W.kitOne K (.ref p.1) (.ref q.1) = some (decide (p.2 = q.2))))
def isTupB (K : PySem.W.Frag) (a : Addr) : Bool := match K.lookup a with
  | some ⟨.type c, _, _, _⟩ => decide (c = "tuple")
  | _ => false
theorem isTupB_ok {K : PySem.W.Frag} {a : Addr} (q : isTupB K a = true) : ∃ o, K.lookup a = some o ∧ o.cls = .type "tuple" := by
  unfold isTupB at q
  split at q
  · rename_i c x1 x2 x3 ho
    exact ⟨_, ho, congrArg Value.type (of_decide_eq_true q)⟩
  · cases q
def exAll (K : PySem.W.Frag) : Bool := gsB K && ((tab.all fun p => exB K (He.ga K p.1) (p.2.map (·.1))) && (kitB27 K (tab.map fun p => He.ga K p.1) (He.ga K "HandsError") && ((He.tupB K "RESERVED" (RES.map He.Dv.str) && isTupB K (He.ga K "RESERVED")) && (He.tupB K "RULES" (RUL.map He.Dv.str) && isTupB K (He.ga K "RULES")))))
def fa : List He.Fa := [.glo "is_name", .glo "_law_draws", .glo "_law_next", .glo "_law_words", .glo "_law_value", .glo "_law_due", .glo "_law_classes", .glo "_law_errors", .glo "_law_fields_hold", .glo "law", .glo "BadPart", .glo "BadLine", .glo "NoSuch", .glo "Unlike", .glo "BadPath", .glo "BadMove", .glo "BadPlace", .glo "BadRun", .glo "BadPoint", .glo "TooLarge", .glo "NoRow", .glo "NoTag", .glo "NoNode", .glo "NoFirst", .glo "WrongFirst", .glo "NoHand", .glo "WrongMove", .glo "MustWait", .glo "Refused", .glo "Unfinished", .glo "NoRequest", .glo "NoLockOrder", .glo "BadStand", .glo "Unnested", .glo "Clash", .glo "NoState", .glo "NotFit", .glo "HandsError", .glo "RESERVED", .glo "RULES", .int "_MOST_CHARACTERS" 8, .str "_LETTERS" lets, .str "_DIGITS" digs, .free "isinstance", .free "str", .free "len", .free "all", .free "tuple", .free "list", .free "bool", .free "range", .free "enumerate", .free "int", .free "abs", .free "ValueError", .free "super"]
def fn : List He.DefD := [⟨("is_name", none), "is_name", "is_name", defArgs sIs, defBody sIs, defScope sIs, [], []⟩, ⟨("_law_draws", none), "_law_draws", "_law_draws", defArgs sDraws, defBody sDraws, defScope sDraws, [], []⟩, ⟨("_law_next", none), "_law_next", "_law_next", defArgs sNext, defBody sNext, defScope sNext, [], []⟩, ⟨("_law_words", none), "_law_words", "_law_words", defArgs sWords, defBody sWords, defScope sWords, [], []⟩, ⟨("_law_value", none), "_law_value", "_law_value", defArgs sVal, defBody sVal, defScope sVal, [], []⟩, ⟨("_law_due", none), "_law_due", "_law_due", defArgs sDue, defBody sDue, defScope sDue, [], []⟩, ⟨("_law_classes", none), "_law_classes", "_law_classes", defArgs sCls, defBody sCls, defScope sCls, [], []⟩, ⟨("_law_errors", none), "_law_errors", "_law_errors", defArgs sErr, defBody sErr, defScope sErr, [], []⟩, ⟨("_law_fields_hold", none), "_law_fields_hold", "_law_fields_hold", defArgs sHold, defBody sHold, defScope sHold, [], []⟩, ⟨("law", none), "law", "law", defArgs sLaw, defBody sLaw, defScope sLaw, [], []⟩]
def ecl : List (Str × Str × Nat) := [("BadPart", "BadPart.__init__", 9), ("BadLine", "BadLine.__init__", 10), ("NoSuch", "NoSuch.__init__", 11), ("Unlike", "Unlike.__init__", 12), ("BadPath", "BadPath.__init__", 13), ("BadMove", "BadMove.__init__", 14), ("BadPlace", "BadPlace.__init__", 15), ("BadRun", "BadRun.__init__", 16), ("BadPoint", "BadPoint.__init__", 17), ("TooLarge", "TooLarge.__init__", 18), ("NoRow", "NoRow.__init__", 19), ("NoTag", "NoTag.__init__", 20), ("NoNode", "NoNode.__init__", 21), ("NoFirst", "NoFirst.__init__", 22), ("WrongFirst", "WrongFirst.__init__", 23), ("NoHand", "NoHand.__init__", 24), ("WrongMove", "WrongMove.__init__", 25), ("MustWait", "MustWait.__init__", 26), ("Refused", "Refused.__init__", 27), ("Unfinished", "Unfinished.__init__", 28), ("NoRequest", "NoRequest.__init__", 29), ("NoLockOrder", "NoLockOrder.__init__", 30), ("BadStand", "BadStand.__init__", 31), ("Unnested", "Unnested.__init__", 32), ("Clash", "Clash.__init__", 33), ("NoState", "NoState.__init__", 34), ("NotFit", "NotFit.__init__", 35)]
abbrev AlE : Type := He.AlD × Bool × List FnE
def obsK (K : PySem.W.Frag) : AlE := (He.obsD fa fn K, exAll K, ecl.map fun q => fnE K q.1)
def obsE (g : Addr → Option Obj) : AlE := obsK (He.frG g (cStatics :: He.asD g 4))
def valA : AlE := (He.valD fn, true, ecl.map valE)
structure SaysE (K : PySem.W.Frag) : Prop where
  d : He.SaysD fa fn K
  ex : exAll K = true
  fe : (ecl.map fun q => fnE K q.1) = ecl.map valE
theorem saysE_of {K : PySem.W.Frag} (e : obsK K = valA) : SaysE K :=
  ⟨congrArg (fun z : AlE => z.1) e, congrArg (fun z : AlE => z.2.1) e, congrArg (fun z : AlE => z.2.2) e⟩
def hookE : PySem.W.Hook where
  α := AlE
  obs := fun s => obsE s.heap.get?
  val := fun _ => valA
  says := fun _ h => ∃ K : PySem.W.Frag, K.In h ∧ SaysE K
  of := fun _ _ e => ⟨_, He.frG_in, saysE_of e⟩
  keeps := fun _ _ _ ⟨K, hK, c⟩ k => ⟨K, PySem.W.Frag.In.keeps hK k, c⟩
/-! ### the facts used -/
theorem all_at {α : Type} {l : List α} {f : α → Bool} (h : l.all f = true) {j : Nat} {p : α} (e : l[j]? = some p) : f p = true := List.all_eq_true.mp h p (List.mem_of_getElem? e)
section
variable {K : PySem.W.Frag} {mg : Str → Option Value} {w : World} {base : Heap}
theorem zip_at {as : List Addr} {i : Nat} {a : Addr} (hl : as.length = 27) (h : as[i]? = some a) : (a, i) ∈ as.zip (List.range 27) := by
  have hi : i < as.length := (List.getElem?_eq_some_iff.mp h).1
  have e : (as.zip (List.range 27))[i]? = some (a, i) := by
    rw [List.getElem?_zip_eq_some]
    exact ⟨h, by rw [List.getElem?_range (by omega)]⟩
  exact List.mem_of_getElem? e
theorem kit_of (c : SaysE K) : Kit K ∧ (∀ (i : Nat) (p : Str × List (Str × Kd)), tab[i]? = some p → PySem.W.kitOne K (.ref (He.ga K p.1)) (.ref (He.ga K "HandsError")) = some true) ∧ ∀ (i : Nat) (p : Str × List (Str × Kd)), tab[i]? = some p → PySem.W.kitOne K (.ref (He.ga K p.1)) (.type "ValueError") = some true := by
  obtain ⟨_, h⟩ := He.ba c.ex
  obtain ⟨_, h⟩ := He.ba h
  obtain ⟨h, _⟩ := He.ba h
  have hl : (tab.map fun p => He.ga K p.1).length = 27 := by
    rw [List.length_map]
    rfl
  have at_ : ∀ (i : Nat) (p : Str × List (Str × Kd)), tab[i]? = some p → (He.ga K p.1, i) ∈ (tab.map fun p => He.ga K p.1).zip (List.range 27) := fun i p e => zip_at hl (by rw [List.getElem?_map, e]; rfl)
  have key := fun (i : Nat) (p : Str × List (Str × Kd)) (e : tab[i]? = some p) => He.ba (List.all_eq_true.mp h _ (at_ i p e))
  refine ⟨fun i j p q e1 e2 => ?_, fun i p e => of_decide_eq_true (key i p e).1, fun i p e => of_decide_eq_true (He.ba (key i p e).2).1⟩
  exact of_decide_eq_true (List.all_eq_true.mp (He.ba (key i p e1).2).2 _ (at_ j q e2))
theorem sup_of (c : SaysE K) (hs : mg "super" = none) {j : Nat} {p : Str × List (Str × Kd)} {q : Str × Str × Nat} (e : tab[j]? = some p) (e2 : ecl[j]? = some q) (hq : q.1 = p.1) :
    OexC K (He.ga K p.1) ∧ XfC K (He.ga K p.1) ∧ ExcC K (He.ga K p.1) ∧ (∀ f ∈ p.2.map (·.1), PySem.W.findIn K (.ref (He.ga K p.1)) f = some none) ∧
      ∃ fI cc cda, SupC PP K mg (He.ga K p.1) fI cc cda q.2.1 (defArgs (ini q.2.2)) (defBody (ini q.2.2)) (defScope (ini q.2.2)) := by
  obtain ⟨g, h⟩ := He.ba c.ex
  obtain ⟨h, _⟩ := He.ba h
  have h := all_at h e
  obtain ⟨g1, g⟩ := He.ba g
  obtain ⟨g2, g3⟩ := He.ba g
  obtain ⟨h1, h⟩ := He.ba h
  obtain ⟨h2, h⟩ := He.ba h
  obtain ⟨h3, h⟩ := He.ba h
  obtain ⟨h4, h⟩ := He.ba h
  obtain ⟨h5, h⟩ := He.ba h
  obtain ⟨h6, h7⟩ := He.ba h
  obtain ⟨x1, h2⟩ := He.ba h2
  obtain ⟨x2, h2⟩ := He.ba h2
  obtain ⟨x3, h2⟩ := He.ba h2
  obtain ⟨x4, x5⟩ := He.ba h2
  have O := oxB_ok h1
  have F := xfB_ok x1
  refine ⟨O, F, ⟨F.ga, F.gg, F.exC, F.hdC, He.eqO_ok x2, He.eqO_ok g1, of_decide_eq_true g2, of_decide_eq_true x3⟩, fun f hf => He.eqO_ok (List.all_eq_true.mp h7 f hf), ?_⟩
  have fe : (ecl.map fun q => fnE K q.1)[j]? = (ecl.map valE)[j]? := by rw [c.fe]
  rw [List.getElem?_map, List.getElem?_map, e2] at fe
  have fe : fnE K q.1 = valE q := Option.some.inj fe
  unfold fnB at h6
  rw [hq] at fe
  unfold fnE at fe
  cases hk : K.lookup (He.ma K (He.ga K p.1) "__init__") with
  | none =>
    rw [hk] at h6
    cases h6
  | some o =>
    obtain ⟨oc, od, dt, osl⟩ := o
    rw [hk] at h6 fe
    cases dt with
    | func fd =>
      obtain ⟨nm, qn, pa, bo, sc, gl, clo, dfl, kwd, doc, pm, an, cod, ct, bl⟩ := fd
      have fe2 : (qn, pa, bo, sc, gl, clo.map (·.1), bl) = (q.2.1, defArgs (ini q.2.2), FuncBody.stmts (defBody (ini q.2.2)), defScope (ini q.2.2), mainGlobals, [("__class__" : Str)], builtinsNs) := Option.some.inj fe
      simp only [Prod.mk.injEq] at fe2
      obtain ⟨rfl, rfl, rfl, rfl, rfl, ec, rfl⟩ := fe2
      obtain ⟨n0, cc, cda, rfl, rfl, rfl, y1, y3, y4⟩ := cloB_ok (show cloB K (He.ga K p.1) q.2.1 clo dfl cod = true from h6)
      have en : n0 = "__class__" := (List.cons.inj ec).1
      subst en
      exact ⟨_, cc, cda, ⟨O, He.eqO_ok h4, of_decide_eq_true h5, ⟨oc, od, osl, nm, kwd, doc, pm, ct, an, hk⟩, y1, cellB_ok y3, fileB_ok y4, hs, by decide +kernel, He.eqO_ok g3, nextB_ok h3, of_decide_eq_true x4, of_decide_eq_true x5⟩⟩
    | _ => cases h6
end
end K00
set_option maxHeartbeats 0
namespace K00
open PySem PySem.Spec PyProof.Rows L2
abbrev RR : PySem.W.OpenRow := PySem.W.OpenLaw.row PySem.Challenge.rw_handsroom_k00_names_and_words
def n1 : List PySem.Str := ["RESERVED", "RULES", "_LETTERS", "_DIGITS", "_MOST_CHARACTERS", "is_name", "HandsError", "BadPart", "BadLine", "NoSuch", "Unlike", "BadPath", "BadMove", "BadPlace", "BadRun", "BadPoint", "TooLarge", "NoRow", "NoTag", "NoNode", "NoFirst"]
def n2 : List PySem.Str := ["WrongFirst", "NoHand", "WrongMove", "MustWait", "Refused", "Unfinished", "NoRequest", "NoLockOrder", "BadStand", "Unnested", "Clash", "NoState", "NotFit", "_law_draws", "_law_next", "_law_words", "_law_value", "_law_due", "_law_classes", "_law_errors", "_law_fields_hold"]
def names : List PySem.Str := n1 ++ n2
def ob (s : PySem.W.SharedT) : AlE := obsE (HandSHeadRun.getT s)
theorem ob_eq (s : PySem.W.SharedT) : ob s = hookE.obs s.abs := by
  have e : HandSHeadRun.getT s = s.abs.heap.get? := funext fun a => HandSHeadRun.getT_eq s a
  show obsE (HandSHeadRun.getT s) = obsE s.abs.heap.get?
  rw [e]
theorem run (w : World) : HandSHeadRun.RunEq RR (PySem.W.view RR.prog [45]) hookE ob 9000 names w := by
  intro os
  kernel_rfl
end K00
namespace K00
open PySem PySem.Spec PyProof.Rows L2
theorem cl_all {w : World} {K : PySem.W.Frag} {h base : Heap} {mg : Str → Option Value} (X : K.In h) (G : h.Ns mainGlobals mg) (c : SaysE K) : ∀ (j : Nat) (p : Str × List (Str × Kd)), tab[j]? = some p → Cl PP w K mg base p.1 (He.ga K p.1) (p.2.map (·.1))
  | 0, _, e => by
    cases e
    obtain ⟨O, F, E, no, fI, cc, cda, T⟩ := sup_of (j := 0) c (He.free_ok X G (c.d.fact 55 (f := .free "super") rfl)) rfl rfl rfl
    obtain ⟨fd, Gf, B⟩ := i_BadPart (w := w) (base := base) T no
    exact ⟨(He.glo_ok X G (c.d.fact 10 (f := .glo "BadPart") rfl)), O, ⟨fI, fd, _, T.iC, T.tI, Gf, B⟩, F, no, E⟩
  | 1, _, e => by
    cases e
    obtain ⟨O, F, E, no, fI, cc, cda, T⟩ := sup_of (j := 1) c (He.free_ok X G (c.d.fact 55 (f := .free "super") rfl)) rfl rfl rfl
    obtain ⟨fd, Gf, B⟩ := i_BadLine (w := w) (base := base) T no
    exact ⟨(He.glo_ok X G (c.d.fact 11 (f := .glo "BadLine") rfl)), O, ⟨fI, fd, _, T.iC, T.tI, Gf, B⟩, F, no, E⟩
  | 2, _, e => by
    cases e
    obtain ⟨O, F, E, no, fI, cc, cda, T⟩ := sup_of (j := 2) c (He.free_ok X G (c.d.fact 55 (f := .free "super") rfl)) rfl rfl rfl
    obtain ⟨fd, Gf, B⟩ := i_NoSuch (w := w) (base := base) T no
    exact ⟨(He.glo_ok X G (c.d.fact 12 (f := .glo "NoSuch") rfl)), O, ⟨fI, fd, _, T.iC, T.tI, Gf, B⟩, F, no, E⟩
  | 3, _, e => by
    cases e
    obtain ⟨O, F, E, no, fI, cc, cda, T⟩ := sup_of (j := 3) c (He.free_ok X G (c.d.fact 55 (f := .free "super") rfl)) rfl rfl rfl
    obtain ⟨fd, Gf, B⟩ := i_Unlike (w := w) (base := base) T no
    exact ⟨(He.glo_ok X G (c.d.fact 13 (f := .glo "Unlike") rfl)), O, ⟨fI, fd, _, T.iC, T.tI, Gf, B⟩, F, no, E⟩
  | 4, _, e => by
    cases e
    obtain ⟨O, F, E, no, fI, cc, cda, T⟩ := sup_of (j := 4) c (He.free_ok X G (c.d.fact 55 (f := .free "super") rfl)) rfl rfl rfl
    obtain ⟨fd, Gf, B⟩ := i_BadPath (w := w) (base := base) T no
    exact ⟨(He.glo_ok X G (c.d.fact 14 (f := .glo "BadPath") rfl)), O, ⟨fI, fd, _, T.iC, T.tI, Gf, B⟩, F, no, E⟩
  | 5, _, e => by
    cases e
    obtain ⟨O, F, E, no, fI, cc, cda, T⟩ := sup_of (j := 5) c (He.free_ok X G (c.d.fact 55 (f := .free "super") rfl)) rfl rfl rfl
    obtain ⟨fd, Gf, B⟩ := i_BadMove (w := w) (base := base) T no
    exact ⟨(He.glo_ok X G (c.d.fact 15 (f := .glo "BadMove") rfl)), O, ⟨fI, fd, _, T.iC, T.tI, Gf, B⟩, F, no, E⟩
  | 6, _, e => by
    cases e
    obtain ⟨O, F, E, no, fI, cc, cda, T⟩ := sup_of (j := 6) c (He.free_ok X G (c.d.fact 55 (f := .free "super") rfl)) rfl rfl rfl
    obtain ⟨fd, Gf, B⟩ := i_BadPlace (w := w) (base := base) T no
    exact ⟨(He.glo_ok X G (c.d.fact 16 (f := .glo "BadPlace") rfl)), O, ⟨fI, fd, _, T.iC, T.tI, Gf, B⟩, F, no, E⟩
  | 7, _, e => by
    cases e
    obtain ⟨O, F, E, no, fI, cc, cda, T⟩ := sup_of (j := 7) c (He.free_ok X G (c.d.fact 55 (f := .free "super") rfl)) rfl rfl rfl
    obtain ⟨fd, Gf, B⟩ := i_BadRun (w := w) (base := base) T no
    exact ⟨(He.glo_ok X G (c.d.fact 17 (f := .glo "BadRun") rfl)), O, ⟨fI, fd, _, T.iC, T.tI, Gf, B⟩, F, no, E⟩
  | 8, _, e => by
    cases e
    obtain ⟨O, F, E, no, fI, cc, cda, T⟩ := sup_of (j := 8) c (He.free_ok X G (c.d.fact 55 (f := .free "super") rfl)) rfl rfl rfl
    obtain ⟨fd, Gf, B⟩ := i_BadPoint (w := w) (base := base) T no
    exact ⟨(He.glo_ok X G (c.d.fact 18 (f := .glo "BadPoint") rfl)), O, ⟨fI, fd, _, T.iC, T.tI, Gf, B⟩, F, no, E⟩
  | 9, _, e => by
    cases e
    obtain ⟨O, F, E, no, fI, cc, cda, T⟩ := sup_of (j := 9) c (He.free_ok X G (c.d.fact 55 (f := .free "super") rfl)) rfl rfl rfl
    obtain ⟨fd, Gf, B⟩ := i_TooLarge (w := w) (base := base) T no
    exact ⟨(He.glo_ok X G (c.d.fact 19 (f := .glo "TooLarge") rfl)), O, ⟨fI, fd, _, T.iC, T.tI, Gf, B⟩, F, no, E⟩
  | 10, _, e => by
    cases e
    obtain ⟨O, F, E, no, fI, cc, cda, T⟩ := sup_of (j := 10) c (He.free_ok X G (c.d.fact 55 (f := .free "super") rfl)) rfl rfl rfl
    obtain ⟨fd, Gf, B⟩ := i_NoRow (w := w) (base := base) T no
    exact ⟨(He.glo_ok X G (c.d.fact 20 (f := .glo "NoRow") rfl)), O, ⟨fI, fd, _, T.iC, T.tI, Gf, B⟩, F, no, E⟩
  | 11, _, e => by
    cases e
    obtain ⟨O, F, E, no, fI, cc, cda, T⟩ := sup_of (j := 11) c (He.free_ok X G (c.d.fact 55 (f := .free "super") rfl)) rfl rfl rfl
    obtain ⟨fd, Gf, B⟩ := i_NoTag (w := w) (base := base) T no
    exact ⟨(He.glo_ok X G (c.d.fact 21 (f := .glo "NoTag") rfl)), O, ⟨fI, fd, _, T.iC, T.tI, Gf, B⟩, F, no, E⟩
  | 12, _, e => by
    cases e
    obtain ⟨O, F, E, no, fI, cc, cda, T⟩ := sup_of (j := 12) c (He.free_ok X G (c.d.fact 55 (f := .free "super") rfl)) rfl rfl rfl
    obtain ⟨fd, Gf, B⟩ := i_NoNode (w := w) (base := base) T no
    exact ⟨(He.glo_ok X G (c.d.fact 22 (f := .glo "NoNode") rfl)), O, ⟨fI, fd, _, T.iC, T.tI, Gf, B⟩, F, no, E⟩
  | 13, _, e => by
    cases e
    obtain ⟨O, F, E, no, fI, cc, cda, T⟩ := sup_of (j := 13) c (He.free_ok X G (c.d.fact 55 (f := .free "super") rfl)) rfl rfl rfl
    obtain ⟨fd, Gf, B⟩ := i_NoFirst (w := w) (base := base) T no
    exact ⟨(He.glo_ok X G (c.d.fact 23 (f := .glo "NoFirst") rfl)), O, ⟨fI, fd, _, T.iC, T.tI, Gf, B⟩, F, no, E⟩
  | 14, _, e => by
    cases e
    obtain ⟨O, F, E, no, fI, cc, cda, T⟩ := sup_of (j := 14) c (He.free_ok X G (c.d.fact 55 (f := .free "super") rfl)) rfl rfl rfl
    obtain ⟨fd, Gf, B⟩ := i_WrongFirst (w := w) (base := base) T no
    exact ⟨(He.glo_ok X G (c.d.fact 24 (f := .glo "WrongFirst") rfl)), O, ⟨fI, fd, _, T.iC, T.tI, Gf, B⟩, F, no, E⟩
  | 15, _, e => by
    cases e
    obtain ⟨O, F, E, no, fI, cc, cda, T⟩ := sup_of (j := 15) c (He.free_ok X G (c.d.fact 55 (f := .free "super") rfl)) rfl rfl rfl
    obtain ⟨fd, Gf, B⟩ := i_NoHand (w := w) (base := base) T no
    exact ⟨(He.glo_ok X G (c.d.fact 25 (f := .glo "NoHand") rfl)), O, ⟨fI, fd, _, T.iC, T.tI, Gf, B⟩, F, no, E⟩
  | 16, _, e => by
    cases e
    obtain ⟨O, F, E, no, fI, cc, cda, T⟩ := sup_of (j := 16) c (He.free_ok X G (c.d.fact 55 (f := .free "super") rfl)) rfl rfl rfl
    obtain ⟨fd, Gf, B⟩ := i_WrongMove (w := w) (base := base) T no
    exact ⟨(He.glo_ok X G (c.d.fact 26 (f := .glo "WrongMove") rfl)), O, ⟨fI, fd, _, T.iC, T.tI, Gf, B⟩, F, no, E⟩
  | 17, _, e => by
    cases e
    obtain ⟨O, F, E, no, fI, cc, cda, T⟩ := sup_of (j := 17) c (He.free_ok X G (c.d.fact 55 (f := .free "super") rfl)) rfl rfl rfl
    obtain ⟨fd, Gf, B⟩ := i_MustWait (w := w) (base := base) T no
    exact ⟨(He.glo_ok X G (c.d.fact 27 (f := .glo "MustWait") rfl)), O, ⟨fI, fd, _, T.iC, T.tI, Gf, B⟩, F, no, E⟩
  | 18, _, e => by
    cases e
    obtain ⟨O, F, E, no, fI, cc, cda, T⟩ := sup_of (j := 18) c (He.free_ok X G (c.d.fact 55 (f := .free "super") rfl)) rfl rfl rfl
    obtain ⟨fd, Gf, B⟩ := i_Refused (w := w) (base := base) T no
    exact ⟨(He.glo_ok X G (c.d.fact 28 (f := .glo "Refused") rfl)), O, ⟨fI, fd, _, T.iC, T.tI, Gf, B⟩, F, no, E⟩
  | 19, _, e => by
    cases e
    obtain ⟨O, F, E, no, fI, cc, cda, T⟩ := sup_of (j := 19) c (He.free_ok X G (c.d.fact 55 (f := .free "super") rfl)) rfl rfl rfl
    obtain ⟨fd, Gf, B⟩ := i_Unfinished (w := w) (base := base) T no
    exact ⟨(He.glo_ok X G (c.d.fact 29 (f := .glo "Unfinished") rfl)), O, ⟨fI, fd, _, T.iC, T.tI, Gf, B⟩, F, no, E⟩
  | 20, _, e => by
    cases e
    obtain ⟨O, F, E, no, fI, cc, cda, T⟩ := sup_of (j := 20) c (He.free_ok X G (c.d.fact 55 (f := .free "super") rfl)) rfl rfl rfl
    obtain ⟨fd, Gf, B⟩ := i_NoRequest (w := w) (base := base) T no
    exact ⟨(He.glo_ok X G (c.d.fact 30 (f := .glo "NoRequest") rfl)), O, ⟨fI, fd, _, T.iC, T.tI, Gf, B⟩, F, no, E⟩
  | 21, _, e => by
    cases e
    obtain ⟨O, F, E, no, fI, cc, cda, T⟩ := sup_of (j := 21) c (He.free_ok X G (c.d.fact 55 (f := .free "super") rfl)) rfl rfl rfl
    obtain ⟨fd, Gf, B⟩ := i_NoLockOrder (w := w) (base := base) T no
    exact ⟨(He.glo_ok X G (c.d.fact 31 (f := .glo "NoLockOrder") rfl)), O, ⟨fI, fd, _, T.iC, T.tI, Gf, B⟩, F, no, E⟩
  | 22, _, e => by
    cases e
    obtain ⟨O, F, E, no, fI, cc, cda, T⟩ := sup_of (j := 22) c (He.free_ok X G (c.d.fact 55 (f := .free "super") rfl)) rfl rfl rfl
    obtain ⟨fd, Gf, B⟩ := i_BadStand (w := w) (base := base) T no
    exact ⟨(He.glo_ok X G (c.d.fact 32 (f := .glo "BadStand") rfl)), O, ⟨fI, fd, _, T.iC, T.tI, Gf, B⟩, F, no, E⟩
  | 23, _, e => by
    cases e
    obtain ⟨O, F, E, no, fI, cc, cda, T⟩ := sup_of (j := 23) c (He.free_ok X G (c.d.fact 55 (f := .free "super") rfl)) rfl rfl rfl
    obtain ⟨fd, Gf, B⟩ := i_Unnested (w := w) (base := base) T no
    exact ⟨(He.glo_ok X G (c.d.fact 33 (f := .glo "Unnested") rfl)), O, ⟨fI, fd, _, T.iC, T.tI, Gf, B⟩, F, no, E⟩
  | 24, _, e => by
    cases e
    obtain ⟨O, F, E, no, fI, cc, cda, T⟩ := sup_of (j := 24) c (He.free_ok X G (c.d.fact 55 (f := .free "super") rfl)) rfl rfl rfl
    obtain ⟨fd, Gf, B⟩ := i_Clash (w := w) (base := base) T no
    exact ⟨(He.glo_ok X G (c.d.fact 34 (f := .glo "Clash") rfl)), O, ⟨fI, fd, _, T.iC, T.tI, Gf, B⟩, F, no, E⟩
  | 25, _, e => by
    cases e
    obtain ⟨O, F, E, no, fI, cc, cda, T⟩ := sup_of (j := 25) c (He.free_ok X G (c.d.fact 55 (f := .free "super") rfl)) rfl rfl rfl
    obtain ⟨fd, Gf, B⟩ := i_NoState (w := w) (base := base) T no
    exact ⟨(He.glo_ok X G (c.d.fact 35 (f := .glo "NoState") rfl)), O, ⟨fI, fd, _, T.iC, T.tI, Gf, B⟩, F, no, E⟩
  | 26, _, e => by
    cases e
    obtain ⟨O, F, E, no, fI, cc, cda, T⟩ := sup_of (j := 26) c (He.free_ok X G (c.d.fact 55 (f := .free "super") rfl)) rfl rfl rfl
    obtain ⟨fd, Gf, B⟩ := i_NotFit (w := w) (base := base) T no
    exact ⟨(He.glo_ok X G (c.d.fact 36 (f := .glo "NotFit") rfl)), O, ⟨fI, fd, _, T.iC, T.tI, Gf, B⟩, F, no, E⟩
  | n + 27, _, e => by
    rw [List.getElem?_eq_none (by show 27 ≤ n + 27; omega)] at e
    cases e
theorem facts {w : World} {K : PySem.W.Frag} {h : Heap} {mg : Str → Option Value} {f : Addr} (X : K.In h) (G : h.Ns mainGlobals mg) (hfa : mg ("law" : Str) = some (.ref f)) (c : SaysE K) :
    ∃ fd : FuncData, (∀ (s : Shared) (v : Value), BindsTo s fd ⟨[v], []⟩ [("_law_script", v)]) ∧ ∀ base : Heap, K.In base → base.Ns mainGlobals mg → FnOk PP w K mg base CX0 4 f fd ["_law_script"] (spLaw K) := by
  obtain ⟨fdI, FI⟩ := c.d.def_ 0 (d := ⟨("is_name", none), "is_name", "is_name", defArgs sIs, defBody sIs, defScope sIs, [], []⟩) rfl
  obtain ⟨fdD, FD⟩ := c.d.def_ 1 (d := ⟨("_law_draws", none), "_law_draws", "_law_draws", defArgs sDraws, defBody sDraws, defScope sDraws, [], []⟩) rfl
  obtain ⟨fdN, FN⟩ := c.d.def_ 2 (d := ⟨("_law_next", none), "_law_next", "_law_next", defArgs sNext, defBody sNext, defScope sNext, [], []⟩) rfl
  obtain ⟨fdW, FW⟩ := c.d.def_ 3 (d := ⟨("_law_words", none), "_law_words", "_law_words", defArgs sWords, defBody sWords, defScope sWords, [], []⟩) rfl
  obtain ⟨fdV, FV⟩ := c.d.def_ 4 (d := ⟨("_law_value", none), "_law_value", "_law_value", defArgs sVal, defBody sVal, defScope sVal, [], []⟩) rfl
  obtain ⟨fdU, FU⟩ := c.d.def_ 5 (d := ⟨("_law_due", none), "_law_due", "_law_due", defArgs sDue, defBody sDue, defScope sDue, [], []⟩) rfl
  obtain ⟨fdC, FC⟩ := c.d.def_ 6 (d := ⟨("_law_classes", none), "_law_classes", "_law_classes", defArgs sCls, defBody sCls, defScope sCls, [], []⟩) rfl
  obtain ⟨fdE, FE⟩ := c.d.def_ 7 (d := ⟨("_law_errors", none), "_law_errors", "_law_errors", defArgs sErr, defBody sErr, defScope sErr, [], []⟩) rfl
  obtain ⟨fdH, FH⟩ := c.d.def_ 8 (d := ⟨("_law_fields_hold", none), "_law_fields_hold", "_law_fields_hold", defArgs sHold, defBody sHold, defScope sHold, [], []⟩) rfl
  obtain ⟨fdL, FL⟩ := c.d.def_ 9 (d := ⟨("law", none), "law", "law", defArgs sLaw, defBody sLaw, defScope sLaw, [], []⟩) rfl
  have e := hfa.symm.trans (He.glo_ok X G (c.d.fact 9 (f := .glo "law") rfl))
  cases e
  have b := FunD.bindsA (ps := ["_law_script"]) FL fun _ _ _ _ _ _ us hl => match us, hl with | [_], _ => rfl
  obtain ⟨tm, hm⟩ := He.int_ok X G (c.d.fact 40 (f := .int "_MOST_CHARACTERS" 8) rfl)
  obtain ⟨tl, hl⟩ := He.str_ok X G (c.d.fact 41 (f := .str "_LETTERS" lets) rfl)
  obtain ⟨td, hd⟩ := He.str_ok X G (c.d.fact 42 (f := .str "_DIGITS" digs) rfl)
  obtain ⟨kit, kitH, kitV⟩ := kit_of c
  obtain ⟨_, z⟩ := He.ba c.ex
  obtain ⟨_, z⟩ := He.ba z
  obtain ⟨_, z⟩ := He.ba z
  obtain ⟨zR, zU⟩ := He.ba z
  obtain ⟨zR1, zR2⟩ := He.ba zR
  obtain ⟨zU1, zU2⟩ := He.ba zU
  have NM : Nm K mg (He.ga K "RESERVED") := ⟨(He.free_ok X G (c.d.fact 43 (f := .free "isinstance") rfl)), (He.free_ok X G (c.d.fact 44 (f := .free "str") rfl)), (He.free_ok X G (c.d.fact 45 (f := .free "len") rfl)), (He.free_ok X G (c.d.fact 46 (f := .free "all") rfl)), ⟨tm, hm⟩, ⟨tl, hl⟩, ⟨td, hd⟩, (He.glo_ok X G (c.d.fact 38 (f := .glo "RESERVED") rfl)), fun H => He.tupB_ok zR1 H⟩
  have LN : LawN K mg (He.ga K "RESERVED") (He.ga K "RULES") := ⟨NM, (He.free_ok X G (c.d.fact 47 (f := .free "tuple") rfl)), (He.free_ok X G (c.d.fact 48 (f := .free "list") rfl)), (He.free_ok X G (c.d.fact 49 (f := .free "bool") rfl)), (He.free_ok X G (c.d.fact 50 (f := .free "range") rfl)), (He.free_ok X G (c.d.fact 51 (f := .free "enumerate") rfl)), (He.free_ok X G (c.d.fact 52 (f := .free "int") rfl)), (He.free_ok X G (c.d.fact 53 (f := .free "abs") rfl)), (He.free_ok X G (c.d.fact 54 (f := .free "ValueError") rfl)), (He.glo_ok X G (c.d.fact 37 (f := .glo "HandsError") rfl)), (He.glo_ok X G (c.d.fact 39 (f := .glo "RULES") rfl)), fun H => He.tupB_ok zU1 H, isTupB_ok zR2, isTupB_ok zU2, kit, kitH, kitV⟩
  exact ⟨fdL, fun s v => b s [v] rfl, fun base _ _ => ok_law FL FD FN FW FV FU FC FE FH FI (He.glo_ok X G (c.d.fact 1 (f := .glo "_law_draws") rfl)) (He.glo_ok X G (c.d.fact 2 (f := .glo "_law_next") rfl)) (He.glo_ok X G (c.d.fact 3 (f := .glo "_law_words") rfl)) (He.glo_ok X G (c.d.fact 4 (f := .glo "_law_value") rfl)) (He.glo_ok X G (c.d.fact 5 (f := .glo "_law_due") rfl)) (He.glo_ok X G (c.d.fact 6 (f := .glo "_law_classes") rfl)) (He.glo_ok X G (c.d.fact 7 (f := .glo "_law_errors") rfl)) (He.glo_ok X G (c.d.fact 8 (f := .glo "_law_fields_hold") rfl)) (He.glo_ok X G (c.d.fact 0 (f := .glo "is_name") rfl)) LN (cl_all X G c)⟩
end K00
open PySem PySem.W PySem.Calls PyProof.Rows
theorem PySem.Challenge.cw_handsroom_k00_names_and_words_holds : PySem.Challenge.rw_handsroom_k00_names_and_words.Holds := by
  w_on; o_law
  refine HandSHeadRun.head_any (r := OpenLaw.row PySem.Challenge.rw_handsroom_k00_names_and_words) (q := view (OpenLaw.row PySem.Challenge.rw_handsroom_k00_names_and_words).prog [45]) (H := K00.hookE) (ob := K00.ob) (M := 9000) (loose := K00.names) (d := HandSHeadRun.topDef (OpenLaw.row PySem.Challenge.rw_handsroom_k00_names_and_words).prog 45) (kwd := []) K00.ob_eq
    (by kernel_rfl) (fun s => by kernel_rfl) K00.run (by kernel_rfl) (by kernel_rfl) (by kernel_rfl) (by rfl) (by first | assumption | decide +kernel) (by decide +kernel) ⟨rfl, rfl, rfl, rfl, rfl, by decide +kernel⟩ ?hw ?hc
  case hw => w_witness2
  case hc =>
    refine L2.walk_ofE (l := PySem.Challenge.rw_handsroom_k00_names_and_words) (n := 63) (k := 4) (x := "_law_script") (CX := L2.CX0) rfl (by decide) (by kernel_rfl) ⟨rfl, by decide, by decide⟩ ?F (fun _ _ _ _ z => z)
    intro w mg fa h Y G hmg0
    obtain ⟨K, KX, c⟩ := Y
    have hmg : mg ("law" : PySem.Str) = some (.ref fa) := by
      have e : (HandSHeadRun.topDef (OpenLaw.row PySem.Challenge.rw_handsroom_k00_names_and_words).prog 45).name = ("law" : PySem.Str) := by kernel_rfl
      rw [← e]
      exact hmg0
    obtain ⟨fd, hb, hF⟩ := K00.facts (w := w) KX G hmg c
    exact ⟨K, fd, K00.spLaw K, KX, hb, fun H a ns hl _ hS => ⟨a, ns, rfl, hS, fun _ => rfl⟩, hF⟩
