import PyProof.Rows.All
import Wide.All
import OpenK.AllK
import Wide.FinOn
import KE.KStateDown
import Lean
import HandS.ForMost
import HandS.ForExc
import HandS.More
import HandS.ExcInit
import HandS.FStr
import HandS.ClsMeth
import HandS.CallLocal
import HandS.DictComp
import HandS.Conv
import HandS.Zip
import HandS.Walk
import HandS.WrittenGet
import HandS.Codes
import HandS.Defaults
import HandS.Head0
import HandS.Head1
import HandS.Head2
import HandS.HeadEnd
import HandS.HeadHook1
import HandS.HeadHook2
import HandS.HeadHook3
import HandS.HeadHook4
import HandS.HeadWalk
import HandS.Lambda
import HandS.EndTab
import HandS.ExcIs
import HandS.ExcField
import HandS.IsInst
import KE.KExcIs
import HandS.ReplaceDef
import HandS.ReplaceLit
import PyProof.Rows.CountFlat
import HandS.ReplaceList
import PySem.Challenge.RW_fuelshare_k02_check_faults
-- FsA
set_option Elab.async false
set_option linter.all false
set_option maxRecDepth 100000
set_option maxHeartbeats 4000000
namespace Fs
open PySem PySem.Spec PyProof.Rows L2
/-! own rules: a def of an own class called through the class -/
section
variable {X : Cx} {CX : CXT} {k : Nat} {C f : Addr} {fd : FuncData} {ps : List Str} {ds : List Value} {dvs : List V} {sp : Sp} {E : XK} {e : Expr} {es : List Expr} {x m : Str} {pos apos p1 : Pos} {t : TA} {mc : Value}
/-- what of the text lets a function be read off its class -/
structure CFun (K : PySem.W.Frag) (C : Addr) (m : Str) (u : Value) : Prop where
  rd : PySem.W.readsIn K C (.type "type") = true
  ga : PySem.W.specialIn K (.ref C) "__getattribute__" = some (some (.builtin "type.__getattribute__"))
  at_ : PySem.W.findCls K (.ref C) (.type "type") m = some (.val u)
theorem pe_cfun {pl : Sem Bool} (hg : Gl X x) (hm : X.mg x = some (.ref C)) (c : CFun X.K C m (.ref f)) (hk : PySem.W.keepIn X.K (.ref f) = true)
    (F : FnOk X.prog X.w X.K X.mg X.base CX k f fd ps sp) (hr : Room k X.A) (hb : Binds X.K fd ps ds) (hd : Vals dvs ds) (hx : Passes CX X E) (ha : PA X (e :: es) t)
    (hdb : (x == ("__debug__" : Str)) = false := by decide)
    (hst : starEach (e :: es) X.env = (false, eval e X.env) :: starEach es X.env := by rfl) (hpl : (backTo pos (starEach es X.env)).any (·.1) = false := by rfl)
    (ht : eval (.Call (.Attribute (.Name x p1) m apos) (e :: es) [] pos) X.env = (do
      let ov ← eval (.Name x p1) X.env
      standAt apos.atName
      let (f, first) ← holding [ov] (getMethod ov m pl)
      callWith pos f first (backTo pos (starEach (e :: es) X.env)) (backToKw pos (keywordEach [] X.env))) := by rfl) :
    PE X (.Call (.Attribute (.Name x p1) m apos) (e :: es) [] pos) (tCall sp dvs E t) := by
  refine ⟨fun pins s σ H Q I h => ?_⟩
  refine PySem.W.methodCall_KW (pl := pl) (ld_glob I hg hm ?_ hdb) ht
  refine PySem.W.method_cls I.kIn c.ga (PySem.W.cls_value I.kIn c.rd c.at_ (by rfl) ?_)
  refine PySem.W.callWith_K (first := []) (h₀ := X.base) I.ok.mod.kin hk (thn (ha.run pos pins _ σ H _ (I.tok _) h) fun us s2 ⟨vs, H2, I2, r, q2⟩ => ⟨I2.kIn, ?_⟩) hst hpl
  exact run_fn (us := us) (vs := vs) F hr hb hd hx I2 r q2
/-- an own exception class over ValueError: its base's __init__ is ValueError's -/
theorem pe_cveinit {pl : Sem Bool} (hg : Gl X x) (hm : X.mg x = some (.ref C)) (c : CFun X.K C "__init__" (.builtin "ValueError.__init__")) (ha : PA X (e :: es) t)
    (hdb : (x == ("__debug__" : Str)) = false := by decide)
    (hc : eval (.Call (.Attribute (.Name x p1) "__init__" apos) (e :: es) [] pos) X.env = (do
      let ov ← eval (.Name x p1) X.env
      standAt apos.atName
      let (f, first) ← holding [ov] (getMethod ov "__init__" pl)
      callWith pos f first (backTo pos (starEach (e :: es) X.env)) (backToKw pos (keywordEach [] X.env))) := by rfl)
    (he : starEach (e :: es) X.env = (false, eval e X.env) :: starEach es X.env := by rfl) (hpl : (backTo pos (starEach es X.env)).any (·.1) = false := by rfl) :
    PE X (.Call (.Attribute (.Name x p1) "__init__" apos) (e :: es) [] pos) (tVeI X.K t) := by
  refine ⟨fun pins s σ H Q I h => ?_⟩
  refine PySem.W.methodCall_KW (pl := pl) (ld_glob I hg hm ?_ hdb) hc
  refine PySem.W.method_cls I.kIn c.ga (PySem.W.cls_value I.kIn c.rd c.at_ (by rfl) ?_)
  show wpAny _ _ (callWith pos (Value.builtin "ValueError.__init__") [] (backTo pos (starEach (e :: es) X.env)) []) _ _ _
  refine PyProof.Rows.callWith_method1 (thn (ha.run pos pins _ σ H _ (I.tok _) h) fun us s1 ⟨vs, H1, I1, r1, a, C, ws, ev, hl, T, ea, q⟩ => ?_) he hpl
  subst ev
  cases r1 with
  | @cons _ u0 _ ur ra rw' =>
    obtain rfl : u0 = Value.ref a := ra
    have hlen : ur.length ≤ sizeLine := by
      rw [← Paired.length rw', sizeLine_eq]
      omega
    exact oinit_ok T I1 ea hlen fun s' J => ⟨.non, H1, J, rfl, q⟩
end
end Fs
-- FsB
set_option Elab.async false
set_option linter.all false
set_option maxRecDepth 100000
set_option maxHeartbeats 4000000
namespace Fs
open PySem PySem.Spec PyProof.Rows L2
/-! facts of the written part, as Bools -/
def oexB (K : PySem.W.Frag) (C : Addr) : Bool := match K.lookup C with
  | some ⟨.type t, _, .cls cd, sl⟩ => (match cd.mro, sl.toList with
    | .ref C' :: bm, [_, _, _, _, some (.builtin n), _] => decide (t = "type") && (decide (C' = C) && (decide (n = "ValueError.__new__") && (cd.hasDict && (!cd.hasDel && HandSPX.refsVE bm))))
    | _, _ => false)
  | _ => false
theorem oexB_ok {K : PySem.W.Frag} {C : Addr} (h : oexB K C = true) : ∃ nm q N bs bm sn sub ab col dd k0 k1 k2 k3 k5, K.lookup C = some (excClassObj nm q C N bs bm true sn sub ab col dd k0 k1 k2 k3 k5 "ValueError.__new__") ∧ PySem.HandSPX.refsVE bm = true := by
  unfold oexB at h
  split at h
  · rename_i t dd cd sl e
    split at h
    · rename_i C' bm k0 k1 k2 k3 n k5 e1 e2
      simp only [Bool.and_eq_true, decide_eq_true_eq, Bool.not_eq_true'] at h
      obtain ⟨rfl, rfl, rfl, h4, h5, h6⟩ := h
      obtain ⟨nm, bs, mro, N, q, hd, sn, sub, ab, col, del⟩ := cd
      simp only at e1 h4 h5
      subst e1 h4 h5
      have e3 : sl = #[k0, k1, k2, k3, some (.builtin "ValueError.__new__"), k5] := by
        rw [← e2]
      subst e3
      exact ⟨nm, q, N, bs, bm, sn, sub, ab, col, dd, k0, k1, k2, k3, k5, e, h6⟩
    · cases h
  · cases h
/-- an own exception class over ValueError -/
def ocB (K : PySem.W.Frag) (x : Str) : Bool := oexB K (He.ga K x) && (He.eqO (PySem.W.findIn K (.ref (He.ga K x)) "__setattr__") (some (some (.builtin "object.__setattr__"))) && (decide (PySem.W.subIn K (.ref (He.ga K x)) (.type "BaseException") = some true) &&
  (decide (PySem.W.typeIn K (.ref (He.ga K x)) = some (.type "type")) && PySem.W.keepIn K (.ref (He.ga K x)))))
theorem ocB_ok {K : PySem.W.Frag} {x : Str} (h : ocB K x = true) : OexC K (He.ga K x) := by
  obtain ⟨h1, h⟩ := He.ba h
  obtain ⟨h2, h⟩ := He.ba h
  obtain ⟨h3, h⟩ := He.ba h
  obtain ⟨h4, h5⟩ := He.ba h
  exact ⟨oexB_ok h1, He.eqO_ok h2, of_decide_eq_true h3, of_decide_eq_true h4, h5⟩
/-- its own __init__ -/
def oiB (K : PySem.W.Frag) (x : Str) : Bool := He.eqO (PySem.W.findIn K (.ref (He.ga K x)) "__init__") (some (some (.ref (He.ma K (He.ga K x) "__init__")))) && decide (PySem.W.typeIn K (.ref (He.ma K (He.ga K x) "__init__")) = some (.type "function"))
theorem oiB_ok {K : PySem.W.Frag} {x : Str} (h : oiB K x = true) : PySem.W.findIn K (.ref (He.ga K x)) "__init__" = some (some (.ref (He.ma K (He.ga K x) "__init__"))) ∧ PySem.W.typeIn K (.ref (He.ma K (He.ga K x) "__init__")) = some (.type "function") := by
  obtain ⟨h1, h2⟩ := He.ba h
  exact ⟨He.eqO_ok h1, of_decide_eq_true h2⟩
/-- C.m read off the class: the value u -/
def cfB (K : PySem.W.Frag) (C : Addr) (m : Str) (u : Value) : Bool := PySem.W.readsIn K C (.type "type") && (He.eqO (PySem.W.specialIn K (.ref C) "__getattribute__") (some (some (.builtin "type.__getattribute__"))) && (match PySem.W.findCls K (.ref C) (.type "type") m with
  | some (.val v) => decide (v = u)
  | _ => false))
theorem cfB_ok {K : PySem.W.Frag} {C : Addr} {m : Str} {u : Value} (h : cfB K C m u = true) : CFun K C m u := by
  obtain ⟨h1, h⟩ := He.ba h
  obtain ⟨h2, h3⟩ := He.ba h
  refine ⟨h1, He.eqO_ok h2, ?_⟩
  split at h3
  · rename_i v e
    rw [e, of_decide_eq_true h3]
  · cases h3
/-! ### a def in its promise: all that a call of it by its name asks -/
structure Prom (P : Program) (w : World) (K : PySem.W.Frag) (mg : Str → Option Value) (base : Heap) (x : Str) (k : Nat) (sp : Sp) : Prop where
  ex : ∃ (f : Addr) (fd : FuncData) (ps : List Str), mg x = some (.ref f) ∧ PySem.W.keepIn K (.ref f) = true ∧ Binds K fd ps [] ∧ FnOk P w K mg base (L2.CX P w) k f fd ps sp
/-- the same of a function value at f -/
structure PromAt (P : Program) (w : World) (K : PySem.W.Frag) (mg : Str → Option Value) (base : Heap) (f : Addr) (k : Nat) (sp : Sp) : Prop where
  ex : ∃ (fd : FuncData) (ps : List Str), PySem.W.keepIn K (.ref f) = true ∧ Binds K fd ps [] ∧ FnOk P w K mg base (L2.CX P w) k f fd ps sp
structure PromM (P : Program) (w : World) (K : PySem.W.Frag) (mg : Str → Option Value) (base : Heap) (C : Addr) (m : Str) (k : Nat) (sp : Sp) : Prop where
  cl : Cls K C
  ex : ∃ (f : Addr) (fd : FuncData) (ps : List Str), Meth K C m f ∧ Binds K fd ps [] ∧ FnOk P w K mg base (L2.CX P w) k f fd ps sp
section
variable {X : Cx} {k : Nat} {sp : Sp} {E : XK} {e o : Expr} {es : List Expr} {x m : Str} {pos apos p : Pos} {t : TA} {ta : TE} {C f : Addr} {i : Nat}
theorem pe_p (F : Prom X.prog X.w X.K X.mg X.base x k sp) (hr : Room k X.A) (hx : Passes (L2.CX X.prog X.w) X E) (ha : PA X (e :: es) t) (hg : Gl X x := by rfl)
    (hdb : (x == ("__debug__" : Str)) = false := by decide) (he : starEach (e :: es) X.env = (false, eval e X.env) :: starEach es X.env := by rfl) (hpl : (backTo pos (starEach es X.env)).any (·.1) = false := by rfl) :
    PE X (.Call (.Name x p) (e :: es) [] pos) (tCall sp [] E t) := by
  obtain ⟨f, fd, ps, h1, h2, h3, h4⟩ := F.ex
  exact pe_call h4 hr hg h1 h2 h3 .nil hx ha hdb he hpl
theorem pe_pm {pl : Sem Bool} (F : PromM X.prog X.w X.K X.mg X.base C m k sp) (hr : Room k X.A) (hx : Passes (L2.CX X.prog X.w) X E) (ho : PE X o ta) (ha : PA X (e :: es) t)
    (hst : starEach (e :: es) X.env = (false, eval e X.env) :: starEach es X.env := by rfl) (hpl : (backTo pos (starEach es X.env)).any (·.1) = false := by rfl)
    (ht : eval (.Call (.Attribute o m apos) (e :: es) [] pos) X.env = (do
      let ov ← eval o X.env
      standAt apos.atName
      let (f, first) ← holding [ov] (getMethod ov m pl)
      callWith pos f first (backTo pos (starEach (e :: es) X.env)) (backToKw pos (keywordEach [] X.env))) := by rfl) :
    PE X (.Call (.Attribute o m apos) (e :: es) [] pos) (tMeth C m sp [] E ta t) := by
  obtain ⟨f, fd, ps, h1, h2, h3⟩ := F.ex
  exact pe_meth ho F.cl h1 h3 hr h2 .nil hx ha hst hpl ht
theorem pe_pm0 {pl : Sem Bool} (F : PromM X.prog X.w X.K X.mg X.base C m k sp) (hr : Room k X.A) (hx : Passes (L2.CX X.prog X.w) X E) (ho : PE X o ta)
    (ht : eval (.Call (.Attribute o m apos) [] [] pos) X.env = (do
      let ov ← eval o X.env
      standAt apos.atName
      let (f, first) ← holding [ov] (getMethod ov m pl)
      callWith pos f first (backTo pos (starEach [] X.env)) (backToKw pos (keywordEach [] X.env))) := by rfl) :
    PE X (.Call (.Attribute o m apos) [] [] pos) (tMeth C m sp [] E ta tNil) := by
  obtain ⟨f, fd, ps, h1, h2, h3⟩ := F.ex
  exact pe_meth0 ho F.cl h1 h3 hr h2 .nil hx ht
/-- exceptions pass out of a def that lets out just what is told -/
theorem passW {W : WX} (tk : Takes X W) (hW : ∀ cls d σ H, E cls d H → W cls d σ H) : Passes (L2.CX X.prog X.w) X E := passes_call tk hW
end
end Fs
-- FsT
set_option Elab.async false
set_option linter.all false
set_option maxRecDepth 100000
set_option maxHeartbeats 4000000
namespace Fs
open PySem PySem.Spec PyProof.Rows L2
/-! ## tuple(d) of a written dict -/
section
variable {prog : Program} {w : World} {A : Around} {E : Value → Shared → Prop} {s : Shared} {d n : Nat} {P : Nat → Value → Prop} {OK : Heap → Prop}
abbrev Dsrc (prog : Program) (w : World) (d : Addr) (n : Nat) (P : Nat → Value → Prop) (OK : Heap → Prop) : Prop := PySem.W.KdlSrc prog w "dict" d d n P OK
theorem gather_d {Q : List Value → Shared → Prop} (D : Dsrc prog w d n P OK) (hh : A.handled = none) (hok : OK s.heap) (hn : n ≤ sizeLine)
    (hQ : ∀ (h' : Heap) (tk : Nat) (acc : Array Value), (∀ b o, s.heap.get? b = some o → h'.get? b = some o) → ItemsOf P acc n → Q acc.toList { s with heap := h', toks := tk }) : wpAny (model prog w) A (collect (.ref d)) Q E s := by
  unfold collect
  refine wpAny_bind (wpAny_runValue (codeAny_builtin F.entry_proto_collect ?_))
  rw [Around.under_plainId F.plain_proto_collect _]
  refine wpAny_bind (wpAny_newObj_type ?_)
  refine wpAny_pure ⟨plainId_quiet F.plain_list_iadd _, codeAny_builtin F.entry_list_iadd ?_⟩
  rw [Around.under_plainId F.plain_list_iadd _]
  have lt := D.there _ hok
  have hS : (s.heap.push { cls := .type "list", data := .seq ([] : List Value).toArray }).get? s.heap.objs.size = some { cls := .type "list", data := .seq #[] 0 } := Heap.get?_push_size _ rfl
  have kp : ∀ b o, s.heap.get? b = some o → (s.heap.push { cls := .type "list", data := .seq ([] : List Value).toArray }).get? b = some o := fun b o e => Heap.get?_push_of_some _ e
  refine wpAny_mono (PySem.W.kdl_extend (A := A) (R := fun rr s' => rr = .ok (.ret (.ref s.heap.objs.size)) ∧ ∃ (h' : Heap) (tk : Nat) (acc : Array Value) (c' : Nat), s' = { s with heap := h', toks := tk } ∧
      (∀ b o, s.heap.get? b = some o → h'.get? b = some o) ∧ h'.get? s.heap.objs.size = some { cls := .type "list", dict := none, data := .seq acc c', slots := #[] } ∧ ItemsOf P acc n)
    (s := { s with heap := s.heap.push { cls := .type "list", data := .seq ([] : List Value).toArray } }) D hh (D.keep _ _ hok fun b _ o e => kp b o e) s.heap.objs.size (Nat.ne_of_gt lt.1) (Nat.ne_of_gt lt.2) (.ref s.heap.objs.size) 0 hS
    (fun h' tk acc c' hk e hi => ⟨rfl, h', tk, acc, c', rfl, fun b o q => hk b o (Nat.ne_of_lt (Heap.lt_size q)) (kp b o q), e, hi⟩) hn) (fun fin s' z => ?_) (fun e s' z => ?_)
  · cases fin with
    | done f =>
      obtain ⟨e, h', tk, acc, c', rfl, hk, hS', hi⟩ := z
      cases e
      exact wpAny_bind (wpAny_load hS' (wpAny_pure (hQ h' tk acc hk hi)))
    | again c' =>
      refine ⟨z.1, codeAny_mono z.2 fun rr s'' hr' => ?_⟩
      obtain ⟨rfl, h', tk, acc, c', rfl, hk, hS', hi⟩ := hr'
      exact wpAny_bind (wpAny_load hS' (wpAny_pure (hQ h' tk acc hk hi)))
  · exact absurd z.1 (by simp)
theorem tupnew_d {Q₁ : Value → Shared → Prop} (D : Dsrc prog w d n P OK) (hh : A.handled = none) (hok : OK s.heap) (hn : n ≤ sizeLine)
    (h : ∀ (h' : Heap) (tk : Nat) (acc : Array Value), (∀ b o, s.heap.get? b = some o → h'.get? b = some o) → ItemsOf P acc n → Q₁ (.ref h'.objs.size) { s with heap := h'.push { cls := .type "tuple", data := .seq acc }, toks := tk }) :
    codeAny (model prog w) A (.call (.builtin "tuple.__new__") ⟨[.type "tuple", .ref d], []⟩) (wants Q₁ E) s := by
  refine codeAny_of_tree ?_
  show wpAny _ A.in1 (do checkBuiltinCall "tuple.__new__" ⟨[.type "tuple", .ref d], []⟩; again (.builtin "tuple.__new__" ⟨[.type "tuple", .ref d], []⟩)) _ _ s
  refine wpAny_bind (wpAny_of_eq (F.newCall_tuple_1 _) (wpAny_pure ⟨plainId_quiet F.plain_tuple_new _, codeAny_builtin F.entry_tuple_new ?_⟩))
  rw [Around.under_plainId F.plain_tuple_new _]
  have hsub := sub_tuple_self
  have hinit := init_tuple_lookup
  have hmh := madeHere_tuple
  have ty : s.TypeIs (.ref d) "dict" := D.type s hok
  have hh1 : A.in1.handled = none := hh
  wp_walk using wpAny_typeOf ty, gather_d (A := A.in1) D hh1 hok hn
  intro h' tk acc hk hacc
  show wpAny _ _ (Builtin.Tuple.tupleExact acc.toList.toArray >>= fun v => ret v) _ _ _
  unfold Builtin.Tuple.tupleExact
  refine wpAny_bind (wpAny_newObj_type ?_ (by show acc.toList.toArray.size ≤ sizeLine; simp only [Array.toArray_toList]; rw [hacc.1]; exact hn))
  refine wpAny_pure ?_
  have e : acc.toList.toArray = acc := by simp
  rw [e]
  exact h h' tk acc hk hacc
theorem calltup_d {Q : Value → Shared → Prop} (D : Dsrc prog w d n P OK) (hh : A.handled = none) (hok : OK s.heap) (hn : n ≤ sizeLine)
    (hQ : ∀ (h' : Heap) (tk : Nat) (acc : Array Value), (∀ b o, s.heap.get? b = some o → h'.get? b = some o) → ItemsOf P acc n → Q (.ref h'.objs.size) { s with heap := h'.push { cls := .type "tuple", data := .seq acc }, toks := tk }) :
    wpAny (model prog w) A (call (.type "tuple") [.ref d]) Q E s := by
  refine callType_codes (Q₁ := fun obj s₁ => s₁.TypeIs obj "tuple" ∧ Q obj s₁) F.called_tuple (F.typeCall_tuple_1 _) F.entry_object_init
    (tupnew_d (A := A.in1) D hh hok hn fun h' tk acc hk hacc => ⟨⟨_, Heap.get?_push_size _ rfl, rfl⟩, hQ h' tk acc hk hacc⟩) fun obj s₁ h₁ => ?_
  exact ⟨h₁.1, F.args_object_init_2 obj _, object_init_meets F.called_tuple.init.lookup F.called_tuple.made (by decide) prog w A.in1 _ s₁ ⟨h₁.1, rfl, h₁.2⟩⟩
end
/-- the written dict at d has the text keys ks, in order -/
structure KKeys (K : PySem.W.Frag) (w : World) (d : Addr) (ks : List Str) : Prop where
  eq : He.dicW K d = some (He.keysIn w.params ks)
  nd : ks.Nodup
theorem says_keys {fa : List He.Fa} {fn : List He.DefD} {ts : List He.Tab} {w : World} {K : PySem.W.Frag} (c : He.SaysT fa fn ts w K) (i : Nat) {t : He.Tab} (h : ts[i]? = some t := by rfl) : He.dicW K (t.1 K) = some (He.keysIn w.params t.2) := by
  have e : ts.map (fun t => He.dicW K (t.1 K)) = ts.map fun t => some (He.keysIn w.params t.2) := congrArg (fun z : He.AlT => z.2) c
  have e2 : (ts.map fun t => He.dicW K (t.1 K))[i]? = (ts.map fun t => some (He.keysIn w.params t.2))[i]? := by rw [e]
  rw [List.getElem?_map, List.getElem?_map, h] at e2
  exact Option.some.inj e2
theorem pairs_of {prog : Program} {w : World} : ∀ {l : List DictEntry} {ks : List Str}, l.map He.keyOf = He.keysIn w.params ks → ∃ kvs : List (Str × Value), Pairs (PySem.strKind prog w) l kvs ∧ kvs.map (·.1) = ks
  | [], [], _ => ⟨[], .nil, rfl⟩
  | [], _ :: _, h => by cases h
  | _ :: _, [], h => by cases h
  | e :: r, k :: ks, h => by
    have h1 : He.keyOf e :: r.map He.keyOf = some (k, PyData.keyHash w.params k) :: He.keysIn w.params ks := h
    injection h1 with h2 h3
    obtain ⟨kvs, p, q⟩ := pairs_of h3
    refine ⟨(k, e.val) :: kvs, .cons ?_ rfl p, by rw [List.map_cons, q]⟩
    unfold He.keyOf at h2
    split at h2
    · rename_i x t ek
      obtain ⟨h5, h6⟩ := Prod.mk.inj (Option.some.inj h2)
      subst h5
      rw [ek]
      exact PySem.strKind_is prog w x t
    · cases h2
theorem KKeys.at {K : PySem.W.Frag} {w : World} {d : Addr} {ks : List Str} (k : KKeys K w d ks) {prog : Program} {h : Heap} (X : K.In h) : (d == sysModules) = false ∧ ∃ (kvs : List (Str × Value)) (n : Nat), kvs.map (·.1) = ks ∧ h.DictAt (PySem.strKind prog w) d kvs n := by
  obtain ⟨es, n, D⟩ := He.dicW_ok k.eq
  refine ⟨D.low, ?_⟩
  have e1 : es.toList.map He.keyOf = He.keysIn w.params ks := by
    have z := k.eq
    unfold He.dicW at z
    rw [D.at_] at z
    have z2 : (match decide (("dict" : String) = "dict") && ((#[] : Array (Option Value)).isEmpty && !(d == sysModules)) with
      | true => some (es.toList.map He.keyOf)
      | false => none) = some (He.keysIn w.params ks) := z
    rw [D.low] at z2
    exact Option.some.inj z2
  obtain ⟨kvs, p, q⟩ := pairs_of (prog := prog) e1
  obtain ⟨o, es', ep, h1, h2, h3, h4, _⟩ := PySem.W.mapOf_K (prog := prog) X D.at_ D.lit
  have h0 := X _ _ D.at_
  rw [h0] at h1
  cases h1
  cases h3
  exact ⟨kvs, n, q, _, es, h0, h2, rfl, h4, p, by rw [q]; exact k.nd⟩
/-- tuple(d) -/
def rTupKd (K : PySem.W.Frag) (w : World) : List V → Hp → VK → Prop := fun xs H Q => ∃ d ks, xs = [.ref d] ∧ KKeys K w d ks ∧ ks.length ≤ 1000 ∧ ∀ p, H p = none → Q (.ref p) (upd H p (.tup (ks.map V.str)))
theorem call_tupKd {X : Cx} (hc : X.calm = true) : CallR X (.type "tuple") (rTupKd X.K X.w) := by
  intro pins s σ H xs us Q I r h
  obtain ⟨d, ks, rfl, kk, hl, q⟩ := h
  obtain ⟨u, eu, rx⟩ := vals1 r
  subst eu
  obtain rfl : u = Value.ref d := rx
  obtain ⟨lo, kvs, n, hk, hat⟩ := kk.at (prog := X.prog) I.kIn
  have hlen : kvs.length = ks.length := by rw [← hk, List.length_map]
  refine calltup_d (PySem.W.kdl_dict (knd := PySem.strKind X.prog X.w) (kvs := kvs) (ep := n) lo) (I.ok.hd hc) hat (by rw [hlen]; exact Nat.le_trans hl (by decide)) fun h' tk acc hkeep hacc => ?_
  have I1 : Inv X pins σ H { s with heap := h', toks := tk } := I.kept (t' := tk) hkeep
  have I2 : Inv X pins σ (upd H h'.objs.size (.tup (ks.map V.str))) { s with heap := h'.push { cls := .type "tuple", data := .seq acc }, toks := tk } := by
    refine I1.laid (t' := tk) (fun b o e => Heap.get?_push_of_some _ e) (Nat.le_refl _) (show ObjOk X.prog X.w _ _ _ (.tup (ks.map V.str)) from ⟨by rw [List.length_map]; exact Nat.le_trans hl (by decide), acc.toList, ?_, by rw [Array.toArray_toList]; exact IsTup.new _ _⟩)
    refine vals_of_at (by rw [List.length_map, show acc.toList.length = acc.size from Array.length_toList, hacc.1, hlen]) fun j x v h1 h2 => ?_
    obtain ⟨k, y, hky, hi⟩ := hacc.2 j v (by rw [← Array.getElem?_toList]; exact h2)
    have e1 : ks[j]? = some k := by
      rw [← hk, List.getElem?_map, hky]
      rfl
    rw [List.getElem?_map, e1] at h1
    cases h1
    have h3 : Value.isStrOf k v = true := hi
    cases v with
    | str z t =>
      have h4 : decide (z = k) = true ∨ decide (k = z) = true := by
        unfold Value.isStrOf at h3
        simp at h3
        simp [h3]
      rcases h4 with h4 | h4
      · exact ⟨t, by rw [of_decide_eq_true h4]⟩
      · exact ⟨t, by rw [← of_decide_eq_true h4]⟩
    | _ => unfold Value.isStrOf at h3; cases h3
  exact ⟨.ref h'.objs.size, _, I2, rfl, q _ (I1.hok.fresh (Nat.le_refl _))⟩
end Fs
-- FsB2
set_option Elab.async false
set_option linter.all false
set_option maxRecDepth 100000
set_option maxHeartbeats 4000000
namespace Fs
open PySem PySem.Spec PyProof.Rows L2
/-! the head's Hook over all objects up to a bound, the list of them reckoned once -/
def forceL {α β : Type} : List α → (List α → β) → β
  | [], k => k []
  | x :: r, k => forceL r fun l => k (x :: l)
theorem forceL_eq {α β : Type} : ∀ (l : List α) (k : List α → β), forceL l k = k l
  | [], _ => rfl
  | x :: r, k => by
    show forceL r (fun l => k (x :: l)) = _
    rw [forceL_eq r]
def obsF (as : List Addr) (fa : List He.Fa) (fn : List He.DefD) (ts : List He.Tab) (tf : List He.Defn) (ex : PySem.W.Frag → Bool) (g : Addr → Option Obj) : He.AlX :=
  forceL (He.frT g as) fun K => (He.obsT fa fn ts K, ex K && He.tabsB g tf K)
theorem saysF_of {as : List Addr} {fa : List He.Fa} {fn : List He.DefD} {ts : List He.Tab} {tf : List He.Defn} {ex : PySem.W.Frag → Bool} {w : World} {h : Heap} (e : obsF as fa fn ts tf ex h.get? = He.valX fn ts w) :
    He.SaysX fa fn ts tf ex w h (He.frT h.get? as) := by
  unfold obsF at e
  rw [forceL_eq] at e
  generalize hK : He.frT h.get? as = K at e
  have e1 : He.obsT fa fn ts K = He.valT fn ts w := congrArg (fun z : He.AlX => z.1) e
  have e2 : (ex K && He.tabsB h.get? tf K) = true := congrArg (fun z : He.AlX => z.2) e
  obtain ⟨h1, h2⟩ := He.ba e2
  have key : ∀ p ∈ tf, PySem.W.codeHdIn K (He.cT K p).1 (He.cT K p).2 = true ∧ ∃ o, h.get? (He.cT K p).2 = some o ∧ He.emptyTab o = true := fun p hp => by
    obtain ⟨h3, h4⟩ := He.ba (List.all_eq_true.mp h2 p hp)
    refine ⟨h3, ?_⟩
    revert h4
    cases h.get? (He.cT K p).2 with
    | none => exact fun z => nomatch z
    | some o => exact fun z => ⟨o, rfl, z⟩
  refine ⟨e1, h1, fun p hp => (key p hp).1, fun p hp => ?_, fun p hp => ?_⟩
  · obtain ⟨_, o, q, z⟩ := key p hp
    rw [← hK] at q ⊢
    exact He.frT_none q z
  · obtain ⟨_, o, q, z⟩ := key p hp
    rw [q, He.emptyTab_eq z]
def hookF (as : List Addr) (fa : List He.Fa) (fn : List He.DefD) (ts : List He.Tab) (tf : List He.Defn) (ex : PySem.W.Frag → Bool) : PySem.W.Hook where
  α := He.AlX
  obs := fun s => obsF as fa fn ts tf ex s.heap.get?
  val := fun w => He.valX fn ts w
  says := fun w h => ∃ K : PySem.W.Frag, K.In h ∧ He.SaysX fa fn ts tf ex w h K
  of := fun _ _ e => ⟨_, He.frT_in, saysF_of e⟩
  keeps := fun _ _ _ ⟨K, hK, c⟩ k => ⟨K, PySem.W.Frag.In.keeps hK k, ⟨c.t, c.more, c.hd, c.out, fun p hp => k _ _ (c.empty p hp)⟩⟩
theorem obsF_eq {as : List Addr} {fa : List He.Fa} {fn : List He.DefD} {ts : List He.Tab} {tf : List He.Defn} {ex : PySem.W.Frag → Bool} {g : Addr → Option Obj} {s : Shared} (h : ∀ a, g a = s.heap.get? a) : obsF as fa fn ts tf ex g = (hookF as fa fn ts tf ex).obs s := by
  have e : g = s.heap.get? := funext h
  rw [e]
  rfl
/-! isinstance of a caught error that has a dict of its own -/
structure IsC (K : PySem.W.Frag) (C : Addr) : Prop where
  xf : XfC K C
  cl : (PySem.W.clsIn K C).isSome = true
  ha : PySem.W.findIn K (.ref C) "__class__" = some (some (.builtin "object.__class__"))
  hn : PySem.W.specialIn K (.builtin "object.__class__") "__get__" = some (some (.builtin "getset_descriptor.__get__"))
  ht : PySem.W.takesIn K (.builtin "object.__class__") = some true
  hm : PySem.W.mroIn K C (.type "object") = some true
def isB (K : PySem.W.Frag) (C : Addr) : Bool := xfB K C && ((PySem.W.clsIn K C).isSome && (He.eqO (PySem.W.findIn K (.ref C) "__class__") (some (some (.builtin "object.__class__"))) && (He.eqO (PySem.W.specialIn K (.builtin "object.__class__") "__get__") (some (some (.builtin "getset_descriptor.__get__"))) &&
  (decide (PySem.W.takesIn K (.builtin "object.__class__") = some true) && decide (PySem.W.mroIn K C (.type "object") = some true)))))
theorem isB_ok {K : PySem.W.Frag} {C : Addr} (h : isB K C = true) : IsC K C := by
  obtain ⟨h1, h⟩ := He.ba h
  obtain ⟨h2, h⟩ := He.ba h
  obtain ⟨h3, h⟩ := He.ba h
  obtain ⟨h4, h⟩ := He.ba h
  obtain ⟨h5, h6⟩ := He.ba h
  exact ⟨xfB_ok h1, h2, He.eqO_ok h3, He.eqO_ok h4, of_decide_eq_true h5, of_decide_eq_true h6⟩
/-- of which of the classes xs an instance of the class D is one -/
def kitsB (K : PySem.W.Frag) (D : Addr) (xs : List (Str × Bool)) : Bool := (xs.all fun p => decide (PySem.W.kitOne K (.ref D) (.ref (He.ga K p.1)) = some p.2)) && decide (PySem.W.kitOne K (.ref D) (.type "ValueError") = some true)
structure Kits (K : PySem.W.Frag) (D : Addr) (xs : List (Str × Bool)) : Prop where
  own : ∀ (i : Nat) (x : Str) (b : Bool), xs[i]? = some (x, b) → PySem.W.kitOne K (.ref D) (.ref (He.ga K x)) = some b
  ve : PySem.W.kitOne K (.ref D) (.type "ValueError") = some true
theorem kitsB_ok {K : PySem.W.Frag} {D : Addr} {xs : List (Str × Bool)} (h : kitsB K D xs = true) : Kits K D xs := by
  obtain ⟨h1, h2⟩ := He.ba h
  exact ⟨fun i x b e => of_decide_eq_true (List.all_eq_true.mp h1 (x, b) (List.mem_of_getElem? e)), of_decide_eq_true h2⟩
/-- isinstance(e, c), e the error that the suite holds, with a dict of its own at d -/
def rIsX (K : PySem.W.Frag) (a : Addr) (cls : Value) (d : Option Addr) : List V → Hp → VK → Prop := fun xs H Q => ∃ (c : V) (cv : Value) (b : Bool) (D dd : Addr) (fs : List (Str × V)), xs = [.ref a, c] ∧ ClsV c cv ∧ cls = .ref D ∧ d = some dd ∧ H dd = some (.xd fs) ∧ IsC K D ∧ PySem.W.kitOne K (.ref D) cv = some b ∧ Q (.bl b) H
theorem call_isX {X : Cx} {a : Addr} {oe : Obj} {cls : Value} {d : Option Addr} {pn : List (Addr × Obj)} (hz : Zc cls d oe) (hf : ∃ vs, oe.data = .fields vs) : CallR (X.suite a ((a, oe) :: pn)) (.builtin "isinstance") (rIsX X.K a cls d) := by
  intro pins s σ H xs us Q I r h
  obtain ⟨c, cv, b, D, dd, fs, rfl, hcv, rfl, rfl, ea, C, e, q⟩ := h
  obtain ⟨u1, u2, rfl, r1, r2⟩ := vals2 r
  have e2 := hcv.eq r2
  subst e2
  obtain rfl : u1 = Value.ref a := r1
  obtain ⟨hget, _⟩ := I.pin (a, oe) (List.mem_append_left _ (.head _))
  obtain ⟨vs, hv⟩ := hf
  obtain ⟨mA, hns, _⟩ := (show ObjOk X.prog X.w H s.heap dd (.xd fs) from I.hok dd _ ea)
  obtain ⟨od, ho, _⟩ := lookIn_ns hns
  have J : PySem.W.InstAt s.heap a oe D (some od) := ⟨hget, hz.1, by unfold PySem.W.notCls; rw [hv] <;> rfl, by rw [hz.2]; exact ho⟩
  exact PySem.W.kia_one (PySem.W.kitx_exc C.cl C.xf.ga C.xf.gg C.xf.exC C.ha C.hn C.ht C.hm) I.kIn J e (fun z => nomatch z) fun tk => ⟨.bl b, H, I.kept (t' := tk) fun _ _ z => z, rfl, q⟩
end Fs
-- FsP
set_option Elab.async false
set_option linter.all false
set_option maxRecDepth 100000
set_option maxHeartbeats 4000000
namespace Fs
open PySem PySem.Spec PyProof.Rows L2
def top (i : Nat) : Stmt := PySem.Challenge.pw_fuelshare_k02_check_faults.main.body.getD i (.Pass ⟨0, 0, 0, 0⟩)
abbrev s_SyntaxFault_init : Stmt := inClass (top 2) 0
abbrev s_CheckFault_init : Stmt := inClass (top 3) 0
abbrev s_InvalidCode_init : Stmt := inClass (top 10) 0
abbrev s_InvalidOperation_init : Stmt := inClass (top 15) 0
abbrev s_InvalidSession_init : Stmt := inClass (top 16) 0
abbrev s_Token_init : Stmt := inClass (top 19) 0
abbrev s_Expression_init : Stmt := inClass (top 20) 0
abbrev s_Statement_init : Stmt := inClass (top 21) 0
abbrev s_Statement_assigned : Stmt := inClass (top 21) 1
abbrev s_Statement_expressions : Stmt := inClass (top 21) 2
abbrev s_Statement_blocks : Stmt := inClass (top 21) 3
abbrev s_AssignStatement_init : Stmt := inClass (top 22) 0
abbrev s_AssignStatement_assigned : Stmt := inClass (top 22) 1
abbrev s_AssignStatement_expressions : Stmt := inClass (top 22) 2
abbrev s_ValueStatement_init : Stmt := inClass (top 23) 0
abbrev s_ValueStatement_expressions : Stmt := inClass (top 23) 1
abbrev s_IfStatement_init : Stmt := inClass (top 24) 0
abbrev s_IfStatement_expressions : Stmt := inClass (top 24) 1
abbrev s_IfStatement_blocks : Stmt := inClass (top 24) 2
abbrev s_LoopStatement_init : Stmt := inClass (top 25) 0
abbrev s_LoopStatement_expressions : Stmt := inClass (top 25) 1
abbrev s_LoopStatement_blocks : Stmt := inClass (top 25) 2
abbrev s_CallStatement_init : Stmt := inClass (top 26) 0
abbrev s_CallStatement_assigned : Stmt := inClass (top 26) 1
abbrev s_CallStatement_expressions : Stmt := inClass (top 26) 2
abbrev s_CallStatement_fraction : Stmt := inClass (top 26) 3
abbrev s_Function_init : Stmt := inClass (top 27) 0
abbrev s_Cursor_init : Stmt := inClass (top 60) 0
abbrev s_Cursor_ahead : Stmt := inClass (top 60) 1
abbrev s_Cursor_take_any : Stmt := inClass (top 60) 2
abbrev s_Cursor_take : Stmt := inClass (top 60) 3
abbrev s_list_statements : Stmt := top 28
abbrev s_list_locals : Stmt := top 29
abbrev s_fail : Stmt := top 36
abbrev s_check_functions : Stmt := top 37
abbrev s_check_headers : Stmt := top 38
abbrev s_check_header_word : Stmt := top 39
abbrev s_check_limits : Stmt := top 40
abbrev s_check_statement : Stmt := top 41
abbrev s_check_call : Stmt := top 42
abbrev s_read_tokens : Stmt := top 50
abbrev s_read_line : Stmt := top 51
abbrev s_read_token : Stmt := top 52
abbrev s_find_end : Stmt := top 53
abbrev s_find_kind : Stmt := top 54
abbrev s_is_number : Stmt := top 55
abbrev s_parse_tokens : Stmt := top 61
abbrev s_parse_function : Stmt := top 62
abbrev s_parse_list : Stmt := top 63
abbrev s_parse_parameter : Stmt := top 64
abbrev s_parse_block : Stmt := top 65
abbrev s_open_first : Stmt := top 66
abbrev s_open_else : Stmt := top 67
abbrev s_parse_statement : Stmt := top 68
abbrev s_parse_set : Stmt := top 69
abbrev s_parse_put : Stmt := top 70
abbrev s_parse_assignment : Stmt := top 71
abbrev s_parse_value : Stmt := top 72
abbrev s_parse_if : Stmt := top 73
abbrev s_parse_loop : Stmt := top 74
abbrev s_parse_call : Stmt := top 75
abbrev s_parse_share : Stmt := top 76
abbrev s_parse_expression : Stmt := top 77
abbrev s_read_program : Stmt := top 80
abbrev s_format_source : Stmt := top 83
abbrev s_format_functions : Stmt := top 84
abbrev s_format_function : Stmt := top 85
abbrev s_format_block : Stmt := top 86
abbrev s_format_statement : Stmt := top 87
abbrev s_write_assignment : Stmt := top 88
abbrev s_write_value : Stmt := top 89
abbrev s_write_if : Stmt := top 90
abbrev s_write_loop : Stmt := top 91
abbrev s_write_call : Stmt := top 92
abbrev s_write_expression : Stmt := top 93
abbrev s_law_random : Stmt := top 96
abbrev s_law_below : Stmt := top 97
abbrev s_law_faulty : Stmt := top 98
abbrev s_law_error_of : Stmt := top 99
abbrev s_law : Stmt := top 100
abbrev n_SyntaxFault_init : List Str := ["self", "line", "column"]
theorem sc_SyntaxFault_init : FnScope n_SyntaxFault_init ["self", "line", "column"] (defScope s_SyntaxFault_init) := ⟨rfl, rfl, rfl, by decide +kernel, rfl, by decide +kernel, by decide +kernel⟩
abbrev n_CheckFault_init : List Str := ["self", "reason", "line", "column"]
theorem sc_CheckFault_init : FnScope n_CheckFault_init ["self", "reason", "line", "column"] (defScope s_CheckFault_init) := ⟨rfl, rfl, rfl, by decide +kernel, rfl, by decide +kernel, by decide +kernel⟩
abbrev n_InvalidCode_init : List Str := ["self", "offset"]
theorem sc_InvalidCode_init : FnScope n_InvalidCode_init ["self", "offset"] (defScope s_InvalidCode_init) := ⟨rfl, rfl, rfl, by decide +kernel, rfl, by decide +kernel, by decide +kernel⟩
abbrev n_InvalidOperation_init : List Str := ["self", "position"]
theorem sc_InvalidOperation_init : FnScope n_InvalidOperation_init ["self", "position"] (defScope s_InvalidOperation_init) := ⟨rfl, rfl, rfl, by decide +kernel, rfl, by decide +kernel, by decide +kernel⟩
abbrev n_InvalidSession_init : List Str := ["self", "line"]
theorem sc_InvalidSession_init : FnScope n_InvalidSession_init ["self", "line"] (defScope s_InvalidSession_init) := ⟨rfl, rfl, rfl, by decide +kernel, rfl, by decide +kernel, by decide +kernel⟩
abbrev n_Token_init : List Str := ["self", "kind", "text", "line", "column"]
theorem sc_Token_init : FnScope n_Token_init ["self", "kind", "text", "line", "column"] (defScope s_Token_init) := ⟨rfl, rfl, rfl, by decide +kernel, rfl, by decide +kernel, by decide +kernel⟩
abbrev n_Expression_init : List Str := ["self", "terms", "operators"]
theorem sc_Expression_init : FnScope n_Expression_init ["self", "terms", "operators"] (defScope s_Expression_init) := ⟨rfl, rfl, rfl, by decide +kernel, rfl, by decide +kernel, by decide +kernel⟩
abbrev n_Statement_init : List Str := ["self", "keyword"]
theorem sc_Statement_init : FnScope n_Statement_init ["self", "keyword"] (defScope s_Statement_init) := ⟨rfl, rfl, rfl, by decide +kernel, rfl, by decide +kernel, by decide +kernel⟩
abbrev n_Statement_assigned : List Str := ["self"]
theorem sc_Statement_assigned : FnScope n_Statement_assigned ["self"] (defScope s_Statement_assigned) := ⟨rfl, rfl, rfl, by decide +kernel, rfl, by decide +kernel, by decide +kernel⟩
abbrev n_Statement_expressions : List Str := ["self"]
theorem sc_Statement_expressions : FnScope n_Statement_expressions ["self"] (defScope s_Statement_expressions) := ⟨rfl, rfl, rfl, by decide +kernel, rfl, by decide +kernel, by decide +kernel⟩
abbrev n_Statement_blocks : List Str := ["self"]
theorem sc_Statement_blocks : FnScope n_Statement_blocks ["self"] (defScope s_Statement_blocks) := ⟨rfl, rfl, rfl, by decide +kernel, rfl, by decide +kernel, by decide +kernel⟩
abbrev n_AssignStatement_init : List Str := ["self", "keyword", "target", "expression"]
theorem sc_AssignStatement_init : FnScope n_AssignStatement_init ["self", "keyword", "target", "expression"] (defScope s_AssignStatement_init) := ⟨rfl, rfl, rfl, by decide +kernel, rfl, by decide +kernel, by decide +kernel⟩
abbrev n_AssignStatement_assigned : List Str := ["self"]
theorem sc_AssignStatement_assigned : FnScope n_AssignStatement_assigned ["self"] (defScope s_AssignStatement_assigned) := ⟨rfl, rfl, rfl, by decide +kernel, rfl, by decide +kernel, by decide +kernel⟩
abbrev n_AssignStatement_expressions : List Str := ["self"]
theorem sc_AssignStatement_expressions : FnScope n_AssignStatement_expressions ["self"] (defScope s_AssignStatement_expressions) := ⟨rfl, rfl, rfl, by decide +kernel, rfl, by decide +kernel, by decide +kernel⟩
abbrev n_ValueStatement_init : List Str := ["self", "keyword", "expression"]
theorem sc_ValueStatement_init : FnScope n_ValueStatement_init ["self", "keyword", "expression"] (defScope s_ValueStatement_init) := ⟨rfl, rfl, rfl, by decide +kernel, rfl, by decide +kernel, by decide +kernel⟩
abbrev n_ValueStatement_expressions : List Str := ["self"]
theorem sc_ValueStatement_expressions : FnScope n_ValueStatement_expressions ["self"] (defScope s_ValueStatement_expressions) := ⟨rfl, rfl, rfl, by decide +kernel, rfl, by decide +kernel, by decide +kernel⟩
abbrev n_IfStatement_init : List Str := ["self", "keyword", "left", "comparison", "right"]
theorem sc_IfStatement_init : FnScope n_IfStatement_init ["self", "keyword", "left", "comparison", "right"] (defScope s_IfStatement_init) := ⟨rfl, rfl, rfl, by decide +kernel, rfl, by decide +kernel, by decide +kernel⟩
abbrev n_IfStatement_expressions : List Str := ["self"]
theorem sc_IfStatement_expressions : FnScope n_IfStatement_expressions ["self"] (defScope s_IfStatement_expressions) := ⟨rfl, rfl, rfl, by decide +kernel, rfl, by decide +kernel, by decide +kernel⟩
abbrev n_IfStatement_blocks : List Str := ["self"]
theorem sc_IfStatement_blocks : FnScope n_IfStatement_blocks ["self"] (defScope s_IfStatement_blocks) := ⟨rfl, rfl, rfl, by decide +kernel, rfl, by decide +kernel, by decide +kernel⟩
abbrev n_LoopStatement_init : List Str := ["self", "keyword", "times"]
theorem sc_LoopStatement_init : FnScope n_LoopStatement_init ["self", "keyword", "times"] (defScope s_LoopStatement_init) := ⟨rfl, rfl, rfl, by decide +kernel, rfl, by decide +kernel, by decide +kernel⟩
abbrev n_LoopStatement_expressions : List Str := ["self"]
theorem sc_LoopStatement_expressions : FnScope n_LoopStatement_expressions ["self"] (defScope s_LoopStatement_expressions) := ⟨rfl, rfl, rfl, by decide +kernel, rfl, by decide +kernel, by decide +kernel⟩
abbrev n_LoopStatement_blocks : List Str := ["self"]
theorem sc_LoopStatement_blocks : FnScope n_LoopStatement_blocks ["self"] (defScope s_LoopStatement_blocks) := ⟨rfl, rfl, rfl, by decide +kernel, rfl, by decide +kernel, by decide +kernel⟩
abbrev n_CallStatement_init : List Str := ["self", "keyword", "target", "function", "arguments", "share", "fallback"]
theorem sc_CallStatement_init : FnScope n_CallStatement_init ["self", "keyword", "target", "function", "arguments", "share", "fallback"] (defScope s_CallStatement_init) := ⟨rfl, rfl, rfl, by decide +kernel, rfl, by decide +kernel, by decide +kernel⟩
abbrev n_CallStatement_assigned : List Str := ["self"]
theorem sc_CallStatement_assigned : FnScope n_CallStatement_assigned ["self"] (defScope s_CallStatement_assigned) := ⟨rfl, rfl, rfl, by decide +kernel, rfl, by decide +kernel, by decide +kernel⟩
abbrev n_CallStatement_expressions : List Str := ["self"]
theorem sc_CallStatement_expressions : FnScope n_CallStatement_expressions ["self"] (defScope s_CallStatement_expressions) := ⟨rfl, rfl, rfl, by decide +kernel, rfl, by decide +kernel, by decide +kernel⟩
abbrev n_CallStatement_fraction : List Str := ["self", "part", "whole"]
theorem sc_CallStatement_fraction : FnScope n_CallStatement_fraction ["self"] (defScope s_CallStatement_fraction) := ⟨rfl, rfl, rfl, by decide +kernel, rfl, by decide +kernel, by decide +kernel⟩
abbrev n_Function_init : List Str := ["self", "name", "parameters", "body"]
theorem sc_Function_init : FnScope n_Function_init ["self", "name", "parameters", "body"] (defScope s_Function_init) := ⟨rfl, rfl, rfl, by decide +kernel, rfl, by decide +kernel, by decide +kernel⟩
abbrev n_Cursor_init : List Str := ["self", "tokens"]
theorem sc_Cursor_init : FnScope n_Cursor_init ["self", "tokens"] (defScope s_Cursor_init) := ⟨rfl, rfl, rfl, by decide +kernel, rfl, by decide +kernel, by decide +kernel⟩
abbrev n_Cursor_ahead : List Str := ["self"]
theorem sc_Cursor_ahead : FnScope n_Cursor_ahead ["self"] (defScope s_Cursor_ahead) := ⟨rfl, rfl, rfl, by decide +kernel, rfl, by decide +kernel, by decide +kernel⟩
abbrev n_Cursor_take_any : List Str := ["self", "kinds", "token"]
theorem sc_Cursor_take_any : FnScope n_Cursor_take_any ["self", "kinds"] (defScope s_Cursor_take_any) := ⟨rfl, rfl, rfl, by decide +kernel, rfl, by decide +kernel, by decide +kernel⟩
abbrev n_Cursor_take : List Str := ["self", "kind"]
theorem sc_Cursor_take : FnScope n_Cursor_take ["self", "kind"] (defScope s_Cursor_take) := ⟨rfl, rfl, rfl, by decide +kernel, rfl, by decide +kernel, by decide +kernel⟩
abbrev n_list_statements : List Str := ["block", "found", "waiting", "statement", "depth", "inner", "nested"]
theorem sc_list_statements : FnScope n_list_statements ["block"] (defScope s_list_statements) := ⟨rfl, rfl, rfl, by decide +kernel, rfl, by decide +kernel, by decide +kernel⟩
abbrev n_list_locals : List Str := ["function", "statements", "known", "parameter", "_", "statement", "target"]
theorem sc_list_locals : FnScope n_list_locals ["function", "statements"] (defScope s_list_locals) := ⟨rfl, rfl, rfl, by decide +kernel, rfl, by decide +kernel, by decide +kernel⟩
abbrev n_fail : List Str := ["reason", "token"]
theorem sc_fail : FnScope n_fail ["reason", "token"] (defScope s_fail) := ⟨rfl, rfl, rfl, by decide +kernel, rfl, by decide +kernel, by decide +kernel⟩
abbrev n_check_functions : List Str := ["functions", "arities", "function", "before", "statements", "known", "place", "depth", "statement"]
theorem sc_check_functions : FnScope n_check_functions ["functions"] (defScope s_check_functions) := ⟨rfl, rfl, rfl, by decide +kernel, rfl, by decide +kernel, by decide +kernel⟩
abbrev n_check_headers : List Str := ["functions", "names", "function", "parameters", "parameter"]
theorem sc_check_headers : FnScope n_check_headers ["functions"] (defScope s_check_headers) := ⟨rfl, rfl, rfl, by decide +kernel, rfl, by decide +kernel, by decide +kernel⟩
abbrev n_check_header_word : List Str := ["token", "earlier", "most", "reason"]
theorem sc_check_header_word : FnScope n_check_header_word ["token", "earlier", "most", "reason"] (defScope s_check_header_word) := ⟨rfl, rfl, rfl, by decide +kernel, rfl, by decide +kernel, by decide +kernel⟩
abbrev n_check_limits : List Str := ["statement", "number", "depth"]
theorem sc_check_limits : FnScope n_check_limits ["statement", "number", "depth"] (defScope s_check_limits) := ⟨rfl, rfl, rfl, by decide +kernel, rfl, by decide +kernel, by decide +kernel⟩
abbrev n_check_statement : List Str := ["statement", "arities", "known", "expression", "term"]
theorem sc_check_statement : FnScope n_check_statement ["statement", "arities", "known"] (defScope s_check_statement) := ⟨rfl, rfl, rfl, by decide +kernel, rfl, by decide +kernel, by decide +kernel⟩
abbrev n_check_call : List Str := ["statement", "arities", "function", "part", "whole"]
theorem sc_check_call : FnScope n_check_call ["statement", "arities"] (defScope s_check_call) := ⟨rfl, rfl, rfl, by decide +kernel, rfl, by decide +kernel, by decide +kernel⟩
abbrev n_read_tokens : List Str := ["source", "tokens", "lines", "line", "text"]
theorem sc_read_tokens : FnScope n_read_tokens ["source"] (defScope s_read_tokens) := ⟨rfl, rfl, rfl, by decide +kernel, rfl, by decide +kernel, by decide +kernel⟩
abbrev n_read_line : List Str := ["text", "line", "tokens", "column", "token"]
theorem sc_read_line : FnScope n_read_line ["text", "line"] (defScope s_read_line) := ⟨rfl, rfl, rfl, by decide +kernel, rfl, by decide +kernel, by decide +kernel⟩
abbrev n_read_token : List Str := ["text", "line", "column", "word", "kind"]
theorem sc_read_token : FnScope n_read_token ["text", "line", "column"] (defScope s_read_token) := ⟨rfl, rfl, rfl, by decide +kernel, rfl, by decide +kernel, by decide +kernel⟩
abbrev n_find_end : List Str := ["text", "start", "characters", "end"]
theorem sc_find_end : FnScope n_find_end ["text", "start"] (defScope s_find_end) := ⟨rfl, rfl, rfl, by decide +kernel, rfl, by decide +kernel, by decide +kernel⟩
abbrev n_find_kind : List Str := ["word"]
theorem sc_find_kind : FnScope n_find_kind ["word"] (defScope s_find_kind) := ⟨rfl, rfl, rfl, by decide +kernel, rfl, by decide +kernel, by decide +kernel⟩
abbrev n_is_number : List Str := ["digits"]
theorem sc_is_number : FnScope n_is_number ["digits"] (defScope s_is_number) := ⟨rfl, rfl, rfl, by decide +kernel, rfl, by decide +kernel, by decide +kernel⟩
abbrev n_parse_tokens : List Str := ["tokens", "cursor", "functions"]
theorem sc_parse_tokens : FnScope n_parse_tokens ["tokens"] (defScope s_parse_tokens) := ⟨rfl, rfl, rfl, by decide +kernel, rfl, by decide +kernel, by decide +kernel⟩
abbrev n_parse_function : List Str := ["cursor", "name", "parameters"]
theorem sc_parse_function : FnScope n_parse_function ["cursor"] (defScope s_parse_function) := ⟨rfl, rfl, rfl, by decide +kernel, rfl, by decide +kernel, by decide +kernel⟩
abbrev n_parse_list : List Str := ["cursor", "parse_item", "items"]
theorem sc_parse_list : FnScope n_parse_list ["cursor", "parse_item"] (defScope s_parse_list) := ⟨rfl, rfl, rfl, by decide +kernel, rfl, by decide +kernel, by decide +kernel⟩
abbrev n_parse_parameter : List Str := ["cursor"]
theorem sc_parse_parameter : FnScope n_parse_parameter ["cursor"] (defScope s_parse_parameter) := ⟨rfl, rfl, rfl, by decide +kernel, rfl, by decide +kernel, by decide +kernel⟩
abbrev n_parse_block : List Str := ["cursor", "body", "opened", "block", "branch", "statement"]
theorem sc_parse_block : FnScope n_parse_block ["cursor"] (defScope s_parse_block) := ⟨rfl, rfl, rfl, by decide +kernel, rfl, by decide +kernel, by decide +kernel⟩
abbrev n_open_first : List Str := ["cursor", "statement", "blocks", "branch"]
theorem sc_open_first : FnScope n_open_first ["cursor", "statement"] (defScope s_open_first) := ⟨rfl, rfl, rfl, by decide +kernel, rfl, by decide +kernel, by decide +kernel⟩
abbrev n_open_else : List Str := ["cursor", "branch"]
theorem sc_open_else : FnScope n_open_else ["cursor", "branch"] (defScope s_open_else) := ⟨rfl, rfl, rfl, by decide +kernel, rfl, by decide +kernel, by decide +kernel⟩
abbrev n_parse_statement : List Str := ["cursor", "keyword", "parse"]
theorem sc_parse_statement : FnScope n_parse_statement ["cursor"] (defScope s_parse_statement) := ⟨rfl, rfl, rfl, by decide +kernel, rfl, by decide +kernel, by decide +kernel⟩
abbrev n_parse_set : List Str := ["cursor", "keyword"]
theorem sc_parse_set : FnScope n_parse_set ["cursor", "keyword"] (defScope s_parse_set) := ⟨rfl, rfl, rfl, by decide +kernel, rfl, by decide +kernel, by decide +kernel⟩
abbrev n_parse_put : List Str := ["cursor", "keyword"]
theorem sc_parse_put : FnScope n_parse_put ["cursor", "keyword"] (defScope s_parse_put) := ⟨rfl, rfl, rfl, by decide +kernel, rfl, by decide +kernel, by decide +kernel⟩
abbrev n_parse_assignment : List Str := ["cursor", "keyword", "kind", "target", "expression"]
theorem sc_parse_assignment : FnScope n_parse_assignment ["cursor", "keyword", "kind"] (defScope s_parse_assignment) := ⟨rfl, rfl, rfl, by decide +kernel, rfl, by decide +kernel, by decide +kernel⟩
abbrev n_parse_value : List Str := ["cursor", "keyword", "expression"]
theorem sc_parse_value : FnScope n_parse_value ["cursor", "keyword"] (defScope s_parse_value) := ⟨rfl, rfl, rfl, by decide +kernel, rfl, by decide +kernel, by decide +kernel⟩
abbrev n_parse_if : List Str := ["cursor", "keyword", "left", "comparison", "right"]
theorem sc_parse_if : FnScope n_parse_if ["cursor", "keyword"] (defScope s_parse_if) := ⟨rfl, rfl, rfl, by decide +kernel, rfl, by decide +kernel, by decide +kernel⟩
abbrev n_parse_loop : List Str := ["cursor", "keyword"]
theorem sc_parse_loop : FnScope n_parse_loop ["cursor", "keyword"] (defScope s_parse_loop) := ⟨rfl, rfl, rfl, by decide +kernel, rfl, by decide +kernel, by decide +kernel⟩
abbrev n_parse_call : List Str := ["cursor", "keyword", "target", "function", "arguments", "share", "fallback"]
theorem sc_parse_call : FnScope n_parse_call ["cursor", "keyword"] (defScope s_parse_call) := ⟨rfl, rfl, rfl, by decide +kernel, rfl, by decide +kernel, by decide +kernel⟩
abbrev n_parse_share : List Str := ["cursor", "part"]
theorem sc_parse_share : FnScope n_parse_share ["cursor"] (defScope s_parse_share) := ⟨rfl, rfl, rfl, by decide +kernel, rfl, by decide +kernel, by decide +kernel⟩
abbrev n_parse_expression : List Str := ["cursor", "terms", "operators"]
theorem sc_parse_expression : FnScope n_parse_expression ["cursor"] (defScope s_parse_expression) := ⟨rfl, rfl, rfl, by decide +kernel, rfl, by decide +kernel, by decide +kernel⟩
abbrev n_read_program : List Str := ["source", "functions"]
theorem sc_read_program : FnScope n_read_program ["source"] (defScope s_read_program) := ⟨rfl, rfl, rfl, by decide +kernel, rfl, by decide +kernel, by decide +kernel⟩
abbrev n_format_source : List Str := ["source"]
theorem sc_format_source : FnScope n_format_source ["source"] (defScope s_format_source) := ⟨rfl, rfl, rfl, by decide +kernel, rfl, by decide +kernel, by decide +kernel⟩
abbrev n_format_functions : List Str := ["functions", "lines", "function"]
theorem sc_format_functions : FnScope n_format_functions ["functions"] (defScope s_format_functions) := ⟨rfl, rfl, rfl, by decide +kernel, rfl, by decide +kernel, by decide +kernel⟩
abbrev n_format_function : List Str := ["function", "parameters", "parameter", "head"]
theorem sc_format_function : FnScope n_format_function ["function"] (defScope s_format_function) := ⟨rfl, rfl, rfl, by decide +kernel, rfl, by decide +kernel, by decide +kernel⟩
abbrev n_format_block : List Str := ["block", "depth", "lines", "statement"]
theorem sc_format_block : FnScope n_format_block ["block", "depth"] (defScope s_format_block) := ⟨rfl, rfl, rfl, by decide +kernel, rfl, by decide +kernel, by decide +kernel⟩
abbrev n_format_statement : List Str := ["statement", "depth", "indent", "write", "blocks", "lines", "block"]
theorem sc_format_statement : FnScope n_format_statement ["statement", "depth"] (defScope s_format_statement) := ⟨rfl, rfl, rfl, by decide +kernel, rfl, by decide +kernel, by decide +kernel⟩
abbrev n_write_assignment : List Str := ["statement"]
theorem sc_write_assignment : FnScope n_write_assignment ["statement"] (defScope s_write_assignment) := ⟨rfl, rfl, rfl, by decide +kernel, rfl, by decide +kernel, by decide +kernel⟩
abbrev n_write_value : List Str := ["statement"]
theorem sc_write_value : FnScope n_write_value ["statement"] (defScope s_write_value) := ⟨rfl, rfl, rfl, by decide +kernel, rfl, by decide +kernel, by decide +kernel⟩
abbrev n_write_if : List Str := ["statement", "left", "right"]
theorem sc_write_if : FnScope n_write_if ["statement"] (defScope s_write_if) := ⟨rfl, rfl, rfl, by decide +kernel, rfl, by decide +kernel, by decide +kernel⟩
abbrev n_write_loop : List Str := ["statement"]
theorem sc_write_loop : FnScope n_write_loop ["statement"] (defScope s_write_loop) := ⟨rfl, rfl, rfl, by decide +kernel, rfl, by decide +kernel, by decide +kernel⟩
abbrev n_write_call : List Str := ["statement", "arguments", "argument", "called", "part", "whole", "fallback"]
theorem sc_write_call : FnScope n_write_call ["statement"] (defScope s_write_call) := ⟨rfl, rfl, rfl, by decide +kernel, rfl, by decide +kernel, by decide +kernel⟩
abbrev n_write_expression : List Str := ["expression", "words", "operator", "term"]
theorem sc_write_expression : FnScope n_write_expression ["expression"] (defScope s_write_expression) := ⟨rfl, rfl, rfl, by decide +kernel, rfl, by decide +kernel, by decide +kernel⟩
abbrev n_law_random : List Str := ["_law_script", "_law_salt", "_law_seed", "_law_cell"]
theorem sc_law_random : FnScope n_law_random ["_law_script", "_law_salt"] (defScope s_law_random) := ⟨rfl, rfl, rfl, by decide +kernel, rfl, by decide +kernel, by decide +kernel⟩
abbrev n_law_below : List Str := ["_law_d", "_law_limit", "_law_result"]
theorem sc_law_below : FnScope n_law_below ["_law_d", "_law_limit"] (defScope s_law_below) := ⟨rfl, rfl, rfl, by decide +kernel, rfl, by decide +kernel, by decide +kernel⟩
abbrev n_law_faulty : List Str := ["_law_d", "_law_kind", "_law_many", "_law_lead", "_law_k", "_law_rest", "_law_body", "_law_inner", "_law_share", "_law_text"]
theorem sc_law_faulty : FnScope n_law_faulty ["_law_d"] (defScope s_law_faulty) := ⟨rfl, rfl, rfl, by decide +kernel, rfl, by decide +kernel, by decide +kernel⟩
abbrev n_law_error_of : List Str := ["_law_call", "e", "_law_kinds", "_law_names", "_law_name"]
theorem sc_law_error_of : FnScope n_law_error_of ["_law_call"] (defScope s_law_error_of) := ⟨rfl, rfl, rfl, by decide +kernel, rfl, by decide +kernel, by decide +kernel⟩
abbrev n_law : List Str := ["_law_script", "_law_d", "_law_step", "_law_lines", "_law_expected", "_law_source", "_law_k", "_law_place", "_law_error"]
theorem sc_law : FnScope n_law ["_law_script"] (defScope s_law) := ⟨rfl, rfl, rfl, by decide +kernel, rfl, by decide +kernel, by decide +kernel⟩
def d_SyntaxFault_init : He.DefD := ⟨("SyntaxFault", some "__init__"), "__init__", "SyntaxFault.__init__", defArgs s_SyntaxFault_init, defBody s_SyntaxFault_init, defScope s_SyntaxFault_init, [], []⟩
def d_CheckFault_init : He.DefD := ⟨("CheckFault", some "__init__"), "__init__", "CheckFault.__init__", defArgs s_CheckFault_init, defBody s_CheckFault_init, defScope s_CheckFault_init, [], []⟩
def d_InvalidCode_init : He.DefD := ⟨("InvalidCode", some "__init__"), "__init__", "InvalidCode.__init__", defArgs s_InvalidCode_init, defBody s_InvalidCode_init, defScope s_InvalidCode_init, [], []⟩
def d_InvalidOperation_init : He.DefD := ⟨("InvalidOperation", some "__init__"), "__init__", "InvalidOperation.__init__", defArgs s_InvalidOperation_init, defBody s_InvalidOperation_init, defScope s_InvalidOperation_init, [], []⟩
def d_InvalidSession_init : He.DefD := ⟨("InvalidSession", some "__init__"), "__init__", "InvalidSession.__init__", defArgs s_InvalidSession_init, defBody s_InvalidSession_init, defScope s_InvalidSession_init, [], []⟩
def d_Token_init : He.DefD := ⟨("Token", some "__init__"), "__init__", "Token.__init__", defArgs s_Token_init, defBody s_Token_init, defScope s_Token_init, [], []⟩
def d_Expression_init : He.DefD := ⟨("Expression", some "__init__"), "__init__", "Expression.__init__", defArgs s_Expression_init, defBody s_Expression_init, defScope s_Expression_init, [], []⟩
def d_Statement_init : He.DefD := ⟨("Statement", some "__init__"), "__init__", "Statement.__init__", defArgs s_Statement_init, defBody s_Statement_init, defScope s_Statement_init, [], []⟩
def d_Statement_assigned : He.DefD := ⟨("Statement", some "assigned"), "assigned", "Statement.assigned", defArgs s_Statement_assigned, defBody s_Statement_assigned, defScope s_Statement_assigned, [], []⟩
def d_Statement_expressions : He.DefD := ⟨("Statement", some "expressions"), "expressions", "Statement.expressions", defArgs s_Statement_expressions, defBody s_Statement_expressions, defScope s_Statement_expressions, [], []⟩
def d_Statement_blocks : He.DefD := ⟨("Statement", some "blocks"), "blocks", "Statement.blocks", defArgs s_Statement_blocks, defBody s_Statement_blocks, defScope s_Statement_blocks, [], []⟩
def d_AssignStatement_init : He.DefD := ⟨("AssignStatement", some "__init__"), "__init__", "AssignStatement.__init__", defArgs s_AssignStatement_init, defBody s_AssignStatement_init, defScope s_AssignStatement_init, [], []⟩
def d_AssignStatement_assigned : He.DefD := ⟨("AssignStatement", some "assigned"), "assigned", "AssignStatement.assigned", defArgs s_AssignStatement_assigned, defBody s_AssignStatement_assigned, defScope s_AssignStatement_assigned, [], []⟩
def d_AssignStatement_expressions : He.DefD := ⟨("AssignStatement", some "expressions"), "expressions", "AssignStatement.expressions", defArgs s_AssignStatement_expressions, defBody s_AssignStatement_expressions, defScope s_AssignStatement_expressions, [], []⟩
def d_AssignStatement_blocks : He.DefD := ⟨("AssignStatement", some "blocks"), "blocks", "Statement.blocks", defArgs s_Statement_blocks, defBody s_Statement_blocks, defScope s_Statement_blocks, [], []⟩
def d_ValueStatement_init : He.DefD := ⟨("ValueStatement", some "__init__"), "__init__", "ValueStatement.__init__", defArgs s_ValueStatement_init, defBody s_ValueStatement_init, defScope s_ValueStatement_init, [], []⟩
def d_ValueStatement_expressions : He.DefD := ⟨("ValueStatement", some "expressions"), "expressions", "ValueStatement.expressions", defArgs s_ValueStatement_expressions, defBody s_ValueStatement_expressions, defScope s_ValueStatement_expressions, [], []⟩
def d_ValueStatement_assigned : He.DefD := ⟨("ValueStatement", some "assigned"), "assigned", "Statement.assigned", defArgs s_Statement_assigned, defBody s_Statement_assigned, defScope s_Statement_assigned, [], []⟩
def d_ValueStatement_blocks : He.DefD := ⟨("ValueStatement", some "blocks"), "blocks", "Statement.blocks", defArgs s_Statement_blocks, defBody s_Statement_blocks, defScope s_Statement_blocks, [], []⟩
def d_IfStatement_init : He.DefD := ⟨("IfStatement", some "__init__"), "__init__", "IfStatement.__init__", defArgs s_IfStatement_init, defBody s_IfStatement_init, defScope s_IfStatement_init, [], []⟩
def d_IfStatement_expressions : He.DefD := ⟨("IfStatement", some "expressions"), "expressions", "IfStatement.expressions", defArgs s_IfStatement_expressions, defBody s_IfStatement_expressions, defScope s_IfStatement_expressions, [], []⟩
def d_IfStatement_blocks : He.DefD := ⟨("IfStatement", some "blocks"), "blocks", "IfStatement.blocks", defArgs s_IfStatement_blocks, defBody s_IfStatement_blocks, defScope s_IfStatement_blocks, [], []⟩
def d_IfStatement_assigned : He.DefD := ⟨("IfStatement", some "assigned"), "assigned", "Statement.assigned", defArgs s_Statement_assigned, defBody s_Statement_assigned, defScope s_Statement_assigned, [], []⟩
def d_LoopStatement_init : He.DefD := ⟨("LoopStatement", some "__init__"), "__init__", "LoopStatement.__init__", defArgs s_LoopStatement_init, defBody s_LoopStatement_init, defScope s_LoopStatement_init, [], []⟩
def d_LoopStatement_expressions : He.DefD := ⟨("LoopStatement", some "expressions"), "expressions", "LoopStatement.expressions", defArgs s_LoopStatement_expressions, defBody s_LoopStatement_expressions, defScope s_LoopStatement_expressions, [], []⟩
def d_LoopStatement_blocks : He.DefD := ⟨("LoopStatement", some "blocks"), "blocks", "LoopStatement.blocks", defArgs s_LoopStatement_blocks, defBody s_LoopStatement_blocks, defScope s_LoopStatement_blocks, [], []⟩
def d_LoopStatement_assigned : He.DefD := ⟨("LoopStatement", some "assigned"), "assigned", "Statement.assigned", defArgs s_Statement_assigned, defBody s_Statement_assigned, defScope s_Statement_assigned, [], []⟩
def d_CallStatement_init : He.DefD := ⟨("CallStatement", some "__init__"), "__init__", "CallStatement.__init__", defArgs s_CallStatement_init, defBody s_CallStatement_init, defScope s_CallStatement_init, [], []⟩
def d_CallStatement_assigned : He.DefD := ⟨("CallStatement", some "assigned"), "assigned", "CallStatement.assigned", defArgs s_CallStatement_assigned, defBody s_CallStatement_assigned, defScope s_CallStatement_assigned, [], []⟩
def d_CallStatement_expressions : He.DefD := ⟨("CallStatement", some "expressions"), "expressions", "CallStatement.expressions", defArgs s_CallStatement_expressions, defBody s_CallStatement_expressions, defScope s_CallStatement_expressions, [], []⟩
def d_CallStatement_fraction : He.DefD := ⟨("CallStatement", some "fraction"), "fraction", "CallStatement.fraction", defArgs s_CallStatement_fraction, defBody s_CallStatement_fraction, defScope s_CallStatement_fraction, [], []⟩
def d_CallStatement_blocks : He.DefD := ⟨("CallStatement", some "blocks"), "blocks", "Statement.blocks", defArgs s_Statement_blocks, defBody s_Statement_blocks, defScope s_Statement_blocks, [], []⟩
def d_Function_init : He.DefD := ⟨("Function", some "__init__"), "__init__", "Function.__init__", defArgs s_Function_init, defBody s_Function_init, defScope s_Function_init, [], []⟩
def d_Cursor_init : He.DefD := ⟨("Cursor", some "__init__"), "__init__", "Cursor.__init__", defArgs s_Cursor_init, defBody s_Cursor_init, defScope s_Cursor_init, [], []⟩
def d_Cursor_ahead : He.DefD := ⟨("Cursor", some "ahead"), "ahead", "Cursor.ahead", defArgs s_Cursor_ahead, defBody s_Cursor_ahead, defScope s_Cursor_ahead, [], []⟩
def d_Cursor_take_any : He.DefD := ⟨("Cursor", some "take_any"), "take_any", "Cursor.take_any", defArgs s_Cursor_take_any, defBody s_Cursor_take_any, defScope s_Cursor_take_any, [], []⟩
def d_Cursor_take : He.DefD := ⟨("Cursor", some "take"), "take", "Cursor.take", defArgs s_Cursor_take, defBody s_Cursor_take, defScope s_Cursor_take, [], []⟩
def d_list_statements : He.DefD := ⟨("list_statements", none), "list_statements", "list_statements", defArgs s_list_statements, defBody s_list_statements, defScope s_list_statements, [], []⟩
def d_list_locals : He.DefD := ⟨("list_locals", none), "list_locals", "list_locals", defArgs s_list_locals, defBody s_list_locals, defScope s_list_locals, [], []⟩
def d_fail : He.DefD := ⟨("fail", none), "fail", "fail", defArgs s_fail, defBody s_fail, defScope s_fail, [], []⟩
def d_check_functions : He.DefD := ⟨("check_functions", none), "check_functions", "check_functions", defArgs s_check_functions, defBody s_check_functions, defScope s_check_functions, [], []⟩
def d_check_headers : He.DefD := ⟨("check_headers", none), "check_headers", "check_headers", defArgs s_check_headers, defBody s_check_headers, defScope s_check_headers, [], []⟩
def d_check_header_word : He.DefD := ⟨("check_header_word", none), "check_header_word", "check_header_word", defArgs s_check_header_word, defBody s_check_header_word, defScope s_check_header_word, [], []⟩
def d_check_limits : He.DefD := ⟨("check_limits", none), "check_limits", "check_limits", defArgs s_check_limits, defBody s_check_limits, defScope s_check_limits, [], []⟩
def d_check_statement : He.DefD := ⟨("check_statement", none), "check_statement", "check_statement", defArgs s_check_statement, defBody s_check_statement, defScope s_check_statement, [], []⟩
def d_check_call : He.DefD := ⟨("check_call", none), "check_call", "check_call", defArgs s_check_call, defBody s_check_call, defScope s_check_call, [], []⟩
def d_read_tokens : He.DefD := ⟨("read_tokens", none), "read_tokens", "read_tokens", defArgs s_read_tokens, defBody s_read_tokens, defScope s_read_tokens, [], []⟩
def d_read_line : He.DefD := ⟨("read_line", none), "read_line", "read_line", defArgs s_read_line, defBody s_read_line, defScope s_read_line, [], []⟩
def d_read_token : He.DefD := ⟨("read_token", none), "read_token", "read_token", defArgs s_read_token, defBody s_read_token, defScope s_read_token, [], []⟩
def d_find_end : He.DefD := ⟨("find_end", none), "find_end", "find_end", defArgs s_find_end, defBody s_find_end, defScope s_find_end, [], []⟩
def d_find_kind : He.DefD := ⟨("find_kind", none), "find_kind", "find_kind", defArgs s_find_kind, defBody s_find_kind, defScope s_find_kind, [], []⟩
def d_is_number : He.DefD := ⟨("is_number", none), "is_number", "is_number", defArgs s_is_number, defBody s_is_number, defScope s_is_number, [], []⟩
def d_parse_tokens : He.DefD := ⟨("parse_tokens", none), "parse_tokens", "parse_tokens", defArgs s_parse_tokens, defBody s_parse_tokens, defScope s_parse_tokens, [], []⟩
def d_parse_function : He.DefD := ⟨("parse_function", none), "parse_function", "parse_function", defArgs s_parse_function, defBody s_parse_function, defScope s_parse_function, [], []⟩
def d_parse_list : He.DefD := ⟨("parse_list", none), "parse_list", "parse_list", defArgs s_parse_list, defBody s_parse_list, defScope s_parse_list, [], []⟩
def d_parse_parameter : He.DefD := ⟨("parse_parameter", none), "parse_parameter", "parse_parameter", defArgs s_parse_parameter, defBody s_parse_parameter, defScope s_parse_parameter, [], []⟩
def d_parse_block : He.DefD := ⟨("parse_block", none), "parse_block", "parse_block", defArgs s_parse_block, defBody s_parse_block, defScope s_parse_block, [], []⟩
def d_open_first : He.DefD := ⟨("open_first", none), "open_first", "open_first", defArgs s_open_first, defBody s_open_first, defScope s_open_first, [], []⟩
def d_open_else : He.DefD := ⟨("open_else", none), "open_else", "open_else", defArgs s_open_else, defBody s_open_else, defScope s_open_else, [], []⟩
def d_parse_statement : He.DefD := ⟨("parse_statement", none), "parse_statement", "parse_statement", defArgs s_parse_statement, defBody s_parse_statement, defScope s_parse_statement, [], []⟩
def d_parse_set : He.DefD := ⟨("parse_set", none), "parse_set", "parse_set", defArgs s_parse_set, defBody s_parse_set, defScope s_parse_set, [], []⟩
def d_parse_put : He.DefD := ⟨("parse_put", none), "parse_put", "parse_put", defArgs s_parse_put, defBody s_parse_put, defScope s_parse_put, [], []⟩
def d_parse_assignment : He.DefD := ⟨("parse_assignment", none), "parse_assignment", "parse_assignment", defArgs s_parse_assignment, defBody s_parse_assignment, defScope s_parse_assignment, [], []⟩
def d_parse_value : He.DefD := ⟨("parse_value", none), "parse_value", "parse_value", defArgs s_parse_value, defBody s_parse_value, defScope s_parse_value, [], []⟩
def d_parse_if : He.DefD := ⟨("parse_if", none), "parse_if", "parse_if", defArgs s_parse_if, defBody s_parse_if, defScope s_parse_if, [], []⟩
def d_parse_loop : He.DefD := ⟨("parse_loop", none), "parse_loop", "parse_loop", defArgs s_parse_loop, defBody s_parse_loop, defScope s_parse_loop, [], []⟩
def d_parse_call : He.DefD := ⟨("parse_call", none), "parse_call", "parse_call", defArgs s_parse_call, defBody s_parse_call, defScope s_parse_call, [], []⟩
def d_parse_share : He.DefD := ⟨("parse_share", none), "parse_share", "parse_share", defArgs s_parse_share, defBody s_parse_share, defScope s_parse_share, [], []⟩
def d_parse_expression : He.DefD := ⟨("parse_expression", none), "parse_expression", "parse_expression", defArgs s_parse_expression, defBody s_parse_expression, defScope s_parse_expression, [], []⟩
def d_read_program : He.DefD := ⟨("read_program", none), "read_program", "read_program", defArgs s_read_program, defBody s_read_program, defScope s_read_program, [], []⟩
def d_format_source : He.DefD := ⟨("format_source", none), "format_source", "format_source", defArgs s_format_source, defBody s_format_source, defScope s_format_source, [], []⟩
def d_format_functions : He.DefD := ⟨("format_functions", none), "format_functions", "format_functions", defArgs s_format_functions, defBody s_format_functions, defScope s_format_functions, [], []⟩
def d_format_function : He.DefD := ⟨("format_function", none), "format_function", "format_function", defArgs s_format_function, defBody s_format_function, defScope s_format_function, [], []⟩
def d_format_block : He.DefD := ⟨("format_block", none), "format_block", "format_block", defArgs s_format_block, defBody s_format_block, defScope s_format_block, [], []⟩
def d_format_statement : He.DefD := ⟨("format_statement", none), "format_statement", "format_statement", defArgs s_format_statement, defBody s_format_statement, defScope s_format_statement, [], []⟩
def d_write_assignment : He.DefD := ⟨("write_assignment", none), "write_assignment", "write_assignment", defArgs s_write_assignment, defBody s_write_assignment, defScope s_write_assignment, [], []⟩
def d_write_value : He.DefD := ⟨("write_value", none), "write_value", "write_value", defArgs s_write_value, defBody s_write_value, defScope s_write_value, [], []⟩
def d_write_if : He.DefD := ⟨("write_if", none), "write_if", "write_if", defArgs s_write_if, defBody s_write_if, defScope s_write_if, [], []⟩
def d_write_loop : He.DefD := ⟨("write_loop", none), "write_loop", "write_loop", defArgs s_write_loop, defBody s_write_loop, defScope s_write_loop, [], []⟩
def d_write_call : He.DefD := ⟨("write_call", none), "write_call", "write_call", defArgs s_write_call, defBody s_write_call, defScope s_write_call, [], []⟩
def d_write_expression : He.DefD := ⟨("write_expression", none), "write_expression", "write_expression", defArgs s_write_expression, defBody s_write_expression, defScope s_write_expression, [], []⟩
def d_law_random : He.DefD := ⟨("_law_random", none), "_law_random", "_law_random", defArgs s_law_random, defBody s_law_random, defScope s_law_random, [], []⟩
def d_law_below : He.DefD := ⟨("_law_below", none), "_law_below", "_law_below", defArgs s_law_below, defBody s_law_below, defScope s_law_below, [], []⟩
def d_law_faulty : He.DefD := ⟨("_law_faulty", none), "_law_faulty", "_law_faulty", defArgs s_law_faulty, defBody s_law_faulty, defScope s_law_faulty, [], []⟩
def d_law_error_of : He.DefD := ⟨("_law_error_of", none), "_law_error_of", "_law_error_of", defArgs s_law_error_of, defBody s_law_error_of, defScope s_law_error_of, [], []⟩
def d_law : He.DefD := ⟨("law", none), "law", "law", defArgs s_law, defBody s_law, defScope s_law, [], []⟩
def fn : List He.DefD := [d_SyntaxFault_init, d_CheckFault_init, d_InvalidCode_init, d_InvalidOperation_init, d_InvalidSession_init, d_Token_init, d_Expression_init, d_Statement_init, d_Statement_assigned, d_Statement_expressions, d_Statement_blocks, d_AssignStatement_init, d_AssignStatement_assigned, d_AssignStatement_expressions, d_AssignStatement_blocks, d_ValueStatement_init, d_ValueStatement_expressions, d_ValueStatement_assigned, d_ValueStatement_blocks, d_IfStatement_init, d_IfStatement_expressions, d_IfStatement_blocks, d_IfStatement_assigned, d_LoopStatement_init, d_LoopStatement_expressions, d_LoopStatement_blocks, d_LoopStatement_assigned, d_CallStatement_init, d_CallStatement_assigned, d_CallStatement_expressions, d_CallStatement_fraction, d_CallStatement_blocks, d_Function_init, d_Cursor_init, d_Cursor_ahead, d_Cursor_take_any, d_Cursor_take, d_list_statements, d_list_locals, d_fail, d_check_functions, d_check_headers, d_check_header_word, d_check_limits, d_check_statement, d_check_call, d_read_tokens, d_read_line, d_read_token, d_find_end, d_find_kind, d_is_number, d_parse_tokens, d_parse_function, d_parse_list, d_parse_parameter, d_parse_block, d_open_first, d_open_else, d_parse_statement, d_parse_set, d_parse_put, d_parse_assignment, d_parse_value, d_parse_if, d_parse_loop, d_parse_call, d_parse_share, d_parse_expression, d_read_program, d_format_source, d_format_functions, d_format_function, d_format_block, d_format_statement, d_write_assignment, d_write_value, d_write_if, d_write_loop, d_write_call, d_write_expression, d_law_random, d_law_below, d_law_faulty, d_law_error_of, d_law]
def fa : List He.Fa := [.glo "FuelError",
  .glo "SyntaxFault",
  .glo "CheckFault",
  .glo "InvalidArguments",
  .glo "InvalidCells",
  .glo "InvalidFuel",
  .glo "InvalidShare",
  .glo "Endless",
  .glo "InvalidLimit",
  .glo "InvalidCode",
  .glo "NoProcess",
  .glo "InvalidSteps",
  .glo "InvalidName",
  .glo "UnknownName",
  .glo "InvalidOperation",
  .glo "InvalidSession",
  .glo "Token",
  .glo "Expression",
  .glo "Statement",
  .glo "AssignStatement",
  .glo "ValueStatement",
  .glo "IfStatement",
  .glo "LoopStatement",
  .glo "CallStatement",
  .glo "Function",
  .glo "Cursor",
  .glo "list_statements",
  .glo "list_locals",
  .glo "fail",
  .glo "check_functions",
  .glo "check_headers",
  .glo "check_header_word",
  .glo "check_limits",
  .glo "check_statement",
  .glo "check_call",
  .glo "read_tokens",
  .glo "read_line",
  .glo "read_token",
  .glo "find_end",
  .glo "find_kind",
  .glo "is_number",
  .glo "parse_tokens",
  .glo "parse_function",
  .glo "parse_list",
  .glo "parse_parameter",
  .glo "parse_block",
  .glo "open_first",
  .glo "open_else",
  .glo "parse_statement",
  .glo "parse_set",
  .glo "parse_put",
  .glo "parse_assignment",
  .glo "parse_value",
  .glo "parse_if",
  .glo "parse_loop",
  .glo "parse_call",
  .glo "parse_share",
  .glo "parse_expression",
  .glo "read_program",
  .glo "format_source",
  .glo "format_functions",
  .glo "format_function",
  .glo "format_block",
  .glo "format_statement",
  .glo "write_assignment",
  .glo "write_value",
  .glo "write_if",
  .glo "write_loop",
  .glo "write_call",
  .glo "write_expression",
  .glo "_law_random",
  .glo "_law_below",
  .glo "_law_faulty",
  .glo "_law_error_of",
  .glo "law",
  .free "ValueError",
  .free "abs",
  .free "enumerate",
  .free "int",
  .free "isinstance",
  .free "len",
  .free "range",
  .free "reversed",
  .free "tuple",
  .free "zip",
  .str "CELLS" "ABCDEFGH",
  .int "MOST_FUNCTIONS" 12,
  .int "MOST_PARAMETERS" 4,
  .int "MOST_STATEMENTS" 60,
  .int "MOST_BLOCKS" 8,
  .int "LARGEST_SHARE" 9,
  .glo "KEYWORDS",
  .str "SIGNS" "(){}=;,/<>+-*",
  .str "LETTERS" "abcdefghijklmnopqrstuvwxyz",
  .str "DIGITS" "0123456789",
  .int "LONGEST_WORD" 8,
  .int "LONGEST_NUMBER" 6,
  .glo "OPERATORS",
  .glo "COMPARISONS",
  .glo "TERMS",
  .glo "STATEMENTS",
  .str "INDENT" "  ",
  .glo "HEADS",
  .cls "Token",
  .noat "Token" "column",
  .noat "Token" "kind",
  .noat "Token" "line",
  .noat "Token" "text",
  .mkr "Token",
  .cls "Expression",
  .noat "Expression" "operators",
  .noat "Expression" "terms",
  .mkr "Expression",
  .cls "Statement",
  .noat "Statement" "keyword",
  .meth "Statement" "assigned",
  .meth "Statement" "blocks",
  .meth "Statement" "expressions",
  .mkr "Statement",
  .cls "AssignStatement",
  .noat "AssignStatement" "expression",
  .noat "AssignStatement" "keyword",
  .noat "AssignStatement" "target",
  .meth "AssignStatement" "assigned",
  .meth "AssignStatement" "blocks",
  .meth "AssignStatement" "expressions",
  .mkr "AssignStatement",
  .cls "ValueStatement",
  .noat "ValueStatement" "expression",
  .noat "ValueStatement" "keyword",
  .meth "ValueStatement" "assigned",
  .meth "ValueStatement" "blocks",
  .meth "ValueStatement" "expressions",
  .mkr "ValueStatement",
  .cls "IfStatement",
  .noat "IfStatement" "comparison",
  .noat "IfStatement" "first",
  .noat "IfStatement" "keyword",
  .noat "IfStatement" "left",
  .noat "IfStatement" "right",
  .noat "IfStatement" "second",
  .meth "IfStatement" "assigned",
  .meth "IfStatement" "blocks",
  .meth "IfStatement" "expressions",
  .mkr "IfStatement",
  .cls "LoopStatement",
  .noat "LoopStatement" "body",
  .noat "LoopStatement" "keyword",
  .noat "LoopStatement" "times",
  .meth "LoopStatement" "assigned",
  .meth "LoopStatement" "blocks",
  .meth "LoopStatement" "expressions",
  .mkr "LoopStatement",
  .cls "CallStatement",
  .noat "CallStatement" "arguments",
  .noat "CallStatement" "fallback",
  .noat "CallStatement" "function",
  .noat "CallStatement" "keyword",
  .noat "CallStatement" "share",
  .noat "CallStatement" "target",
  .meth "CallStatement" "assigned",
  .meth "CallStatement" "blocks",
  .meth "CallStatement" "expressions",
  .meth "CallStatement" "fraction",
  .mkr "CallStatement",
  .cls "Function",
  .noat "Function" "body",
  .noat "Function" "name",
  .noat "Function" "parameters",
  .mkr "Function",
  .cls "Cursor",
  .noat "Cursor" "place",
  .noat "Cursor" "tokens",
  .meth "Cursor" "ahead",
  .meth "Cursor" "take",
  .meth "Cursor" "take_any",
  .mkr "Cursor",
  .exm "FuelError" "FuelError" true,
  .noat "SyntaxFault" "column",
  .noat "SyntaxFault" "line",
  .exm "SyntaxFault" "FuelError" true,
  .noat "CheckFault" "column",
  .noat "CheckFault" "line",
  .noat "CheckFault" "reason",
  .exm "CheckFault" "FuelError" true,
  .exm "InvalidArguments" "FuelError" true,
  .exm "InvalidCells" "FuelError" true,
  .exm "InvalidFuel" "FuelError" true,
  .exm "InvalidShare" "FuelError" true,
  .exm "Endless" "FuelError" true,
  .exm "InvalidLimit" "FuelError" true,
  .noat "InvalidCode" "offset",
  .exm "InvalidCode" "FuelError" true,
  .exm "NoProcess" "FuelError" true,
  .exm "InvalidSteps" "FuelError" true,
  .exm "InvalidName" "FuelError" true,
  .exm "UnknownName" "FuelError" true,
  .noat "InvalidOperation" "position",
  .exm "InvalidOperation" "FuelError" true,
  .noat "InvalidSession" "line",
  .exm "InvalidSession" "FuelError" true]
def exs : List (PySem.W.Frag → Bool) := [fun K => He.tupB K "KEYWORDS" [.str "def", .str "set", .str "put", .str "emit", .str "return", .str "if", .str "else", .str "loop", .str "call", .str "share"],
  fun K => He.tupB K "OPERATORS" [.str "+", .str "-", .str "*"],
  fun K => He.tupB K "COMPARISONS" [.str "<", .str "=", .str ">"],
  fun K => He.tupB K "TERMS" [.str "number", .str "word", .str "cell"],
  fun K => He.valsB K (He.ga K "STATEMENTS") [("set", .glo "parse_set"), ("put", .glo "parse_put"), ("emit", .glo "parse_value"), ("return", .glo "parse_value"), ("if", .glo "parse_if"), ("loop", .glo "parse_loop"), ("call", .glo "parse_call")],
  fun K => He.valsB K (He.ga K "HEADS") [("set", .glo "write_assignment"), ("put", .glo "write_assignment"), ("emit", .glo "write_value"), ("return", .glo "write_value"), ("if", .glo "write_if"), ("loop", .glo "write_loop"), ("call", .glo "write_call")],
  fun K => ocB K "SyntaxFault",
  fun K => oiB K "SyntaxFault",
  fun K => xfB K (He.ga K "SyntaxFault"),
  fun K => isB K (He.ga K "SyntaxFault"),
  fun K => kitsB K (He.ga K "SyntaxFault") [("FuelError", true), ("SyntaxFault", true), ("CheckFault", false), ("InvalidArguments", false), ("InvalidCells", false), ("InvalidFuel", false), ("InvalidShare", false), ("Endless", false), ("InvalidLimit", false), ("InvalidCode", false), ("NoProcess", false), ("InvalidSteps", false), ("InvalidName", false), ("UnknownName", false), ("InvalidOperation", false), ("InvalidSession", false)],
  fun K => ocB K "CheckFault",
  fun K => oiB K "CheckFault",
  fun K => xfB K (He.ga K "CheckFault"),
  fun K => isB K (He.ga K "CheckFault"),
  fun K => kitsB K (He.ga K "CheckFault") [("FuelError", true), ("SyntaxFault", false), ("CheckFault", true), ("InvalidArguments", false), ("InvalidCells", false), ("InvalidFuel", false), ("InvalidShare", false), ("Endless", false), ("InvalidLimit", false), ("InvalidCode", false), ("NoProcess", false), ("InvalidSteps", false), ("InvalidName", false), ("UnknownName", false), ("InvalidOperation", false), ("InvalidSession", false)],
  fun K => ocB K "InvalidCode",
  fun K => oiB K "InvalidCode",
  fun K => xfB K (He.ga K "InvalidCode"),
  fun K => ocB K "InvalidOperation",
  fun K => oiB K "InvalidOperation",
  fun K => xfB K (He.ga K "InvalidOperation"),
  fun K => ocB K "InvalidSession",
  fun K => oiB K "InvalidSession",
  fun K => xfB K (He.ga K "InvalidSession"),
  fun K => cfB K (He.ga K "FuelError") "__init__" (.builtin "ValueError.__init__"),
  fun K => cfB K (He.ga K "Statement") "__init__" (.ref (He.ma K (He.ga K "Statement") "__init__")),
  fun K => decide (([He.ga K "Token", He.ga K "Expression", He.ga K "Statement", He.ga K "AssignStatement", He.ga K "ValueStatement", He.ga K "IfStatement", He.ga K "LoopStatement", He.ga K "CallStatement", He.ga K "Function", He.ga K "Cursor"] : List Addr).Nodup),
  fun K => decide (([He.ga K "parse_set", He.ga K "parse_put", He.ga K "parse_value", He.ga K "parse_if", He.ga K "parse_loop", He.ga K "parse_call"] : List Addr).Nodup),
  fun K => decide (([He.ga K "write_assignment", He.ga K "write_value", He.ga K "write_if", He.ga K "write_loop", He.ga K "write_call"] : List Addr).Nodup)]
def ts : List He.Tab := [(fun K => He.ga K "STATEMENTS", ["set", "put", "emit", "return", "if", "loop", "call"]), (fun K => He.ga K "HEADS", ["set", "put", "emit", "return", "if", "loop", "call"])]
def exB (K : PySem.W.Frag) : Bool := exs.all fun b => b K
/-- what the top has written, as K holds it -/
structure Txt (K : PySem.W.Frag) (w : World) (mg : Str → Option Value) (h : Heap) : Prop where
  x : K.In h
  g : h.Ns mainGlobals mg
  t : He.SaysT fa fn ts w K
  e : exB K = true
section
variable {K : PySem.W.Frag} {w : World} {mg : Str → Option Value} {h : Heap}
theorem Txt.d (T : Txt K w mg h) : He.SaysD fa fn K := T.t.d
theorem Txt.more (T : Txt K w mg h) (i : Nat) {b : PySem.W.Frag → Bool} (hi : exs[i]? = some b := by rfl) : b K = true := List.all_eq_true.mp (show (exs.all fun b => b K) = true from T.e) b (List.mem_of_getElem? hi)
theorem g_FuelError (T : Txt K w mg h) : mg "FuelError" = some (.ref (He.ga K "FuelError")) := He.glo_ok T.x T.g (T.d.fact 0)
theorem g_SyntaxFault (T : Txt K w mg h) : mg "SyntaxFault" = some (.ref (He.ga K "SyntaxFault")) := He.glo_ok T.x T.g (T.d.fact 1)
theorem g_CheckFault (T : Txt K w mg h) : mg "CheckFault" = some (.ref (He.ga K "CheckFault")) := He.glo_ok T.x T.g (T.d.fact 2)
theorem g_InvalidArguments (T : Txt K w mg h) : mg "InvalidArguments" = some (.ref (He.ga K "InvalidArguments")) := He.glo_ok T.x T.g (T.d.fact 3)
theorem g_InvalidCells (T : Txt K w mg h) : mg "InvalidCells" = some (.ref (He.ga K "InvalidCells")) := He.glo_ok T.x T.g (T.d.fact 4)
theorem g_InvalidFuel (T : Txt K w mg h) : mg "InvalidFuel" = some (.ref (He.ga K "InvalidFuel")) := He.glo_ok T.x T.g (T.d.fact 5)
theorem g_InvalidShare (T : Txt K w mg h) : mg "InvalidShare" = some (.ref (He.ga K "InvalidShare")) := He.glo_ok T.x T.g (T.d.fact 6)
theorem g_Endless (T : Txt K w mg h) : mg "Endless" = some (.ref (He.ga K "Endless")) := He.glo_ok T.x T.g (T.d.fact 7)
theorem g_InvalidLimit (T : Txt K w mg h) : mg "InvalidLimit" = some (.ref (He.ga K "InvalidLimit")) := He.glo_ok T.x T.g (T.d.fact 8)
theorem g_InvalidCode (T : Txt K w mg h) : mg "InvalidCode" = some (.ref (He.ga K "InvalidCode")) := He.glo_ok T.x T.g (T.d.fact 9)
theorem g_NoProcess (T : Txt K w mg h) : mg "NoProcess" = some (.ref (He.ga K "NoProcess")) := He.glo_ok T.x T.g (T.d.fact 10)
theorem g_InvalidSteps (T : Txt K w mg h) : mg "InvalidSteps" = some (.ref (He.ga K "InvalidSteps")) := He.glo_ok T.x T.g (T.d.fact 11)
theorem g_InvalidName (T : Txt K w mg h) : mg "InvalidName" = some (.ref (He.ga K "InvalidName")) := He.glo_ok T.x T.g (T.d.fact 12)
theorem g_UnknownName (T : Txt K w mg h) : mg "UnknownName" = some (.ref (He.ga K "UnknownName")) := He.glo_ok T.x T.g (T.d.fact 13)
theorem g_InvalidOperation (T : Txt K w mg h) : mg "InvalidOperation" = some (.ref (He.ga K "InvalidOperation")) := He.glo_ok T.x T.g (T.d.fact 14)
theorem g_InvalidSession (T : Txt K w mg h) : mg "InvalidSession" = some (.ref (He.ga K "InvalidSession")) := He.glo_ok T.x T.g (T.d.fact 15)
theorem g_Token (T : Txt K w mg h) : mg "Token" = some (.ref (He.ga K "Token")) := He.glo_ok T.x T.g (T.d.fact 16)
theorem g_Expression (T : Txt K w mg h) : mg "Expression" = some (.ref (He.ga K "Expression")) := He.glo_ok T.x T.g (T.d.fact 17)
theorem g_Statement (T : Txt K w mg h) : mg "Statement" = some (.ref (He.ga K "Statement")) := He.glo_ok T.x T.g (T.d.fact 18)
theorem g_AssignStatement (T : Txt K w mg h) : mg "AssignStatement" = some (.ref (He.ga K "AssignStatement")) := He.glo_ok T.x T.g (T.d.fact 19)
theorem g_ValueStatement (T : Txt K w mg h) : mg "ValueStatement" = some (.ref (He.ga K "ValueStatement")) := He.glo_ok T.x T.g (T.d.fact 20)
theorem g_IfStatement (T : Txt K w mg h) : mg "IfStatement" = some (.ref (He.ga K "IfStatement")) := He.glo_ok T.x T.g (T.d.fact 21)
theorem g_LoopStatement (T : Txt K w mg h) : mg "LoopStatement" = some (.ref (He.ga K "LoopStatement")) := He.glo_ok T.x T.g (T.d.fact 22)
theorem g_CallStatement (T : Txt K w mg h) : mg "CallStatement" = some (.ref (He.ga K "CallStatement")) := He.glo_ok T.x T.g (T.d.fact 23)
theorem g_Function (T : Txt K w mg h) : mg "Function" = some (.ref (He.ga K "Function")) := He.glo_ok T.x T.g (T.d.fact 24)
theorem g_Cursor (T : Txt K w mg h) : mg "Cursor" = some (.ref (He.ga K "Cursor")) := He.glo_ok T.x T.g (T.d.fact 25)
theorem g_list_statements (T : Txt K w mg h) : mg "list_statements" = some (.ref (He.ga K "list_statements")) := He.glo_ok T.x T.g (T.d.fact 26)
theorem g_list_locals (T : Txt K w mg h) : mg "list_locals" = some (.ref (He.ga K "list_locals")) := He.glo_ok T.x T.g (T.d.fact 27)
theorem g_fail (T : Txt K w mg h) : mg "fail" = some (.ref (He.ga K "fail")) := He.glo_ok T.x T.g (T.d.fact 28)
theorem g_check_functions (T : Txt K w mg h) : mg "check_functions" = some (.ref (He.ga K "check_functions")) := He.glo_ok T.x T.g (T.d.fact 29)
theorem g_check_headers (T : Txt K w mg h) : mg "check_headers" = some (.ref (He.ga K "check_headers")) := He.glo_ok T.x T.g (T.d.fact 30)
theorem g_check_header_word (T : Txt K w mg h) : mg "check_header_word" = some (.ref (He.ga K "check_header_word")) := He.glo_ok T.x T.g (T.d.fact 31)
theorem g_check_limits (T : Txt K w mg h) : mg "check_limits" = some (.ref (He.ga K "check_limits")) := He.glo_ok T.x T.g (T.d.fact 32)
theorem g_check_statement (T : Txt K w mg h) : mg "check_statement" = some (.ref (He.ga K "check_statement")) := He.glo_ok T.x T.g (T.d.fact 33)
theorem g_check_call (T : Txt K w mg h) : mg "check_call" = some (.ref (He.ga K "check_call")) := He.glo_ok T.x T.g (T.d.fact 34)
theorem g_read_tokens (T : Txt K w mg h) : mg "read_tokens" = some (.ref (He.ga K "read_tokens")) := He.glo_ok T.x T.g (T.d.fact 35)
theorem g_read_line (T : Txt K w mg h) : mg "read_line" = some (.ref (He.ga K "read_line")) := He.glo_ok T.x T.g (T.d.fact 36)
theorem g_read_token (T : Txt K w mg h) : mg "read_token" = some (.ref (He.ga K "read_token")) := He.glo_ok T.x T.g (T.d.fact 37)
theorem g_find_end (T : Txt K w mg h) : mg "find_end" = some (.ref (He.ga K "find_end")) := He.glo_ok T.x T.g (T.d.fact 38)
theorem g_find_kind (T : Txt K w mg h) : mg "find_kind" = some (.ref (He.ga K "find_kind")) := He.glo_ok T.x T.g (T.d.fact 39)
theorem g_is_number (T : Txt K w mg h) : mg "is_number" = some (.ref (He.ga K "is_number")) := He.glo_ok T.x T.g (T.d.fact 40)
theorem g_parse_tokens (T : Txt K w mg h) : mg "parse_tokens" = some (.ref (He.ga K "parse_tokens")) := He.glo_ok T.x T.g (T.d.fact 41)
theorem g_parse_function (T : Txt K w mg h) : mg "parse_function" = some (.ref (He.ga K "parse_function")) := He.glo_ok T.x T.g (T.d.fact 42)
theorem g_parse_list (T : Txt K w mg h) : mg "parse_list" = some (.ref (He.ga K "parse_list")) := He.glo_ok T.x T.g (T.d.fact 43)
theorem g_parse_parameter (T : Txt K w mg h) : mg "parse_parameter" = some (.ref (He.ga K "parse_parameter")) := He.glo_ok T.x T.g (T.d.fact 44)
theorem g_parse_block (T : Txt K w mg h) : mg "parse_block" = some (.ref (He.ga K "parse_block")) := He.glo_ok T.x T.g (T.d.fact 45)
theorem g_open_first (T : Txt K w mg h) : mg "open_first" = some (.ref (He.ga K "open_first")) := He.glo_ok T.x T.g (T.d.fact 46)
theorem g_open_else (T : Txt K w mg h) : mg "open_else" = some (.ref (He.ga K "open_else")) := He.glo_ok T.x T.g (T.d.fact 47)
theorem g_parse_statement (T : Txt K w mg h) : mg "parse_statement" = some (.ref (He.ga K "parse_statement")) := He.glo_ok T.x T.g (T.d.fact 48)
theorem g_parse_set (T : Txt K w mg h) : mg "parse_set" = some (.ref (He.ga K "parse_set")) := He.glo_ok T.x T.g (T.d.fact 49)
theorem g_parse_put (T : Txt K w mg h) : mg "parse_put" = some (.ref (He.ga K "parse_put")) := He.glo_ok T.x T.g (T.d.fact 50)
theorem g_parse_assignment (T : Txt K w mg h) : mg "parse_assignment" = some (.ref (He.ga K "parse_assignment")) := He.glo_ok T.x T.g (T.d.fact 51)
theorem g_parse_value (T : Txt K w mg h) : mg "parse_value" = some (.ref (He.ga K "parse_value")) := He.glo_ok T.x T.g (T.d.fact 52)
theorem g_parse_if (T : Txt K w mg h) : mg "parse_if" = some (.ref (He.ga K "parse_if")) := He.glo_ok T.x T.g (T.d.fact 53)
theorem g_parse_loop (T : Txt K w mg h) : mg "parse_loop" = some (.ref (He.ga K "parse_loop")) := He.glo_ok T.x T.g (T.d.fact 54)
theorem g_parse_call (T : Txt K w mg h) : mg "parse_call" = some (.ref (He.ga K "parse_call")) := He.glo_ok T.x T.g (T.d.fact 55)
theorem g_parse_share (T : Txt K w mg h) : mg "parse_share" = some (.ref (He.ga K "parse_share")) := He.glo_ok T.x T.g (T.d.fact 56)
theorem g_parse_expression (T : Txt K w mg h) : mg "parse_expression" = some (.ref (He.ga K "parse_expression")) := He.glo_ok T.x T.g (T.d.fact 57)
theorem g_read_program (T : Txt K w mg h) : mg "read_program" = some (.ref (He.ga K "read_program")) := He.glo_ok T.x T.g (T.d.fact 58)
theorem g_format_source (T : Txt K w mg h) : mg "format_source" = some (.ref (He.ga K "format_source")) := He.glo_ok T.x T.g (T.d.fact 59)
theorem g_format_functions (T : Txt K w mg h) : mg "format_functions" = some (.ref (He.ga K "format_functions")) := He.glo_ok T.x T.g (T.d.fact 60)
theorem g_format_function (T : Txt K w mg h) : mg "format_function" = some (.ref (He.ga K "format_function")) := He.glo_ok T.x T.g (T.d.fact 61)
theorem g_format_block (T : Txt K w mg h) : mg "format_block" = some (.ref (He.ga K "format_block")) := He.glo_ok T.x T.g (T.d.fact 62)
theorem g_format_statement (T : Txt K w mg h) : mg "format_statement" = some (.ref (He.ga K "format_statement")) := He.glo_ok T.x T.g (T.d.fact 63)
theorem g_write_assignment (T : Txt K w mg h) : mg "write_assignment" = some (.ref (He.ga K "write_assignment")) := He.glo_ok T.x T.g (T.d.fact 64)
theorem g_write_value (T : Txt K w mg h) : mg "write_value" = some (.ref (He.ga K "write_value")) := He.glo_ok T.x T.g (T.d.fact 65)
theorem g_write_if (T : Txt K w mg h) : mg "write_if" = some (.ref (He.ga K "write_if")) := He.glo_ok T.x T.g (T.d.fact 66)
theorem g_write_loop (T : Txt K w mg h) : mg "write_loop" = some (.ref (He.ga K "write_loop")) := He.glo_ok T.x T.g (T.d.fact 67)
theorem g_write_call (T : Txt K w mg h) : mg "write_call" = some (.ref (He.ga K "write_call")) := He.glo_ok T.x T.g (T.d.fact 68)
theorem g_write_expression (T : Txt K w mg h) : mg "write_expression" = some (.ref (He.ga K "write_expression")) := He.glo_ok T.x T.g (T.d.fact 69)
theorem g_law_random (T : Txt K w mg h) : mg "_law_random" = some (.ref (He.ga K "_law_random")) := He.glo_ok T.x T.g (T.d.fact 70)
theorem g_law_below (T : Txt K w mg h) : mg "_law_below" = some (.ref (He.ga K "_law_below")) := He.glo_ok T.x T.g (T.d.fact 71)
theorem g_law_faulty (T : Txt K w mg h) : mg "_law_faulty" = some (.ref (He.ga K "_law_faulty")) := He.glo_ok T.x T.g (T.d.fact 72)
theorem g_law_error_of (T : Txt K w mg h) : mg "_law_error_of" = some (.ref (He.ga K "_law_error_of")) := He.glo_ok T.x T.g (T.d.fact 73)
theorem g_law (T : Txt K w mg h) : mg "law" = some (.ref (He.ga K "law")) := He.glo_ok T.x T.g (T.d.fact 74)
theorem b_ValueError (T : Txt K w mg h) : mg "ValueError" = none := He.free_ok T.x T.g (T.d.fact 75)
theorem b_abs (T : Txt K w mg h) : mg "abs" = none := He.free_ok T.x T.g (T.d.fact 76)
theorem b_enumerate (T : Txt K w mg h) : mg "enumerate" = none := He.free_ok T.x T.g (T.d.fact 77)
theorem b_int (T : Txt K w mg h) : mg "int" = none := He.free_ok T.x T.g (T.d.fact 78)
theorem b_isinstance (T : Txt K w mg h) : mg "isinstance" = none := He.free_ok T.x T.g (T.d.fact 79)
theorem b_len (T : Txt K w mg h) : mg "len" = none := He.free_ok T.x T.g (T.d.fact 80)
theorem b_range (T : Txt K w mg h) : mg "range" = none := He.free_ok T.x T.g (T.d.fact 81)
theorem b_reversed (T : Txt K w mg h) : mg "reversed" = none := He.free_ok T.x T.g (T.d.fact 82)
theorem b_tuple (T : Txt K w mg h) : mg "tuple" = none := He.free_ok T.x T.g (T.d.fact 83)
theorem b_zip (T : Txt K w mg h) : mg "zip" = none := He.free_ok T.x T.g (T.d.fact 84)
theorem v_CELLS (T : Txt K w mg h) : ∃ t, mg "CELLS" = some (.str "ABCDEFGH" t) := He.str_ok T.x T.g (T.d.fact 85)
theorem v_MOST_FUNCTIONS (T : Txt K w mg h) : ∃ t, mg "MOST_FUNCTIONS" = some (.int 12 t) := He.int_ok T.x T.g (T.d.fact 86)
theorem v_MOST_PARAMETERS (T : Txt K w mg h) : ∃ t, mg "MOST_PARAMETERS" = some (.int 4 t) := He.int_ok T.x T.g (T.d.fact 87)
theorem v_MOST_STATEMENTS (T : Txt K w mg h) : ∃ t, mg "MOST_STATEMENTS" = some (.int 60 t) := He.int_ok T.x T.g (T.d.fact 88)
theorem v_MOST_BLOCKS (T : Txt K w mg h) : ∃ t, mg "MOST_BLOCKS" = some (.int 8 t) := He.int_ok T.x T.g (T.d.fact 89)
theorem v_LARGEST_SHARE (T : Txt K w mg h) : ∃ t, mg "LARGEST_SHARE" = some (.int 9 t) := He.int_ok T.x T.g (T.d.fact 90)
theorem v_KEYWORDS (T : Txt K w mg h) : mg "KEYWORDS" = some (.ref (He.ga K "KEYWORDS")) := He.glo_ok T.x T.g (T.d.fact 91)
theorem t_KEYWORDS (T : Txt K w mg h) : ∀ H : Hp, SqT K H (He.ga K "KEYWORDS") ([V.str "def", V.str "set", V.str "put", V.str "emit", V.str "return", V.str "if", V.str "else", V.str "loop", V.str "call", V.str "share"]) := He.tupB_ok (T.more 0)
theorem v_SIGNS (T : Txt K w mg h) : ∃ t, mg "SIGNS" = some (.str "(){}=;,/<>+-*" t) := He.str_ok T.x T.g (T.d.fact 92)
theorem v_LETTERS (T : Txt K w mg h) : ∃ t, mg "LETTERS" = some (.str "abcdefghijklmnopqrstuvwxyz" t) := He.str_ok T.x T.g (T.d.fact 93)
theorem v_DIGITS (T : Txt K w mg h) : ∃ t, mg "DIGITS" = some (.str "0123456789" t) := He.str_ok T.x T.g (T.d.fact 94)
theorem v_LONGEST_WORD (T : Txt K w mg h) : ∃ t, mg "LONGEST_WORD" = some (.int 8 t) := He.int_ok T.x T.g (T.d.fact 95)
theorem v_LONGEST_NUMBER (T : Txt K w mg h) : ∃ t, mg "LONGEST_NUMBER" = some (.int 6 t) := He.int_ok T.x T.g (T.d.fact 96)
theorem v_OPERATORS (T : Txt K w mg h) : mg "OPERATORS" = some (.ref (He.ga K "OPERATORS")) := He.glo_ok T.x T.g (T.d.fact 97)
theorem t_OPERATORS (T : Txt K w mg h) : ∀ H : Hp, SqT K H (He.ga K "OPERATORS") ([V.str "+", V.str "-", V.str "*"]) := He.tupB_ok (T.more 1)
theorem v_COMPARISONS (T : Txt K w mg h) : mg "COMPARISONS" = some (.ref (He.ga K "COMPARISONS")) := He.glo_ok T.x T.g (T.d.fact 98)
theorem t_COMPARISONS (T : Txt K w mg h) : ∀ H : Hp, SqT K H (He.ga K "COMPARISONS") ([V.str "<", V.str "=", V.str ">"]) := He.tupB_ok (T.more 2)
theorem v_TERMS (T : Txt K w mg h) : mg "TERMS" = some (.ref (He.ga K "TERMS")) := He.glo_ok T.x T.g (T.d.fact 99)
theorem t_TERMS (T : Txt K w mg h) : ∀ H : Hp, SqT K H (He.ga K "TERMS") ([V.str "number", V.str "word", V.str "cell"]) := He.tupB_ok (T.more 3)
theorem v_STATEMENTS (T : Txt K w mg h) : mg "STATEMENTS" = some (.ref (He.ga K "STATEMENTS")) := He.glo_ok T.x T.g (T.d.fact 100)
theorem t_STATEMENTS (T : Txt K w mg h) : He.valsB K (He.ga K "STATEMENTS") [("set", .glo "parse_set"), ("put", .glo "parse_put"), ("emit", .glo "parse_value"), ("return", .glo "parse_value"), ("if", .glo "parse_if"), ("loop", .glo "parse_loop"), ("call", .glo "parse_call")] = true := id (T.more 4)
theorem v_INDENT (T : Txt K w mg h) : ∃ t, mg "INDENT" = some (.str "  " t) := He.str_ok T.x T.g (T.d.fact 101)
theorem v_HEADS (T : Txt K w mg h) : mg "HEADS" = some (.ref (He.ga K "HEADS")) := He.glo_ok T.x T.g (T.d.fact 102)
theorem t_HEADS (T : Txt K w mg h) : He.valsB K (He.ga K "HEADS") [("set", .glo "write_assignment"), ("put", .glo "write_assignment"), ("emit", .glo "write_value"), ("return", .glo "write_value"), ("if", .glo "write_if"), ("loop", .glo "write_loop"), ("call", .glo "write_call")] = true := id (T.more 5)
theorem c_Token (T : Txt K w mg h) : Cls K (He.ga K "Token") := He.cls_ok (T.d.fact 103)
theorem na_Token_column (T : Txt K w mg h) : NoAttr K (He.ga K "Token") "column" := He.noat_ok (T.d.fact 104)
theorem na_Token_kind (T : Txt K w mg h) : NoAttr K (He.ga K "Token") "kind" := He.noat_ok (T.d.fact 105)
theorem na_Token_line (T : Txt K w mg h) : NoAttr K (He.ga K "Token") "line" := He.noat_ok (T.d.fact 106)
theorem na_Token_text (T : Txt K w mg h) : NoAttr K (He.ga K "Token") "text" := He.noat_ok (T.d.fact 107)
theorem mk_Token (T : Txt K w mg h) : Mk K (He.ga K "Token") (He.ma K (He.ga K "Token") "__init__") := He.mkr_ok (T.d.fact 108)
theorem c_Expression (T : Txt K w mg h) : Cls K (He.ga K "Expression") := He.cls_ok (T.d.fact 109)
theorem na_Expression_operators (T : Txt K w mg h) : NoAttr K (He.ga K "Expression") "operators" := He.noat_ok (T.d.fact 110)
theorem na_Expression_terms (T : Txt K w mg h) : NoAttr K (He.ga K "Expression") "terms" := He.noat_ok (T.d.fact 111)
theorem mk_Expression (T : Txt K w mg h) : Mk K (He.ga K "Expression") (He.ma K (He.ga K "Expression") "__init__") := He.mkr_ok (T.d.fact 112)
theorem c_Statement (T : Txt K w mg h) : Cls K (He.ga K "Statement") := He.cls_ok (T.d.fact 113)
theorem na_Statement_keyword (T : Txt K w mg h) : NoAttr K (He.ga K "Statement") "keyword" := He.noat_ok (T.d.fact 114)
theorem me_Statement_assigned (T : Txt K w mg h) : Meth K (He.ga K "Statement") "assigned" (He.ma K (He.ga K "Statement") "assigned") := He.meth_ok (T.d.fact 115)
theorem me_Statement_blocks (T : Txt K w mg h) : Meth K (He.ga K "Statement") "blocks" (He.ma K (He.ga K "Statement") "blocks") := He.meth_ok (T.d.fact 116)
theorem me_Statement_expressions (T : Txt K w mg h) : Meth K (He.ga K "Statement") "expressions" (He.ma K (He.ga K "Statement") "expressions") := He.meth_ok (T.d.fact 117)
theorem mk_Statement (T : Txt K w mg h) : Mk K (He.ga K "Statement") (He.ma K (He.ga K "Statement") "__init__") := He.mkr_ok (T.d.fact 118)
theorem c_AssignStatement (T : Txt K w mg h) : Cls K (He.ga K "AssignStatement") := He.cls_ok (T.d.fact 119)
theorem na_AssignStatement_expression (T : Txt K w mg h) : NoAttr K (He.ga K "AssignStatement") "expression" := He.noat_ok (T.d.fact 120)
theorem na_AssignStatement_keyword (T : Txt K w mg h) : NoAttr K (He.ga K "AssignStatement") "keyword" := He.noat_ok (T.d.fact 121)
theorem na_AssignStatement_target (T : Txt K w mg h) : NoAttr K (He.ga K "AssignStatement") "target" := He.noat_ok (T.d.fact 122)
theorem me_AssignStatement_assigned (T : Txt K w mg h) : Meth K (He.ga K "AssignStatement") "assigned" (He.ma K (He.ga K "AssignStatement") "assigned") := He.meth_ok (T.d.fact 123)
theorem me_AssignStatement_blocks (T : Txt K w mg h) : Meth K (He.ga K "AssignStatement") "blocks" (He.ma K (He.ga K "AssignStatement") "blocks") := He.meth_ok (T.d.fact 124)
theorem me_AssignStatement_expressions (T : Txt K w mg h) : Meth K (He.ga K "AssignStatement") "expressions" (He.ma K (He.ga K "AssignStatement") "expressions") := He.meth_ok (T.d.fact 125)
theorem mk_AssignStatement (T : Txt K w mg h) : Mk K (He.ga K "AssignStatement") (He.ma K (He.ga K "AssignStatement") "__init__") := He.mkr_ok (T.d.fact 126)
theorem c_ValueStatement (T : Txt K w mg h) : Cls K (He.ga K "ValueStatement") := He.cls_ok (T.d.fact 127)
theorem na_ValueStatement_expression (T : Txt K w mg h) : NoAttr K (He.ga K "ValueStatement") "expression" := He.noat_ok (T.d.fact 128)
theorem na_ValueStatement_keyword (T : Txt K w mg h) : NoAttr K (He.ga K "ValueStatement") "keyword" := He.noat_ok (T.d.fact 129)
theorem me_ValueStatement_assigned (T : Txt K w mg h) : Meth K (He.ga K "ValueStatement") "assigned" (He.ma K (He.ga K "ValueStatement") "assigned") := He.meth_ok (T.d.fact 130)
theorem me_ValueStatement_blocks (T : Txt K w mg h) : Meth K (He.ga K "ValueStatement") "blocks" (He.ma K (He.ga K "ValueStatement") "blocks") := He.meth_ok (T.d.fact 131)
theorem me_ValueStatement_expressions (T : Txt K w mg h) : Meth K (He.ga K "ValueStatement") "expressions" (He.ma K (He.ga K "ValueStatement") "expressions") := He.meth_ok (T.d.fact 132)
theorem mk_ValueStatement (T : Txt K w mg h) : Mk K (He.ga K "ValueStatement") (He.ma K (He.ga K "ValueStatement") "__init__") := He.mkr_ok (T.d.fact 133)
theorem c_IfStatement (T : Txt K w mg h) : Cls K (He.ga K "IfStatement") := He.cls_ok (T.d.fact 134)
theorem na_IfStatement_comparison (T : Txt K w mg h) : NoAttr K (He.ga K "IfStatement") "comparison" := He.noat_ok (T.d.fact 135)
theorem na_IfStatement_first (T : Txt K w mg h) : NoAttr K (He.ga K "IfStatement") "first" := He.noat_ok (T.d.fact 136)
theorem na_IfStatement_keyword (T : Txt K w mg h) : NoAttr K (He.ga K "IfStatement") "keyword" := He.noat_ok (T.d.fact 137)
theorem na_IfStatement_left (T : Txt K w mg h) : NoAttr K (He.ga K "IfStatement") "left" := He.noat_ok (T.d.fact 138)
theorem na_IfStatement_right (T : Txt K w mg h) : NoAttr K (He.ga K "IfStatement") "right" := He.noat_ok (T.d.fact 139)
theorem na_IfStatement_second (T : Txt K w mg h) : NoAttr K (He.ga K "IfStatement") "second" := He.noat_ok (T.d.fact 140)
theorem me_IfStatement_assigned (T : Txt K w mg h) : Meth K (He.ga K "IfStatement") "assigned" (He.ma K (He.ga K "IfStatement") "assigned") := He.meth_ok (T.d.fact 141)
theorem me_IfStatement_blocks (T : Txt K w mg h) : Meth K (He.ga K "IfStatement") "blocks" (He.ma K (He.ga K "IfStatement") "blocks") := He.meth_ok (T.d.fact 142)
theorem me_IfStatement_expressions (T : Txt K w mg h) : Meth K (He.ga K "IfStatement") "expressions" (He.ma K (He.ga K "IfStatement") "expressions") := He.meth_ok (T.d.fact 143)
theorem mk_IfStatement (T : Txt K w mg h) : Mk K (He.ga K "IfStatement") (He.ma K (He.ga K "IfStatement") "__init__") := He.mkr_ok (T.d.fact 144)
theorem c_LoopStatement (T : Txt K w mg h) : Cls K (He.ga K "LoopStatement") := He.cls_ok (T.d.fact 145)
theorem na_LoopStatement_body (T : Txt K w mg h) : NoAttr K (He.ga K "LoopStatement") "body" := He.noat_ok (T.d.fact 146)
theorem na_LoopStatement_keyword (T : Txt K w mg h) : NoAttr K (He.ga K "LoopStatement") "keyword" := He.noat_ok (T.d.fact 147)
theorem na_LoopStatement_times (T : Txt K w mg h) : NoAttr K (He.ga K "LoopStatement") "times" := He.noat_ok (T.d.fact 148)
theorem me_LoopStatement_assigned (T : Txt K w mg h) : Meth K (He.ga K "LoopStatement") "assigned" (He.ma K (He.ga K "LoopStatement") "assigned") := He.meth_ok (T.d.fact 149)
theorem me_LoopStatement_blocks (T : Txt K w mg h) : Meth K (He.ga K "LoopStatement") "blocks" (He.ma K (He.ga K "LoopStatement") "blocks") := He.meth_ok (T.d.fact 150)
theorem me_LoopStatement_expressions (T : Txt K w mg h) : Meth K (He.ga K "LoopStatement") "expressions" (He.ma K (He.ga K "LoopStatement") "expressions") := He.meth_ok (T.d.fact 151)
theorem mk_LoopStatement (T : Txt K w mg h) : Mk K (He.ga K "LoopStatement") (He.ma K (He.ga K "LoopStatement") "__init__") := He.mkr_ok (T.d.fact 152)
theorem c_CallStatement (T : Txt K w mg h) : Cls K (He.ga K "CallStatement") := He.cls_ok (T.d.fact 153)
theorem na_CallStatement_arguments (T : Txt K w mg h) : NoAttr K (He.ga K "CallStatement") "arguments" := He.noat_ok (T.d.fact 154)
theorem na_CallStatement_fallback (T : Txt K w mg h) : NoAttr K (He.ga K "CallStatement") "fallback" := He.noat_ok (T.d.fact 155)
theorem na_CallStatement_function (T : Txt K w mg h) : NoAttr K (He.ga K "CallStatement") "function" := He.noat_ok (T.d.fact 156)
theorem na_CallStatement_keyword (T : Txt K w mg h) : NoAttr K (He.ga K "CallStatement") "keyword" := He.noat_ok (T.d.fact 157)
theorem na_CallStatement_share (T : Txt K w mg h) : NoAttr K (He.ga K "CallStatement") "share" := He.noat_ok (T.d.fact 158)
theorem na_CallStatement_target (T : Txt K w mg h) : NoAttr K (He.ga K "CallStatement") "target" := He.noat_ok (T.d.fact 159)
theorem me_CallStatement_assigned (T : Txt K w mg h) : Meth K (He.ga K "CallStatement") "assigned" (He.ma K (He.ga K "CallStatement") "assigned") := He.meth_ok (T.d.fact 160)
theorem me_CallStatement_blocks (T : Txt K w mg h) : Meth K (He.ga K "CallStatement") "blocks" (He.ma K (He.ga K "CallStatement") "blocks") := He.meth_ok (T.d.fact 161)
theorem me_CallStatement_expressions (T : Txt K w mg h) : Meth K (He.ga K "CallStatement") "expressions" (He.ma K (He.ga K "CallStatement") "expressions") := He.meth_ok (T.d.fact 162)
theorem me_CallStatement_fraction (T : Txt K w mg h) : Meth K (He.ga K "CallStatement") "fraction" (He.ma K (He.ga K "CallStatement") "fraction") := He.meth_ok (T.d.fact 163)
theorem mk_CallStatement (T : Txt K w mg h) : Mk K (He.ga K "CallStatement") (He.ma K (He.ga K "CallStatement") "__init__") := He.mkr_ok (T.d.fact 164)
theorem c_Function (T : Txt K w mg h) : Cls K (He.ga K "Function") := He.cls_ok (T.d.fact 165)
theorem na_Function_body (T : Txt K w mg h) : NoAttr K (He.ga K "Function") "body" := He.noat_ok (T.d.fact 166)
theorem na_Function_name (T : Txt K w mg h) : NoAttr K (He.ga K "Function") "name" := He.noat_ok (T.d.fact 167)
theorem na_Function_parameters (T : Txt K w mg h) : NoAttr K (He.ga K "Function") "parameters" := He.noat_ok (T.d.fact 168)
theorem mk_Function (T : Txt K w mg h) : Mk K (He.ga K "Function") (He.ma K (He.ga K "Function") "__init__") := He.mkr_ok (T.d.fact 169)
theorem c_Cursor (T : Txt K w mg h) : Cls K (He.ga K "Cursor") := He.cls_ok (T.d.fact 170)
theorem na_Cursor_place (T : Txt K w mg h) : NoAttr K (He.ga K "Cursor") "place" := He.noat_ok (T.d.fact 171)
theorem na_Cursor_tokens (T : Txt K w mg h) : NoAttr K (He.ga K "Cursor") "tokens" := He.noat_ok (T.d.fact 172)
theorem me_Cursor_ahead (T : Txt K w mg h) : Meth K (He.ga K "Cursor") "ahead" (He.ma K (He.ga K "Cursor") "ahead") := He.meth_ok (T.d.fact 173)
theorem me_Cursor_take (T : Txt K w mg h) : Meth K (He.ga K "Cursor") "take" (He.ma K (He.ga K "Cursor") "take") := He.meth_ok (T.d.fact 174)
theorem me_Cursor_take_any (T : Txt K w mg h) : Meth K (He.ga K "Cursor") "take_any" (He.ma K (He.ga K "Cursor") "take_any") := He.meth_ok (T.d.fact 175)
theorem mk_Cursor (T : Txt K w mg h) : Mk K (He.ga K "Cursor") (He.ma K (He.ga K "Cursor") "__init__") := He.mkr_ok (T.d.fact 176)
theorem em_FuelError (T : Txt K w mg h) : PySem.W.exmOne K (.ref (He.ga K "FuelError")) (.ref (He.ga K "FuelError")) = some true := He.exm_ok (T.d.fact 177)
theorem oc_SyntaxFault (T : Txt K w mg h) : OexC K (He.ga K "SyntaxFault") := ocB_ok (T.more 6)
theorem oi_SyntaxFault (T : Txt K w mg h) : PySem.W.findIn K (.ref (He.ga K "SyntaxFault")) "__init__" = some (some (.ref (He.ma K (He.ga K "SyntaxFault") "__init__"))) ∧ PySem.W.typeIn K (.ref (He.ma K (He.ga K "SyntaxFault") "__init__")) = some (.type "function") := oiB_ok (T.more 7)
theorem na_SyntaxFault_column (T : Txt K w mg h) : PySem.W.findIn K (.ref (He.ga K "SyntaxFault")) "column" = some none := He.noat_ok (T.d.fact 178)
theorem na_SyntaxFault_line (T : Txt K w mg h) : PySem.W.findIn K (.ref (He.ga K "SyntaxFault")) "line" = some none := He.noat_ok (T.d.fact 179)
theorem xf_SyntaxFault (T : Txt K w mg h) : XfC K (He.ga K "SyntaxFault") := xfB_ok (T.more 8)
theorem is_SyntaxFault (T : Txt K w mg h) : IsC K (He.ga K "SyntaxFault") := isB_ok (T.more 9)
theorem ks_SyntaxFault (T : Txt K w mg h) : Kits K (He.ga K "SyntaxFault") [("FuelError", true), ("SyntaxFault", true), ("CheckFault", false), ("InvalidArguments", false), ("InvalidCells", false), ("InvalidFuel", false), ("InvalidShare", false), ("Endless", false), ("InvalidLimit", false), ("InvalidCode", false), ("NoProcess", false), ("InvalidSteps", false), ("InvalidName", false), ("UnknownName", false), ("InvalidOperation", false), ("InvalidSession", false)] := kitsB_ok (T.more 10)
theorem em_SyntaxFault (T : Txt K w mg h) : PySem.W.exmOne K (.ref (He.ga K "SyntaxFault")) (.ref (He.ga K "FuelError")) = some true := He.exm_ok (T.d.fact 180)
theorem oc_CheckFault (T : Txt K w mg h) : OexC K (He.ga K "CheckFault") := ocB_ok (T.more 11)
theorem oi_CheckFault (T : Txt K w mg h) : PySem.W.findIn K (.ref (He.ga K "CheckFault")) "__init__" = some (some (.ref (He.ma K (He.ga K "CheckFault") "__init__"))) ∧ PySem.W.typeIn K (.ref (He.ma K (He.ga K "CheckFault") "__init__")) = some (.type "function") := oiB_ok (T.more 12)
theorem na_CheckFault_column (T : Txt K w mg h) : PySem.W.findIn K (.ref (He.ga K "CheckFault")) "column" = some none := He.noat_ok (T.d.fact 181)
theorem na_CheckFault_line (T : Txt K w mg h) : PySem.W.findIn K (.ref (He.ga K "CheckFault")) "line" = some none := He.noat_ok (T.d.fact 182)
theorem na_CheckFault_reason (T : Txt K w mg h) : PySem.W.findIn K (.ref (He.ga K "CheckFault")) "reason" = some none := He.noat_ok (T.d.fact 183)
theorem xf_CheckFault (T : Txt K w mg h) : XfC K (He.ga K "CheckFault") := xfB_ok (T.more 13)
theorem is_CheckFault (T : Txt K w mg h) : IsC K (He.ga K "CheckFault") := isB_ok (T.more 14)
theorem ks_CheckFault (T : Txt K w mg h) : Kits K (He.ga K "CheckFault") [("FuelError", true), ("SyntaxFault", false), ("CheckFault", true), ("InvalidArguments", false), ("InvalidCells", false), ("InvalidFuel", false), ("InvalidShare", false), ("Endless", false), ("InvalidLimit", false), ("InvalidCode", false), ("NoProcess", false), ("InvalidSteps", false), ("InvalidName", false), ("UnknownName", false), ("InvalidOperation", false), ("InvalidSession", false)] := kitsB_ok (T.more 15)
theorem em_CheckFault (T : Txt K w mg h) : PySem.W.exmOne K (.ref (He.ga K "CheckFault")) (.ref (He.ga K "FuelError")) = some true := He.exm_ok (T.d.fact 184)
theorem em_InvalidArguments (T : Txt K w mg h) : PySem.W.exmOne K (.ref (He.ga K "InvalidArguments")) (.ref (He.ga K "FuelError")) = some true := He.exm_ok (T.d.fact 185)
theorem em_InvalidCells (T : Txt K w mg h) : PySem.W.exmOne K (.ref (He.ga K "InvalidCells")) (.ref (He.ga K "FuelError")) = some true := He.exm_ok (T.d.fact 186)
theorem em_InvalidFuel (T : Txt K w mg h) : PySem.W.exmOne K (.ref (He.ga K "InvalidFuel")) (.ref (He.ga K "FuelError")) = some true := He.exm_ok (T.d.fact 187)
theorem em_InvalidShare (T : Txt K w mg h) : PySem.W.exmOne K (.ref (He.ga K "InvalidShare")) (.ref (He.ga K "FuelError")) = some true := He.exm_ok (T.d.fact 188)
theorem em_Endless (T : Txt K w mg h) : PySem.W.exmOne K (.ref (He.ga K "Endless")) (.ref (He.ga K "FuelError")) = some true := He.exm_ok (T.d.fact 189)
theorem em_InvalidLimit (T : Txt K w mg h) : PySem.W.exmOne K (.ref (He.ga K "InvalidLimit")) (.ref (He.ga K "FuelError")) = some true := He.exm_ok (T.d.fact 190)
theorem oc_InvalidCode (T : Txt K w mg h) : OexC K (He.ga K "InvalidCode") := ocB_ok (T.more 16)
theorem oi_InvalidCode (T : Txt K w mg h) : PySem.W.findIn K (.ref (He.ga K "InvalidCode")) "__init__" = some (some (.ref (He.ma K (He.ga K "InvalidCode") "__init__"))) ∧ PySem.W.typeIn K (.ref (He.ma K (He.ga K "InvalidCode") "__init__")) = some (.type "function") := oiB_ok (T.more 17)
theorem na_InvalidCode_offset (T : Txt K w mg h) : PySem.W.findIn K (.ref (He.ga K "InvalidCode")) "offset" = some none := He.noat_ok (T.d.fact 191)
theorem xf_InvalidCode (T : Txt K w mg h) : XfC K (He.ga K "InvalidCode") := xfB_ok (T.more 18)
theorem em_InvalidCode (T : Txt K w mg h) : PySem.W.exmOne K (.ref (He.ga K "InvalidCode")) (.ref (He.ga K "FuelError")) = some true := He.exm_ok (T.d.fact 192)
theorem em_NoProcess (T : Txt K w mg h) : PySem.W.exmOne K (.ref (He.ga K "NoProcess")) (.ref (He.ga K "FuelError")) = some true := He.exm_ok (T.d.fact 193)
theorem em_InvalidSteps (T : Txt K w mg h) : PySem.W.exmOne K (.ref (He.ga K "InvalidSteps")) (.ref (He.ga K "FuelError")) = some true := He.exm_ok (T.d.fact 194)
theorem em_InvalidName (T : Txt K w mg h) : PySem.W.exmOne K (.ref (He.ga K "InvalidName")) (.ref (He.ga K "FuelError")) = some true := He.exm_ok (T.d.fact 195)
theorem em_UnknownName (T : Txt K w mg h) : PySem.W.exmOne K (.ref (He.ga K "UnknownName")) (.ref (He.ga K "FuelError")) = some true := He.exm_ok (T.d.fact 196)
theorem oc_InvalidOperation (T : Txt K w mg h) : OexC K (He.ga K "InvalidOperation") := ocB_ok (T.more 19)
theorem oi_InvalidOperation (T : Txt K w mg h) : PySem.W.findIn K (.ref (He.ga K "InvalidOperation")) "__init__" = some (some (.ref (He.ma K (He.ga K "InvalidOperation") "__init__"))) ∧ PySem.W.typeIn K (.ref (He.ma K (He.ga K "InvalidOperation") "__init__")) = some (.type "function") := oiB_ok (T.more 20)
theorem na_InvalidOperation_position (T : Txt K w mg h) : PySem.W.findIn K (.ref (He.ga K "InvalidOperation")) "position" = some none := He.noat_ok (T.d.fact 197)
theorem xf_InvalidOperation (T : Txt K w mg h) : XfC K (He.ga K "InvalidOperation") := xfB_ok (T.more 21)
theorem em_InvalidOperation (T : Txt K w mg h) : PySem.W.exmOne K (.ref (He.ga K "InvalidOperation")) (.ref (He.ga K "FuelError")) = some true := He.exm_ok (T.d.fact 198)
theorem oc_InvalidSession (T : Txt K w mg h) : OexC K (He.ga K "InvalidSession") := ocB_ok (T.more 22)
theorem oi_InvalidSession (T : Txt K w mg h) : PySem.W.findIn K (.ref (He.ga K "InvalidSession")) "__init__" = some (some (.ref (He.ma K (He.ga K "InvalidSession") "__init__"))) ∧ PySem.W.typeIn K (.ref (He.ma K (He.ga K "InvalidSession") "__init__")) = some (.type "function") := oiB_ok (T.more 23)
theorem na_InvalidSession_line (T : Txt K w mg h) : PySem.W.findIn K (.ref (He.ga K "InvalidSession")) "line" = some none := He.noat_ok (T.d.fact 199)
theorem xf_InvalidSession (T : Txt K w mg h) : XfC K (He.ga K "InvalidSession") := xfB_ok (T.more 24)
theorem em_InvalidSession (T : Txt K w mg h) : PySem.W.exmOne K (.ref (He.ga K "InvalidSession")) (.ref (He.ga K "FuelError")) = some true := He.exm_ok (T.d.fact 200)
theorem cf_FuelError (T : Txt K w mg h) : CFun K (He.ga K "FuelError") "__init__" (.builtin "ValueError.__init__") := cfB_ok (T.more 25)
theorem cf_Statement (T : Txt K w mg h) : CFun K (He.ga K "Statement") "__init__" (.ref (He.ma K (He.ga K "Statement") "__init__")) := cfB_ok (T.more 26)
theorem dc_all (T : Txt K w mg h) : ([He.ga K "Token", He.ga K "Expression", He.ga K "Statement", He.ga K "AssignStatement", He.ga K "ValueStatement", He.ga K "IfStatement", He.ga K "LoopStatement", He.ga K "CallStatement", He.ga K "Function", He.ga K "Cursor"] : List Addr).Nodup := of_decide_eq_true (T.more 27)
theorem df_STATEMENTS (T : Txt K w mg h) : ([He.ga K "parse_set", He.ga K "parse_put", He.ga K "parse_value", He.ga K "parse_if", He.ga K "parse_loop", He.ga K "parse_call"] : List Addr).Nodup := of_decide_eq_true (T.more 28)
theorem df_HEADS (T : Txt K w mg h) : ([He.ga K "write_assignment", He.ga K "write_value", He.ga K "write_if", He.ga K "write_loop", He.ga K "write_call"] : List Addr).Nodup := of_decide_eq_true (T.more 29)
theorem kk_STATEMENTS (T : Txt K w mg h) : KKeys K w (He.ga K "STATEMENTS") ["set", "put", "emit", "return", "if", "loop", "call"] := ⟨says_keys T.t 0, by decide +kernel⟩
theorem kk_HEADS (T : Txt K w mg h) : KKeys K w (He.ga K "HEADS") ["set", "put", "emit", "return", "if", "loop", "call"] := ⟨says_keys T.t 1, by decide +kernel⟩
theorem kd_STATEMENTS (T : Txt K w mg h) : ∃ es n, KDict K w (He.ga K "STATEMENTS") es n := T.t.tab 0
theorem kd_HEADS (T : Txt K w mg h) : ∃ es n, KDict K w (He.ga K "HEADS") es n := T.t.tab 1
theorem f_SyntaxFault_init (T : Txt K w mg h) : ∃ fd, FunD K "__init__" "SyntaxFault.__init__" (defArgs s_SyntaxFault_init) (defBody s_SyntaxFault_init) (defScope s_SyntaxFault_init) [] [] (He.ma K (He.ga K "SyntaxFault") "__init__") fd := T.d.def_ 0 (d := d_SyntaxFault_init)
theorem f_CheckFault_init (T : Txt K w mg h) : ∃ fd, FunD K "__init__" "CheckFault.__init__" (defArgs s_CheckFault_init) (defBody s_CheckFault_init) (defScope s_CheckFault_init) [] [] (He.ma K (He.ga K "CheckFault") "__init__") fd := T.d.def_ 1 (d := d_CheckFault_init)
theorem f_InvalidCode_init (T : Txt K w mg h) : ∃ fd, FunD K "__init__" "InvalidCode.__init__" (defArgs s_InvalidCode_init) (defBody s_InvalidCode_init) (defScope s_InvalidCode_init) [] [] (He.ma K (He.ga K "InvalidCode") "__init__") fd := T.d.def_ 2 (d := d_InvalidCode_init)
theorem f_InvalidOperation_init (T : Txt K w mg h) : ∃ fd, FunD K "__init__" "InvalidOperation.__init__" (defArgs s_InvalidOperation_init) (defBody s_InvalidOperation_init) (defScope s_InvalidOperation_init) [] [] (He.ma K (He.ga K "InvalidOperation") "__init__") fd := T.d.def_ 3 (d := d_InvalidOperation_init)
theorem f_InvalidSession_init (T : Txt K w mg h) : ∃ fd, FunD K "__init__" "InvalidSession.__init__" (defArgs s_InvalidSession_init) (defBody s_InvalidSession_init) (defScope s_InvalidSession_init) [] [] (He.ma K (He.ga K "InvalidSession") "__init__") fd := T.d.def_ 4 (d := d_InvalidSession_init)
theorem f_Token_init (T : Txt K w mg h) : ∃ fd, FunD K "__init__" "Token.__init__" (defArgs s_Token_init) (defBody s_Token_init) (defScope s_Token_init) [] [] (He.ma K (He.ga K "Token") "__init__") fd := T.d.def_ 5 (d := d_Token_init)
theorem f_Expression_init (T : Txt K w mg h) : ∃ fd, FunD K "__init__" "Expression.__init__" (defArgs s_Expression_init) (defBody s_Expression_init) (defScope s_Expression_init) [] [] (He.ma K (He.ga K "Expression") "__init__") fd := T.d.def_ 6 (d := d_Expression_init)
theorem f_Statement_init (T : Txt K w mg h) : ∃ fd, FunD K "__init__" "Statement.__init__" (defArgs s_Statement_init) (defBody s_Statement_init) (defScope s_Statement_init) [] [] (He.ma K (He.ga K "Statement") "__init__") fd := T.d.def_ 7 (d := d_Statement_init)
theorem f_Statement_assigned (T : Txt K w mg h) : ∃ fd, FunD K "assigned" "Statement.assigned" (defArgs s_Statement_assigned) (defBody s_Statement_assigned) (defScope s_Statement_assigned) [] [] (He.ma K (He.ga K "Statement") "assigned") fd := T.d.def_ 8 (d := d_Statement_assigned)
theorem f_Statement_expressions (T : Txt K w mg h) : ∃ fd, FunD K "expressions" "Statement.expressions" (defArgs s_Statement_expressions) (defBody s_Statement_expressions) (defScope s_Statement_expressions) [] [] (He.ma K (He.ga K "Statement") "expressions") fd := T.d.def_ 9 (d := d_Statement_expressions)
theorem f_Statement_blocks (T : Txt K w mg h) : ∃ fd, FunD K "blocks" "Statement.blocks" (defArgs s_Statement_blocks) (defBody s_Statement_blocks) (defScope s_Statement_blocks) [] [] (He.ma K (He.ga K "Statement") "blocks") fd := T.d.def_ 10 (d := d_Statement_blocks)
theorem f_AssignStatement_init (T : Txt K w mg h) : ∃ fd, FunD K "__init__" "AssignStatement.__init__" (defArgs s_AssignStatement_init) (defBody s_AssignStatement_init) (defScope s_AssignStatement_init) [] [] (He.ma K (He.ga K "AssignStatement") "__init__") fd := T.d.def_ 11 (d := d_AssignStatement_init)
theorem f_AssignStatement_assigned (T : Txt K w mg h) : ∃ fd, FunD K "assigned" "AssignStatement.assigned" (defArgs s_AssignStatement_assigned) (defBody s_AssignStatement_assigned) (defScope s_AssignStatement_assigned) [] [] (He.ma K (He.ga K "AssignStatement") "assigned") fd := T.d.def_ 12 (d := d_AssignStatement_assigned)
theorem f_AssignStatement_expressions (T : Txt K w mg h) : ∃ fd, FunD K "expressions" "AssignStatement.expressions" (defArgs s_AssignStatement_expressions) (defBody s_AssignStatement_expressions) (defScope s_AssignStatement_expressions) [] [] (He.ma K (He.ga K "AssignStatement") "expressions") fd := T.d.def_ 13 (d := d_AssignStatement_expressions)
theorem f_AssignStatement_blocks (T : Txt K w mg h) : ∃ fd, FunD K "blocks" "Statement.blocks" (defArgs s_Statement_blocks) (defBody s_Statement_blocks) (defScope s_Statement_blocks) [] [] (He.ma K (He.ga K "AssignStatement") "blocks") fd := T.d.def_ 14 (d := d_AssignStatement_blocks)
theorem f_ValueStatement_init (T : Txt K w mg h) : ∃ fd, FunD K "__init__" "ValueStatement.__init__" (defArgs s_ValueStatement_init) (defBody s_ValueStatement_init) (defScope s_ValueStatement_init) [] [] (He.ma K (He.ga K "ValueStatement") "__init__") fd := T.d.def_ 15 (d := d_ValueStatement_init)
theorem f_ValueStatement_expressions (T : Txt K w mg h) : ∃ fd, FunD K "expressions" "ValueStatement.expressions" (defArgs s_ValueStatement_expressions) (defBody s_ValueStatement_expressions) (defScope s_ValueStatement_expressions) [] [] (He.ma K (He.ga K "ValueStatement") "expressions") fd := T.d.def_ 16 (d := d_ValueStatement_expressions)
theorem f_ValueStatement_assigned (T : Txt K w mg h) : ∃ fd, FunD K "assigned" "Statement.assigned" (defArgs s_Statement_assigned) (defBody s_Statement_assigned) (defScope s_Statement_assigned) [] [] (He.ma K (He.ga K "ValueStatement") "assigned") fd := T.d.def_ 17 (d := d_ValueStatement_assigned)
theorem f_ValueStatement_blocks (T : Txt K w mg h) : ∃ fd, FunD K "blocks" "Statement.blocks" (defArgs s_Statement_blocks) (defBody s_Statement_blocks) (defScope s_Statement_blocks) [] [] (He.ma K (He.ga K "ValueStatement") "blocks") fd := T.d.def_ 18 (d := d_ValueStatement_blocks)
theorem f_IfStatement_init (T : Txt K w mg h) : ∃ fd, FunD K "__init__" "IfStatement.__init__" (defArgs s_IfStatement_init) (defBody s_IfStatement_init) (defScope s_IfStatement_init) [] [] (He.ma K (He.ga K "IfStatement") "__init__") fd := T.d.def_ 19 (d := d_IfStatement_init)
theorem f_IfStatement_expressions (T : Txt K w mg h) : ∃ fd, FunD K "expressions" "IfStatement.expressions" (defArgs s_IfStatement_expressions) (defBody s_IfStatement_expressions) (defScope s_IfStatement_expressions) [] [] (He.ma K (He.ga K "IfStatement") "expressions") fd := T.d.def_ 20 (d := d_IfStatement_expressions)
theorem f_IfStatement_blocks (T : Txt K w mg h) : ∃ fd, FunD K "blocks" "IfStatement.blocks" (defArgs s_IfStatement_blocks) (defBody s_IfStatement_blocks) (defScope s_IfStatement_blocks) [] [] (He.ma K (He.ga K "IfStatement") "blocks") fd := T.d.def_ 21 (d := d_IfStatement_blocks)
theorem f_IfStatement_assigned (T : Txt K w mg h) : ∃ fd, FunD K "assigned" "Statement.assigned" (defArgs s_Statement_assigned) (defBody s_Statement_assigned) (defScope s_Statement_assigned) [] [] (He.ma K (He.ga K "IfStatement") "assigned") fd := T.d.def_ 22 (d := d_IfStatement_assigned)
theorem f_LoopStatement_init (T : Txt K w mg h) : ∃ fd, FunD K "__init__" "LoopStatement.__init__" (defArgs s_LoopStatement_init) (defBody s_LoopStatement_init) (defScope s_LoopStatement_init) [] [] (He.ma K (He.ga K "LoopStatement") "__init__") fd := T.d.def_ 23 (d := d_LoopStatement_init)
theorem f_LoopStatement_expressions (T : Txt K w mg h) : ∃ fd, FunD K "expressions" "LoopStatement.expressions" (defArgs s_LoopStatement_expressions) (defBody s_LoopStatement_expressions) (defScope s_LoopStatement_expressions) [] [] (He.ma K (He.ga K "LoopStatement") "expressions") fd := T.d.def_ 24 (d := d_LoopStatement_expressions)
theorem f_LoopStatement_blocks (T : Txt K w mg h) : ∃ fd, FunD K "blocks" "LoopStatement.blocks" (defArgs s_LoopStatement_blocks) (defBody s_LoopStatement_blocks) (defScope s_LoopStatement_blocks) [] [] (He.ma K (He.ga K "LoopStatement") "blocks") fd := T.d.def_ 25 (d := d_LoopStatement_blocks)
theorem f_LoopStatement_assigned (T : Txt K w mg h) : ∃ fd, FunD K "assigned" "Statement.assigned" (defArgs s_Statement_assigned) (defBody s_Statement_assigned) (defScope s_Statement_assigned) [] [] (He.ma K (He.ga K "LoopStatement") "assigned") fd := T.d.def_ 26 (d := d_LoopStatement_assigned)
theorem f_CallStatement_init (T : Txt K w mg h) : ∃ fd, FunD K "__init__" "CallStatement.__init__" (defArgs s_CallStatement_init) (defBody s_CallStatement_init) (defScope s_CallStatement_init) [] [] (He.ma K (He.ga K "CallStatement") "__init__") fd := T.d.def_ 27 (d := d_CallStatement_init)
theorem f_CallStatement_assigned (T : Txt K w mg h) : ∃ fd, FunD K "assigned" "CallStatement.assigned" (defArgs s_CallStatement_assigned) (defBody s_CallStatement_assigned) (defScope s_CallStatement_assigned) [] [] (He.ma K (He.ga K "CallStatement") "assigned") fd := T.d.def_ 28 (d := d_CallStatement_assigned)
theorem f_CallStatement_expressions (T : Txt K w mg h) : ∃ fd, FunD K "expressions" "CallStatement.expressions" (defArgs s_CallStatement_expressions) (defBody s_CallStatement_expressions) (defScope s_CallStatement_expressions) [] [] (He.ma K (He.ga K "CallStatement") "expressions") fd := T.d.def_ 29 (d := d_CallStatement_expressions)
theorem f_CallStatement_fraction (T : Txt K w mg h) : ∃ fd, FunD K "fraction" "CallStatement.fraction" (defArgs s_CallStatement_fraction) (defBody s_CallStatement_fraction) (defScope s_CallStatement_fraction) [] [] (He.ma K (He.ga K "CallStatement") "fraction") fd := T.d.def_ 30 (d := d_CallStatement_fraction)
theorem f_CallStatement_blocks (T : Txt K w mg h) : ∃ fd, FunD K "blocks" "Statement.blocks" (defArgs s_Statement_blocks) (defBody s_Statement_blocks) (defScope s_Statement_blocks) [] [] (He.ma K (He.ga K "CallStatement") "blocks") fd := T.d.def_ 31 (d := d_CallStatement_blocks)
theorem f_Function_init (T : Txt K w mg h) : ∃ fd, FunD K "__init__" "Function.__init__" (defArgs s_Function_init) (defBody s_Function_init) (defScope s_Function_init) [] [] (He.ma K (He.ga K "Function") "__init__") fd := T.d.def_ 32 (d := d_Function_init)
theorem f_Cursor_init (T : Txt K w mg h) : ∃ fd, FunD K "__init__" "Cursor.__init__" (defArgs s_Cursor_init) (defBody s_Cursor_init) (defScope s_Cursor_init) [] [] (He.ma K (He.ga K "Cursor") "__init__") fd := T.d.def_ 33 (d := d_Cursor_init)
theorem f_Cursor_ahead (T : Txt K w mg h) : ∃ fd, FunD K "ahead" "Cursor.ahead" (defArgs s_Cursor_ahead) (defBody s_Cursor_ahead) (defScope s_Cursor_ahead) [] [] (He.ma K (He.ga K "Cursor") "ahead") fd := T.d.def_ 34 (d := d_Cursor_ahead)
theorem f_Cursor_take_any (T : Txt K w mg h) : ∃ fd, FunD K "take_any" "Cursor.take_any" (defArgs s_Cursor_take_any) (defBody s_Cursor_take_any) (defScope s_Cursor_take_any) [] [] (He.ma K (He.ga K "Cursor") "take_any") fd := T.d.def_ 35 (d := d_Cursor_take_any)
theorem f_Cursor_take (T : Txt K w mg h) : ∃ fd, FunD K "take" "Cursor.take" (defArgs s_Cursor_take) (defBody s_Cursor_take) (defScope s_Cursor_take) [] [] (He.ma K (He.ga K "Cursor") "take") fd := T.d.def_ 36 (d := d_Cursor_take)
theorem f_list_statements (T : Txt K w mg h) : ∃ fd, FunD K "list_statements" "list_statements" (defArgs s_list_statements) (defBody s_list_statements) (defScope s_list_statements) [] [] (He.ga K "list_statements") fd := T.d.def_ 37 (d := d_list_statements)
theorem f_list_locals (T : Txt K w mg h) : ∃ fd, FunD K "list_locals" "list_locals" (defArgs s_list_locals) (defBody s_list_locals) (defScope s_list_locals) [] [] (He.ga K "list_locals") fd := T.d.def_ 38 (d := d_list_locals)
theorem f_fail (T : Txt K w mg h) : ∃ fd, FunD K "fail" "fail" (defArgs s_fail) (defBody s_fail) (defScope s_fail) [] [] (He.ga K "fail") fd := T.d.def_ 39 (d := d_fail)
theorem f_check_functions (T : Txt K w mg h) : ∃ fd, FunD K "check_functions" "check_functions" (defArgs s_check_functions) (defBody s_check_functions) (defScope s_check_functions) [] [] (He.ga K "check_functions") fd := T.d.def_ 40 (d := d_check_functions)
theorem f_check_headers (T : Txt K w mg h) : ∃ fd, FunD K "check_headers" "check_headers" (defArgs s_check_headers) (defBody s_check_headers) (defScope s_check_headers) [] [] (He.ga K "check_headers") fd := T.d.def_ 41 (d := d_check_headers)
theorem f_check_header_word (T : Txt K w mg h) : ∃ fd, FunD K "check_header_word" "check_header_word" (defArgs s_check_header_word) (defBody s_check_header_word) (defScope s_check_header_word) [] [] (He.ga K "check_header_word") fd := T.d.def_ 42 (d := d_check_header_word)
theorem f_check_limits (T : Txt K w mg h) : ∃ fd, FunD K "check_limits" "check_limits" (defArgs s_check_limits) (defBody s_check_limits) (defScope s_check_limits) [] [] (He.ga K "check_limits") fd := T.d.def_ 43 (d := d_check_limits)
theorem f_check_statement (T : Txt K w mg h) : ∃ fd, FunD K "check_statement" "check_statement" (defArgs s_check_statement) (defBody s_check_statement) (defScope s_check_statement) [] [] (He.ga K "check_statement") fd := T.d.def_ 44 (d := d_check_statement)
theorem f_check_call (T : Txt K w mg h) : ∃ fd, FunD K "check_call" "check_call" (defArgs s_check_call) (defBody s_check_call) (defScope s_check_call) [] [] (He.ga K "check_call") fd := T.d.def_ 45 (d := d_check_call)
theorem f_read_tokens (T : Txt K w mg h) : ∃ fd, FunD K "read_tokens" "read_tokens" (defArgs s_read_tokens) (defBody s_read_tokens) (defScope s_read_tokens) [] [] (He.ga K "read_tokens") fd := T.d.def_ 46 (d := d_read_tokens)
theorem f_read_line (T : Txt K w mg h) : ∃ fd, FunD K "read_line" "read_line" (defArgs s_read_line) (defBody s_read_line) (defScope s_read_line) [] [] (He.ga K "read_line") fd := T.d.def_ 47 (d := d_read_line)
theorem f_read_token (T : Txt K w mg h) : ∃ fd, FunD K "read_token" "read_token" (defArgs s_read_token) (defBody s_read_token) (defScope s_read_token) [] [] (He.ga K "read_token") fd := T.d.def_ 48 (d := d_read_token)
theorem f_find_end (T : Txt K w mg h) : ∃ fd, FunD K "find_end" "find_end" (defArgs s_find_end) (defBody s_find_end) (defScope s_find_end) [] [] (He.ga K "find_end") fd := T.d.def_ 49 (d := d_find_end)
theorem f_find_kind (T : Txt K w mg h) : ∃ fd, FunD K "find_kind" "find_kind" (defArgs s_find_kind) (defBody s_find_kind) (defScope s_find_kind) [] [] (He.ga K "find_kind") fd := T.d.def_ 50 (d := d_find_kind)
theorem f_is_number (T : Txt K w mg h) : ∃ fd, FunD K "is_number" "is_number" (defArgs s_is_number) (defBody s_is_number) (defScope s_is_number) [] [] (He.ga K "is_number") fd := T.d.def_ 51 (d := d_is_number)
theorem f_parse_tokens (T : Txt K w mg h) : ∃ fd, FunD K "parse_tokens" "parse_tokens" (defArgs s_parse_tokens) (defBody s_parse_tokens) (defScope s_parse_tokens) [] [] (He.ga K "parse_tokens") fd := T.d.def_ 52 (d := d_parse_tokens)
theorem f_parse_function (T : Txt K w mg h) : ∃ fd, FunD K "parse_function" "parse_function" (defArgs s_parse_function) (defBody s_parse_function) (defScope s_parse_function) [] [] (He.ga K "parse_function") fd := T.d.def_ 53 (d := d_parse_function)
theorem f_parse_list (T : Txt K w mg h) : ∃ fd, FunD K "parse_list" "parse_list" (defArgs s_parse_list) (defBody s_parse_list) (defScope s_parse_list) [] [] (He.ga K "parse_list") fd := T.d.def_ 54 (d := d_parse_list)
theorem f_parse_parameter (T : Txt K w mg h) : ∃ fd, FunD K "parse_parameter" "parse_parameter" (defArgs s_parse_parameter) (defBody s_parse_parameter) (defScope s_parse_parameter) [] [] (He.ga K "parse_parameter") fd := T.d.def_ 55 (d := d_parse_parameter)
theorem f_parse_block (T : Txt K w mg h) : ∃ fd, FunD K "parse_block" "parse_block" (defArgs s_parse_block) (defBody s_parse_block) (defScope s_parse_block) [] [] (He.ga K "parse_block") fd := T.d.def_ 56 (d := d_parse_block)
theorem f_open_first (T : Txt K w mg h) : ∃ fd, FunD K "open_first" "open_first" (defArgs s_open_first) (defBody s_open_first) (defScope s_open_first) [] [] (He.ga K "open_first") fd := T.d.def_ 57 (d := d_open_first)
theorem f_open_else (T : Txt K w mg h) : ∃ fd, FunD K "open_else" "open_else" (defArgs s_open_else) (defBody s_open_else) (defScope s_open_else) [] [] (He.ga K "open_else") fd := T.d.def_ 58 (d := d_open_else)
theorem f_parse_statement (T : Txt K w mg h) : ∃ fd, FunD K "parse_statement" "parse_statement" (defArgs s_parse_statement) (defBody s_parse_statement) (defScope s_parse_statement) [] [] (He.ga K "parse_statement") fd := T.d.def_ 59 (d := d_parse_statement)
theorem f_parse_set (T : Txt K w mg h) : ∃ fd, FunD K "parse_set" "parse_set" (defArgs s_parse_set) (defBody s_parse_set) (defScope s_parse_set) [] [] (He.ga K "parse_set") fd := T.d.def_ 60 (d := d_parse_set)
theorem f_parse_put (T : Txt K w mg h) : ∃ fd, FunD K "parse_put" "parse_put" (defArgs s_parse_put) (defBody s_parse_put) (defScope s_parse_put) [] [] (He.ga K "parse_put") fd := T.d.def_ 61 (d := d_parse_put)
theorem f_parse_assignment (T : Txt K w mg h) : ∃ fd, FunD K "parse_assignment" "parse_assignment" (defArgs s_parse_assignment) (defBody s_parse_assignment) (defScope s_parse_assignment) [] [] (He.ga K "parse_assignment") fd := T.d.def_ 62 (d := d_parse_assignment)
theorem f_parse_value (T : Txt K w mg h) : ∃ fd, FunD K "parse_value" "parse_value" (defArgs s_parse_value) (defBody s_parse_value) (defScope s_parse_value) [] [] (He.ga K "parse_value") fd := T.d.def_ 63 (d := d_parse_value)
theorem f_parse_if (T : Txt K w mg h) : ∃ fd, FunD K "parse_if" "parse_if" (defArgs s_parse_if) (defBody s_parse_if) (defScope s_parse_if) [] [] (He.ga K "parse_if") fd := T.d.def_ 64 (d := d_parse_if)
theorem f_parse_loop (T : Txt K w mg h) : ∃ fd, FunD K "parse_loop" "parse_loop" (defArgs s_parse_loop) (defBody s_parse_loop) (defScope s_parse_loop) [] [] (He.ga K "parse_loop") fd := T.d.def_ 65 (d := d_parse_loop)
theorem f_parse_call (T : Txt K w mg h) : ∃ fd, FunD K "parse_call" "parse_call" (defArgs s_parse_call) (defBody s_parse_call) (defScope s_parse_call) [] [] (He.ga K "parse_call") fd := T.d.def_ 66 (d := d_parse_call)
theorem f_parse_share (T : Txt K w mg h) : ∃ fd, FunD K "parse_share" "parse_share" (defArgs s_parse_share) (defBody s_parse_share) (defScope s_parse_share) [] [] (He.ga K "parse_share") fd := T.d.def_ 67 (d := d_parse_share)
theorem f_parse_expression (T : Txt K w mg h) : ∃ fd, FunD K "parse_expression" "parse_expression" (defArgs s_parse_expression) (defBody s_parse_expression) (defScope s_parse_expression) [] [] (He.ga K "parse_expression") fd := T.d.def_ 68 (d := d_parse_expression)
theorem f_read_program (T : Txt K w mg h) : ∃ fd, FunD K "read_program" "read_program" (defArgs s_read_program) (defBody s_read_program) (defScope s_read_program) [] [] (He.ga K "read_program") fd := T.d.def_ 69 (d := d_read_program)
theorem f_format_source (T : Txt K w mg h) : ∃ fd, FunD K "format_source" "format_source" (defArgs s_format_source) (defBody s_format_source) (defScope s_format_source) [] [] (He.ga K "format_source") fd := T.d.def_ 70 (d := d_format_source)
theorem f_format_functions (T : Txt K w mg h) : ∃ fd, FunD K "format_functions" "format_functions" (defArgs s_format_functions) (defBody s_format_functions) (defScope s_format_functions) [] [] (He.ga K "format_functions") fd := T.d.def_ 71 (d := d_format_functions)
theorem f_format_function (T : Txt K w mg h) : ∃ fd, FunD K "format_function" "format_function" (defArgs s_format_function) (defBody s_format_function) (defScope s_format_function) [] [] (He.ga K "format_function") fd := T.d.def_ 72 (d := d_format_function)
theorem f_format_block (T : Txt K w mg h) : ∃ fd, FunD K "format_block" "format_block" (defArgs s_format_block) (defBody s_format_block) (defScope s_format_block) [] [] (He.ga K "format_block") fd := T.d.def_ 73 (d := d_format_block)
theorem f_format_statement (T : Txt K w mg h) : ∃ fd, FunD K "format_statement" "format_statement" (defArgs s_format_statement) (defBody s_format_statement) (defScope s_format_statement) [] [] (He.ga K "format_statement") fd := T.d.def_ 74 (d := d_format_statement)
theorem f_write_assignment (T : Txt K w mg h) : ∃ fd, FunD K "write_assignment" "write_assignment" (defArgs s_write_assignment) (defBody s_write_assignment) (defScope s_write_assignment) [] [] (He.ga K "write_assignment") fd := T.d.def_ 75 (d := d_write_assignment)
theorem f_write_value (T : Txt K w mg h) : ∃ fd, FunD K "write_value" "write_value" (defArgs s_write_value) (defBody s_write_value) (defScope s_write_value) [] [] (He.ga K "write_value") fd := T.d.def_ 76 (d := d_write_value)
theorem f_write_if (T : Txt K w mg h) : ∃ fd, FunD K "write_if" "write_if" (defArgs s_write_if) (defBody s_write_if) (defScope s_write_if) [] [] (He.ga K "write_if") fd := T.d.def_ 77 (d := d_write_if)
theorem f_write_loop (T : Txt K w mg h) : ∃ fd, FunD K "write_loop" "write_loop" (defArgs s_write_loop) (defBody s_write_loop) (defScope s_write_loop) [] [] (He.ga K "write_loop") fd := T.d.def_ 78 (d := d_write_loop)
theorem f_write_call (T : Txt K w mg h) : ∃ fd, FunD K "write_call" "write_call" (defArgs s_write_call) (defBody s_write_call) (defScope s_write_call) [] [] (He.ga K "write_call") fd := T.d.def_ 79 (d := d_write_call)
theorem f_write_expression (T : Txt K w mg h) : ∃ fd, FunD K "write_expression" "write_expression" (defArgs s_write_expression) (defBody s_write_expression) (defScope s_write_expression) [] [] (He.ga K "write_expression") fd := T.d.def_ 80 (d := d_write_expression)
theorem f_law_random (T : Txt K w mg h) : ∃ fd, FunD K "_law_random" "_law_random" (defArgs s_law_random) (defBody s_law_random) (defScope s_law_random) [] [] (He.ga K "_law_random") fd := T.d.def_ 81 (d := d_law_random)
theorem f_law_below (T : Txt K w mg h) : ∃ fd, FunD K "_law_below" "_law_below" (defArgs s_law_below) (defBody s_law_below) (defScope s_law_below) [] [] (He.ga K "_law_below") fd := T.d.def_ 82 (d := d_law_below)
theorem f_law_faulty (T : Txt K w mg h) : ∃ fd, FunD K "_law_faulty" "_law_faulty" (defArgs s_law_faulty) (defBody s_law_faulty) (defScope s_law_faulty) [] [] (He.ga K "_law_faulty") fd := T.d.def_ 83 (d := d_law_faulty)
theorem f_law_error_of (T : Txt K w mg h) : ∃ fd, FunD K "_law_error_of" "_law_error_of" (defArgs s_law_error_of) (defBody s_law_error_of) (defScope s_law_error_of) [] [] (He.ga K "_law_error_of") fd := T.d.def_ 84 (d := d_law_error_of)
theorem f_law (T : Txt K w mg h) : ∃ fd, FunD K "law" "law" (defArgs s_law) (defBody s_law) (defScope s_law) [] [] (He.ga K "law") fd := T.d.def_ 85 (d := d_law)
end
end Fs
-- FsH
set_option Elab.async false
set_option linter.all false
set_option maxRecDepth 100000
set_option maxHeartbeats 0
namespace Fs
def asL0 : List Nat := [3, 2, 24, 44, 63, 75, 87, 99, 111, 123, 135, 154, 166, 178, 190, 202, 221, 240, 259, 280, 322, 357, 383, 416, 449, 489, 508, 653, 517, 522, 529, 534, 541, 548, 555]
def asL1 : List Nat := [562, 569, 577, 584, 591, 598, 605, 612, 664, 671, 678, 685, 692, 699, 706, 713, 720, 727, 734, 741, 748, 755, 762, 769, 776, 784, 791, 798, 803, 810, 817, 824, 831, 838, 845]
def asL2 : List Nat := [850, 857, 863, 870, 875, 882, 889, 570, 613, 614, 615, 777, 858, 23, 43, 62, 74, 86, 98, 110, 122, 134, 153, 165, 177, 189, 201, 220, 239, 258, 279, 321, 356, 382, 415]
def asL3 : List Nat := [448, 488, 507, 652, 41, 60, 151, 218, 237, 256, 277, 298, 305, 312, 319, 340, 347, 354, 373, 380, 399, 406, 413, 432, 439, 446, 465, 472, 479, 486, 505, 629, 636, 643, 650]
def asL4 : List Nat := [40, 59, 150, 217, 236, 255, 276, 297, 304, 311, 318, 339, 346, 353, 372, 379, 398, 405, 412, 431, 438, 445, 464, 471, 478, 485, 504, 628, 635, 642, 649, 516, 521, 528, 533]
def asL5 : List Nat := [540, 547, 554, 561, 568, 576, 583, 590, 597, 604, 611, 663, 670, 677, 684, 691, 698, 705, 712, 719, 726, 733, 740, 747, 754, 761, 768, 775, 783, 790, 797, 802, 809, 816, 823]
def asL6 : List Nat := [830, 837, 844, 849, 856, 862, 869, 874, 881, 888]
def asL : List Nat := asL0 ++ asL1 ++ asL2 ++ asL3 ++ asL4 ++ asL5 ++ asL6
open PySem PySem.Spec PyProof.Rows L2
abbrev R : PySem.W.OpenRow := PySem.W.OpenLaw.row PySem.Challenge.rw_fuelshare_k02_check_faults
abbrev hk : PySem.W.Hook := hookF asL fa fn ts [("law", none)] exB
def ob (s : PySem.W.SharedT) : He.AlX := obsF asL fa fn ts [("law", none)] exB (HandSHeadRun.getT s)
theorem ob_eq (s : PySem.W.SharedT) : ob s = hk.obs s.abs := obsF_eq (HandSHeadRun.getT_eq s)
def loose0 : List PySem.Str := ["FuelError", "SyntaxFault", "CheckFault", "InvalidArguments", "InvalidCells", "InvalidFuel", "InvalidShare", "Endless", "InvalidLimit", "InvalidCode", "NoProcess", "InvalidSteps", "InvalidName", "UnknownName", "InvalidOperation", "InvalidSession", "CELLS", "Token", "Expression", "Statement", "AssignStatement", "ValueStatement", "IfStatement", "LoopStatement", "CallStatement", "Function", "list_statements", "list_locals", "MOST_FUNCTIONS", "MOST_PARAMETERS"]
def loose1 : List PySem.Str := ["MOST_STATEMENTS", "MOST_BLOCKS", "LARGEST_SHARE", "fail", "check_functions", "check_headers", "check_header_word", "check_limits", "check_statement", "check_call", "KEYWORDS", "SIGNS", "LETTERS", "DIGITS", "LONGEST_WORD", "LONGEST_NUMBER", "read_tokens", "read_line", "read_token", "find_end", "find_kind", "is_number", "OPERATORS", "COMPARISONS", "TERMS", "Cursor", "parse_tokens", "parse_function", "parse_list", "parse_parameter"]
def loose2 : List PySem.Str := ["parse_block", "open_first", "open_else", "parse_statement", "parse_set", "parse_put", "parse_assignment", "parse_value", "parse_if", "parse_loop", "parse_call", "parse_share", "parse_expression", "STATEMENTS", "read_program", "INDENT", "format_source", "format_functions", "format_function", "format_block", "format_statement", "write_assignment", "write_value", "write_if", "write_loop", "write_call", "write_expression", "HEADS", "_law_random", "_law_below"]
def loose3 : List PySem.Str := ["_law_faulty", "_law_error_of"]
def loose : List PySem.Str := loose0 ++ loose1 ++ loose2 ++ loose3
def lawAt : Nat := 100
theorem runF (w : World) : HandSHeadRun.RunEq R (PySem.W.view R.prog [lawAt]) hk ob 9000 loose (w.withFollow "special-get-raises" false) := by
  intro os
  kernel_rfl
theorem runT (w : World) : HandSHeadRun.RunEq R (PySem.W.view R.prog [lawAt]) hk ob 9000 loose (w.withFollow "special-get-raises" true) := by
  intro os
  kernel_rfl
theorem run (w : World) : HandSHeadRun.RunEq R (PySem.W.view R.prog [lawAt]) hk ob 9000 loose w := PySem.W.byRow2 "special-get-raises" (P := fun w => HandSHeadRun.RunEq R (PySem.W.view R.prog [lawAt]) hk ob 9000 loose w) runF runT w
end Fs
-- FsM
set_option Elab.async false
set_option linter.all false
set_option maxRecDepth 100000
set_option maxHeartbeats 4000000
namespace Fs
open PySem
/-! ## the mirror: the program as plain functions -/
abbrev mkS (l : List Nat) : Str := ⟨l.toArray⟩
structure Tok where
  kind : Str
  text : Str
  line : Nat
  col : Nat
structure Ex where
  terms : List Tok
  ops : List Str
inductive St where
  | asg (kw tg : Tok) (e : Ex)
  | val (kw : Tok) (e : Ex)
  | ite (kw : Tok) (l : Ex) (c : Str) (r : Ex) (b1 b2 : List St)
  | loop (kw : Tok) (e : Ex) (b : List St)
  | call (kw tg f : Tok) (args : List Ex) (p q : Tok) (fb : Ex)
structure Fn where
  name : Tok
  pars : List Tok
  body : List St
inductive Err where
  | syn (line col : Nat)
  | chk (why : Str) (line col : Nat)
abbrev Res (α : Type) := Except Err α
/-! ### tokens -/
def isL (c : Nat) : Bool := Nat.ble 97 c && Nat.ble c 122
def isD (c : Nat) : Bool := Nat.ble 48 c && Nat.ble c 57
def isC (c : Nat) : Bool := Nat.ble 65 c && Nat.ble c 72
def kws : List Str := ["def", "set", "put", "emit", "return", "if", "else", "loop", "call", "share"]
def signs : List Nat := [40, 41, 123, 125, 61, 59, 44, 47, 60, 62, 43, 45, 42]
def mEnd : List Nat → Nat
  | [] => 1
  | a :: s => if isL a then (s.takeWhile isL).length + 1 else if isD a then (s.takeWhile isD).length + 1 else 1
def isSign : List Nat → Bool
  | [c] => signs.contains c
  | _ => false
def isCell : List Nat → Bool
  | [c] => isC c
  | _ => false
def mNum (w : List Nat) : Bool := if 6 < w.length then false else decide (w = [48]) || !decide (w.head? = some 48)
def mKind (w : List Nat) : Option Str :=
  if kws.contains (mkS w) || isSign w then some (mkS w)
  else if isCell w then some "cell"
  else if (w.head?.any isL) && Nat.ble w.length 8 then some "word"
  else if (w.head?.any isD) && mNum w then some "number"
  else none
def lexL (line : Nat) : Nat → Nat → List Nat → Res (List Tok)
  | 0, _, _ => .ok []
  | _ + 1, _, [] => .ok []
  | n + 1, col, a :: r =>
    if a = 32 then lexL line n (col + 1) r
    else match mKind ((a :: r).take (mEnd (a :: r))) with
      | none => .error (.syn line col)
      | some k => match lexL line n (col + mEnd (a :: r)) ((a :: r).drop (mEnd (a :: r))) with
        | .ok ts => .ok (⟨k, mkS ((a :: r).take (mEnd (a :: r))), line, col⟩ :: ts)
        | .error e => .error e
def lexLs : Nat → List (List Nat) → Res (List Tok)
  | i, [] => .ok [⟨"end", "", i, 0⟩]
  | i, t :: ts => match lexL i t.length 0 t with
    | .error e => .error e
    | .ok a => match lexLs (i + 1) ts with
      | .error e => .error e
      | .ok b => .ok (a ++ b)
def mLex (src : List Nat) : Res (List Tok) := lexLs 0 (TL.spl [10] 0 [] src)
/-! ### the grammar -/
abbrev Toks := List Tok
def ahead (r : Toks) : Str := match r with
  | t :: _ => t.kind
  | [] => ""
def take (ks : List Str) (r : Toks) : Res (Tok × Toks) := match r with
  | t :: r => if ks.contains t.kind then .ok (t, r) else .error (.syn t.line t.col)
  | [] => .error (.syn 0 0)
def opers : List Str := ["+", "-", "*"]
def cmps : List Str := ["<", "=", ">"]
def terms : List Str := ["number", "word", "cell"]
def pTail : Nat → List Tok → List Str → Toks → Res (Ex × Toks)
  | 0, ts, os, r => .ok (⟨ts, os⟩, r)
  | n + 1, ts, os, r => if opers.contains (ahead r) then
      take opers r >>= fun a => take terms a.2 >>= fun b => pTail n (ts ++ [b.1]) (os ++ [a.1.text]) b.2
    else .ok (⟨ts, os⟩, r)
def pExpr (r : Toks) : Res (Ex × Toks) := take terms r >>= fun a => pTail r.length [a.1] [] a.2
def pPar (r : Toks) : Res (Tok × Toks) := take ["word"] r
def pItems {α : Type} (p : Toks → Res (α × Toks)) : Nat → List α → Toks → Res (List α × Toks)
  | 0, xs, r => .ok (xs, r)
  | n + 1, xs, r => if ahead r = "," then take [","] r >>= fun a => p a.2 >>= fun b => pItems p n (xs ++ [b.1]) b.2
    else .ok (xs, r)
def pList {α : Type} (p : Toks → Res (α × Toks)) (r : Toks) : Res (List α × Toks) :=
  take ["("] r >>= fun a => (if ahead a.2 ≠ ")" then p a.2 >>= fun b => pItems p r.length [b.1] b.2 else .ok ([], a.2)) >>= fun c => take [")"] c.2 >>= fun d => .ok (c.1, d.2)
def pShare (r : Toks) : Res ((Tok × Tok) × Toks) :=
  take ["share"] r >>= fun a => take ["number"] a.2 >>= fun b => take ["/"] b.2 >>= fun c => take ["number"] c.2 >>= fun d => .ok ((b.1, d.1), d.2)
def pAsg (kw : Tok) (kind : Str) (r : Toks) : Res (St × Toks) :=
  take [kind] r >>= fun a => take ["="] a.2 >>= fun b => pExpr b.2 >>= fun c => take [";"] c.2 >>= fun d => .ok (.asg kw a.1 c.1, d.2)
def pVal (kw : Tok) (r : Toks) : Res (St × Toks) := pExpr r >>= fun c => take [";"] c.2 >>= fun d => .ok (.val kw c.1, d.2)
def pIf (kw : Tok) (r : Toks) : Res (St × Toks) := pExpr r >>= fun a => take cmps a.2 >>= fun b => pExpr b.2 >>= fun c => .ok (.ite kw a.1 b.1.text c.1 [] [], c.2)
def pLoop (kw : Tok) (r : Toks) : Res (St × Toks) := pExpr r >>= fun a => .ok (.loop kw a.1 [], a.2)
def pCall (kw : Tok) (r : Toks) : Res (St × Toks) :=
  take ["word"] r >>= fun a => take ["="] a.2 >>= fun b => take ["word"] b.2 >>= fun c => pList pExpr c.2 >>= fun d => pShare d.2 >>= fun e => take ["else"] e.2 >>= fun f => pExpr f.2 >>= fun g => take [";"] g.2 >>= fun h =>
    .ok (.call kw a.1 c.1 d.1 e.1.1 e.1.2 g.1, h.2)
def stKws : List Str := ["set", "put", "emit", "return", "if", "loop", "call"]
def pHead (kw : Tok) (r : Toks) : Res (St × Toks) :=
  if kw.kind = "set" then pAsg kw "word" r else if kw.kind = "put" then pAsg kw "cell" r else if kw.kind = "emit" then pVal kw r else if kw.kind = "return" then pVal kw r
  else if kw.kind = "if" then pIf kw r else if kw.kind = "loop" then pLoop kw r else pCall kw r
def pStmt (r : Toks) : Res (St × Toks) := take stKws r >>= fun a => pHead a.1 a.2
/-- what waits for a block: the statement that it belongs to, without it -/
inductive Fr where
  | if1 (kw : Tok) (l : Ex) (c : Str) (r : Ex)
  | if2 (kw : Tok) (l : Ex) (c : Str) (r : Ex) (b1 : List St)
  | lp (kw : Tok) (e : Ex)
def pBlk : Nat → List (Fr × List St) → List St → Toks → Res (List St × Toks)
  | 0, _, _, _ => .error (.syn 0 0)
  | n + 1, stk, cur, r => if ahead r = "}" then
      take ["}"] r >>= fun a => match stk with
        | [] => .ok (cur, a.2)
        | (.if1 kw l c q, par) :: stk => if ahead a.2 = "else" then take ["else"] a.2 >>= fun b => take ["{"] b.2 >>= fun d => pBlk n ((.if2 kw l c q cur, par) :: stk) [] d.2
          else pBlk n stk (par ++ [.ite kw l c q cur []]) a.2
        | (.if2 kw l c q b1, par) :: stk => pBlk n stk (par ++ [.ite kw l c q b1 cur]) a.2
        | (.lp kw e, par) :: stk => pBlk n stk (par ++ [.loop kw e cur]) a.2
    else pStmt r >>= fun a => match a.1 with
      | .ite kw l c q _ _ => take ["{"] a.2 >>= fun b => pBlk n ((.if1 kw l c q, cur) :: stk) [] b.2
      | .loop kw e _ => take ["{"] a.2 >>= fun b => pBlk n ((.lp kw e, cur) :: stk) [] b.2
      | s => pBlk n stk (cur ++ [s]) a.2
def pBlock (r : Toks) : Res (List St × Toks) := take ["{"] r >>= fun a => pBlk r.length [] [] a.2
def pFn (r : Toks) : Res (Fn × Toks) := take ["def"] r >>= fun a => take ["word"] a.2 >>= fun b => pList pPar b.2 >>= fun c => pBlock c.2 >>= fun d => .ok (⟨b.1, c.1, d.1⟩, d.2)
def pFns : Nat → List Fn → Toks → Res (List Fn × Toks)
  | 0, fs, r => .ok (fs, r)
  | n + 1, fs, r => if ahead r ≠ "end" then pFn r >>= fun a => pFns n (fs ++ [a.1]) a.2 else .ok (fs, r)
def pProg (r : Toks) : Res (List Fn × Toks) := pFn r >>= fun a => pFns r.length [a.1] a.2
/-! ### the checks -/
def St.kw : St → Tok
  | .asg k _ _ => k
  | .val k _ => k
  | .ite k _ _ _ _ _ => k
  | .loop k _ _ => k
  | .call k _ _ _ _ _ _ => k
def St.blocks : St → List (List St)
  | .ite _ _ _ _ b1 b2 => [b1, b2]
  | .loop _ _ b => [b]
  | _ => []
def St.exprs : St → List Ex
  | .asg _ _ e => [e]
  | .val _ e => [e]
  | .ite _ l _ r _ _ => [l, r]
  | .loop _ e _ => [e]
  | .call _ _ _ as _ _ fb => as ++ [fb]
def St.assigned : St → Option Tok
  | .asg _ t _ => if t.kind = "word" then some t else none
  | .call _ t _ _ _ _ _ => some t
  | _ => none
mutual
def flat (d : Nat) : St → List (Nat × St)
  | .ite k l c r b1 b2 => (d, .ite k l c r b1 b2) :: (flats (d + 1) b1 ++ flats (d + 1) b2)
  | .loop k e b => (d, .loop k e b) :: flats (d + 1) b
  | .asg k t e => [(d, .asg k t e)]
  | .val k e => [(d, .val k e)]
  | .call k t f as p q fb => [(d, .call k t f as p q fb)]
def flats (d : Nat) : List St → List (Nat × St)
  | [] => []
  | s :: ss => flat d s ++ flats d ss
end
def guardE (b : Bool) (e : Err) : Res Unit := if b then .error e else .ok ()
def chk1 (t : Tok) (seen : List Str) (most : Nat) (why : Str) : Res (List Str) :=
  if seen.length = most then .error (.chk why t.line t.col) else if seen.contains t.text then .error (.chk "duplicate" t.line t.col) else .ok (seen ++ [t.text])
def chkAll (most : Nat) (why : Str) : List Str → List Tok → Res (List Str)
  | seen, [] => .ok seen
  | seen, t :: ts => chk1 t seen most why >>= fun s => chkAll most why s ts
def chkHeads : List Str → List Fn → Res Unit
  | _, [] => .ok ()
  | names, f :: fs => chk1 f.name names 12 "functions" >>= fun n => chkAll 4 "parameters" [] f.pars >>= fun _ => chkHeads n fs
def numOf (t : Str) : Nat := t.cps.toList.foldl (fun a c => a * 10 + (c - 48)) 0
def chkCall (ar : List (Str × Nat)) : St → Res Unit
  | .call _ _ f as p q _ => match ar.lookup f.text with
    | none => .error (.chk "undefined" f.line f.col)
    | some n => if as.length ≠ n then .error (.chk "arguments" f.line f.col)
      else if (Nat.ble 1 (numOf p.text) && Nat.ble (numOf p.text) (numOf q.text) && Nat.ble (numOf q.text) 9) = true then .ok () else .error (.chk "share" p.line p.col)
  | _ => .ok ()
def chkTerms (known : List Str) : List Tok → Res Unit
  | [] => .ok ()
  | t :: ts => if t.kind = "word" ∧ known.contains t.text = false then .error (.chk "undefined" t.line t.col) else chkTerms known ts
def chkExs (known : List Str) : List Ex → Res Unit
  | [] => .ok ()
  | e :: es => chkTerms known e.terms >>= fun _ => chkExs known es
def chkLim (s : St) (num d : Nat) : Res Unit :=
  if 60 < num then .error (.chk "statements" s.kw.line s.kw.col) else if 8 < d then .error (.chk "nesting" s.kw.line s.kw.col) else .ok ()
def chkSts (ar : List (Str × Nat)) (known : List Str) : Nat → List (Nat × St) → Res Unit
  | _, [] => .ok ()
  | n, (d, s) :: r => chkLim s (n + 1) d >>= fun _ => chkCall ar s >>= fun _ => chkExs known s.exprs >>= fun _ => chkSts ar known (n + 1) r
def locals (f : Fn) : List Str := f.pars.map (·.text) ++ (flats 1 f.body).filterMap fun q => q.2.assigned.map (·.text)
def chkFns (ar : List (Str × Nat)) : Nat → List Fn → Res Unit
  | _, [] => .ok ()
  | n, f :: fs => chkSts ar (locals f) n (flats 1 f.body) >>= fun _ => chkFns ar (n + (flats 1 f.body).length) fs
def arities (fs : List Fn) : List (Str × Nat) := fs.map fun f => (f.name.text, f.pars.length)
def mCheck (fs : List Fn) : Res Unit := chkHeads [] fs >>= fun _ => chkFns (arities fs) 0 fs
def mRead (src : List Nat) : Res (List Fn) := mLex src >>= fun ts => pProg ts >>= fun a => mCheck a.1 >>= fun _ => .ok a.1
/-! ### the canonical form -/
def sp : List Nat := [32]
def txt (s : Str) : List Nat := s.cps.toList
def wExprL : List Str → List Tok → List (List Nat)
  | o :: os, t :: ts => txt o :: txt t.text :: wExprL os ts
  | _, _ => []
def wExpr (e : Ex) : List Nat := TL.joinL [32] (match e.terms with
  | t :: ts => txt t.text :: wExprL e.ops ts
  | [] => [])
def wHead : St → List Nat
  | .asg k t e => txt k.text ++ [32] ++ txt t.text ++ [32, 61, 32] ++ wExpr e
  | .val k e => txt k.text ++ [32] ++ wExpr e
  | .ite _ l c r _ _ => [105, 102, 32] ++ wExpr l ++ [32] ++ txt c ++ [32] ++ wExpr r
  | .loop _ e _ => [108, 111, 111, 112, 32] ++ wExpr e
  | .call _ t f as p q fb => [99, 97, 108, 108, 32] ++ txt t.text ++ [32, 61, 32] ++ (txt f.text ++ [40] ++ TL.joinL [44, 32] (as.map wExpr) ++ [41]) ++ [32, 115, 104, 97, 114, 101, 32] ++ txt p.text ++ [47] ++ txt q.text ++ [32, 101, 108, 115, 101, 32] ++ wExpr fb
def ind (d : Nat) : List Nat := List.replicate (2 * d) 32
mutual
def wSt (d : Nat) : St → List (List Nat)
  | .ite k l c r b1 b2 => (ind d ++ wHead (.ite k l c r b1 b2) ++ [32, 123]) :: (wBlk (d + 1) b1 ++ ((match b2 with | [] => [] | _ => (ind d ++ [125, 32, 101, 108, 115, 101, 32, 123]) :: wBlk (d + 1) b2) ++ [ind d ++ [125]]))
  | .loop k e b => (ind d ++ wHead (.loop k e b) ++ [32, 123]) :: (wBlk (d + 1) b ++ [ind d ++ [125]])
  | .asg k t e => [ind d ++ wHead (.asg k t e) ++ [59]]
  | .val k e => [ind d ++ wHead (.val k e) ++ [59]]
  | .call k t f as p q fb => [ind d ++ wHead (.call k t f as p q fb) ++ [59]]
def wBlk (d : Nat) : List St → List (List Nat)
  | [] => []
  | s :: ss => wSt d s ++ wBlk d ss
end
def wFn (f : Fn) : List (List Nat) := ([100, 101, 102, 32] ++ txt f.name.text ++ [40] ++ TL.joinL [44, 32] (f.pars.map fun t => txt t.text) ++ [41] ++ [32, 123]) :: (wBlk 1 f.body ++ [[125]])
def wFns (fs : List Fn) : List Nat := TL.joinL [10] (fs.flatMap wFn)
def mFormat (src : List Nat) : Res (List Nat) := mRead src >>= fun fs => .ok (wFns fs)
end Fs
-- FsR
set_option Elab.async false
set_option linter.all false
set_option maxRecDepth 100000
set_option maxHeartbeats 4000000
namespace Fs
open PySem PySem.Spec PyProof.Rows L2
/-! ## what stands in the heap: G holds what is finished, H all -/
def LstR {α : Type} (R : V → α → Prop) (G : Hp) (v : V) (xs : List α) : Prop := ∃ a vs, v = .ref a ∧ G a = some (.lst vs) ∧ Paired R vs xs
def TokR (K : PySem.W.Frag) (G : Hp) (v : V) (t : Tok) : Prop := ∃ a dx, v = .ref a ∧ G a = some (.ins (He.ga K "Token") dx [("kind", .str t.kind), ("text", .str t.text), ("line", .int t.line), ("column", .int t.col)]) ∧ t.line < 1000000000 ∧ t.col < 1000000000
def StrR (v : V) (s : Str) : Prop := v = .str s
def ExR (K : PySem.W.Frag) (G : Hp) (v : V) (e : Ex) : Prop := ∃ a dx t o, v = .ref a ∧ G a = some (.ins (He.ga K "Expression") dx [("terms", t), ("operators", o)]) ∧ LstR (TokR K G) G t e.terms ∧ LstR StrR G o e.ops
def ShR (K : PySem.W.Frag) (G : Hp) (v : V) (s : Tok × Tok) : Prop := ∃ a p q, v = .ref a ∧ G a = some (.tup [p, q]) ∧ TokR K G p s.1 ∧ TokR K G q s.2
mutual
def StR (K : PySem.W.Frag) (G : Hp) : V → St → Prop
  | v, .asg k t e => ∃ a dx k' t' e', v = .ref a ∧ G a = some (.ins (He.ga K "AssignStatement") dx [("keyword", k'), ("target", t'), ("expression", e')]) ∧ TokR K G k' k ∧ TokR K G t' t ∧ ExR K G e' e
  | v, .val k e => ∃ a dx k' e', v = .ref a ∧ G a = some (.ins (He.ga K "ValueStatement") dx [("keyword", k'), ("expression", e')]) ∧ TokR K G k' k ∧ ExR K G e' e
  | v, .ite k l c r b1 b2 => ∃ a dx k' l' r' f s vf vs, v = .ref a ∧ G a = some (.ins (He.ga K "IfStatement") dx [("keyword", k'), ("left", l'), ("comparison", .str c), ("right", r'), ("first", .ref f), ("second", .ref s)]) ∧ TokR K G k' k ∧ ExR K G l' l ∧ ExR K G r' r ∧
      G f = some (.lst vf) ∧ StsR K G vf b1 ∧ G s = some (.lst vs) ∧ StsR K G vs b2
  | v, .loop k e b => ∃ a dx k' e' f vf, v = .ref a ∧ G a = some (.ins (He.ga K "LoopStatement") dx [("keyword", k'), ("times", e'), ("body", .ref f)]) ∧ TokR K G k' k ∧ ExR K G e' e ∧ G f = some (.lst vf) ∧ StsR K G vf b
  | v, .call k t f as p q fb => ∃ a dx k' t' f' as' s' fb', v = .ref a ∧ G a = some (.ins (He.ga K "CallStatement") dx [("keyword", k'), ("target", t'), ("function", f'), ("arguments", as'), ("share", s'), ("fallback", fb')]) ∧ TokR K G k' k ∧ TokR K G t' t ∧ TokR K G f' f ∧
      LstR (ExR K G) G as' as ∧ ShR K G s' (p, q) ∧ ExR K G fb' fb
def StsR (K : PySem.W.Frag) (G : Hp) : List V → List St → Prop
  | [], [] => True
  | v :: vs, s :: ss => StR K G v s ∧ StsR K G vs ss
  | _, _ => False
end
def BlkR (K : PySem.W.Frag) (G : Hp) (v : V) (ss : List St) : Prop := ∃ a vs, v = .ref a ∧ G a = some (.lst vs) ∧ StsR K G vs ss
def FnR (K : PySem.W.Frag) (G : Hp) (v : V) (f : Fn) : Prop := ∃ a dx n p b, v = .ref a ∧ G a = some (.ins (He.ga K "Function") dx [("name", n), ("parameters", p), ("body", b)]) ∧ TokR K G n f.name ∧ LstR (TokR K G) G p f.pars ∧ BlkR K G b f.body
/-! more finished: all stays -/
section
variable {K : PySem.W.Frag} {G G' : Hp}
theorem pmono {α : Type} {R R' : V → α → Prop} (h : ∀ v x, R v x → R' v x) {vs : List V} {xs : List α} (p : Paired R vs xs) : Paired R' vs xs := Paired.mapP p h
theorem LstR.mono {α : Type} {R R' : V → α → Prop} (s : Same G G') (h : ∀ v x, R v x → R' v x) {v : V} {xs : List α} (p : LstR R G v xs) : LstR R' G' v xs :=
  let ⟨a, vs, e, g, q⟩ := p
  ⟨a, vs, e, s _ _ g, pmono h q⟩
theorem TokR.mono (s : Same G G') {v : V} {t : Tok} (p : TokR K G v t) : TokR K G' v t :=
  let ⟨a, dx, e, g, l⟩ := p
  ⟨a, dx, e, s _ _ g, l⟩
theorem ExR.mono (s : Same G G') {v : V} {t : Ex} (p : ExR K G v t) : ExR K G' v t :=
  let ⟨a, dx, t', o', e, g, h1, h2⟩ := p
  ⟨a, dx, t', o', e, s _ _ g, h1.mono s fun _ _ => TokR.mono s, h2.mono s fun _ _ h => h⟩
theorem ShR.mono (s : Same G G') {v : V} {t : Tok × Tok} (p : ShR K G v t) : ShR K G' v t :=
  let ⟨a, p', q', e, g, h1, h2⟩ := p
  ⟨a, p', q', e, s _ _ g, h1.mono s, h2.mono s⟩
mutual
theorem StR.mono (s : Same G G') : ∀ {v : V} {t : St}, StR K G v t → StR K G' v t
  | v, .asg k t e, h => by
    unfold StR at h ⊢
    obtain ⟨a, dx, k', t', e', h1, h2, h3, h4, h5⟩ := h
    exact ⟨a, dx, k', t', e', h1, s _ _ h2, h3.mono s, h4.mono s, h5.mono s⟩
  | v, .val k e, h => by
    unfold StR at h ⊢
    obtain ⟨a, dx, k', e', h1, h2, h3, h5⟩ := h
    exact ⟨a, dx, k', e', h1, s _ _ h2, h3.mono s, h5.mono s⟩
  | v, .ite k l c r b1 b2, h => by
    unfold StR at h ⊢
    obtain ⟨a, dx, k', l', r', f, g, vf, vs, h1, h2, h3, h4, h5, h6, h7, h8, h9⟩ := h
    exact ⟨a, dx, k', l', r', f, g, vf, vs, h1, s _ _ h2, h3.mono s, h4.mono s, h5.mono s, s _ _ h6, StsR.mono s h7, s _ _ h8, StsR.mono s h9⟩
  | v, .loop k e b, h => by
    unfold StR at h ⊢
    obtain ⟨a, dx, k', e', f, vf, h1, h2, h3, h4, h5, h6⟩ := h
    exact ⟨a, dx, k', e', f, vf, h1, s _ _ h2, h3.mono s, h4.mono s, s _ _ h5, StsR.mono s h6⟩
  | v, .call k t f as p q fb, h => by
    unfold StR at h ⊢
    obtain ⟨a, dx, k', t', f', as', s', fb', h1, h2, h3, h4, h5, h6, h7, h8⟩ := h
    exact ⟨a, dx, k', t', f', as', s', fb', h1, s _ _ h2, h3.mono s, h4.mono s, h5.mono s, h6.mono s fun _ _ => ExR.mono s, h7.mono s, h8.mono s⟩
theorem StsR.mono (s : Same G G') : ∀ {vs : List V} {ts : List St}, StsR K G vs ts → StsR K G' vs ts
  | [], [], _ => by unfold StsR; trivial
  | v :: vs, t :: ts, h => by
    unfold StsR at h ⊢
    exact ⟨StR.mono s h.1, StsR.mono s h.2⟩
  | [], _ :: _, h => by unfold StsR at h; exact h.elim
  | _ :: _, [], h => by unfold StsR at h; exact h.elim
end
theorem StsR.len : ∀ {vs : List V} {ts : List St}, StsR K G vs ts → vs.length = ts.length
  | [], [], _ => rfl
  | v :: vs, t :: ts, h => by
    unfold StsR at h
    exact congrArg Nat.succ (StsR.len h.2)
  | [], _ :: _, h => by unfold StsR at h; exact h.elim
  | _ :: _, [], h => by unfold StsR at h; exact h.elim
theorem StsR.snoc : ∀ {vs : List V} {ts : List St} {v : V} {t : St}, StsR K G vs ts → StR K G v t → StsR K G (vs ++ [v]) (ts ++ [t])
  | [], [], v, t, _, h => by
    show StsR K G [v] [t]
    unfold StsR
    exact ⟨h, by unfold StsR; trivial⟩
  | v :: vs, t :: ts, _, _, h, q => by
    unfold StsR at h
    show StsR K G (v :: (vs ++ _)) (t :: (ts ++ _))
    unfold StsR
    exact ⟨h.1, StsR.snoc h.2 q⟩
  | [], _ :: _, _, _, h, _ => by unfold StsR at h; exact h.elim
  | _ :: _, [], _, _, h, _ => by unfold StsR at h; exact h.elim
theorem paired_snoc {α β : Type} {R : α → β → Prop} : ∀ {vs : List α} {ts : List β} {v : α} {t : β}, Paired R vs ts → R v t → Paired R (vs ++ [v]) (ts ++ [t])
  | _, _, _, _, .nil, h => .cons h .nil
  | _, _, _, _, .cons r p, h => .cons r (paired_snoc p h)
theorem paired_get {α β : Type} {R : α → β → Prop} : ∀ {vs : List α} {ts : List β} {i : Nat} {t : β}, Paired R vs ts → ts[i]? = some t → ∃ v, vs[i]? = some v ∧ R v t
  | _, _, _, _, .nil, h => by simp at h
  | _, _, 0, t, .cons r p, h => by simp at h; subst h; exact ⟨_, rfl, r⟩
  | _, _, i + 1, t, .cons r p, h => by
    obtain ⟨v, h1, h2⟩ := paired_get (i := i) (t := t) p (by simpa using h)
    exact ⟨v, by simpa using h1, h2⟩
theorem paired_app {α β : Type} {R : α → β → Prop} : ∀ {vs ws : List α} {ts us : List β}, Paired R vs ts → Paired R ws us → Paired R (vs ++ ws) (ts ++ us)
  | _, _, _, _, .nil, q => q
  | _, _, _, _, .cons r p, q => .cons r (paired_app p q)
theorem BlkR.mono (s : Same G G') {v : V} {ss : List St} (h : BlkR K G v ss) : BlkR K G' v ss :=
  let ⟨a, vs, e, g, q⟩ := h
  ⟨a, vs, e, s _ _ g, q.mono s⟩
theorem FnR.mono (s : Same G G') {v : V} {f : Fn} (h : FnR K G v f) : FnR K G' v f :=
  let ⟨a, dx, n, p, b, e, g, h1, h2, h3⟩ := h
  ⟨a, dx, n, p, b, e, s _ _ g, h1.mono s, h2.mono s fun _ _ => TokR.mono s, h3.mono s⟩
end
/-! ## steps of the heap: what was known stays but at c; the finished part grows by new things alone -/
def SameBut (c : Addr) (H H' : Hp) : Prop := ∀ b o, H b = some o → b ≠ c → H' b = some o
structure Ext (G G' H : Hp) : Prop where
  le : Same G G'
  new : ∀ a o, H a = some o → G' a = G a
theorem SameBut.refl {c : Addr} {H : Hp} : SameBut c H H := fun _ _ h _ => h
theorem SameBut.trans {c : Addr} {H H1 H2 : Hp} (a : SameBut c H H1) (b : SameBut c H1 H2) : SameBut c H H2 := fun x o h n => b x o (a x o h n) n
theorem but_of {c : Addr} {H H1 : Hp} (a : Same H H1) : SameBut c H H1 := fun x o h _ => a x o h
theorem Ext.refl {G H : Hp} : Ext G G H := ⟨Same.refl G, fun _ _ _ => rfl⟩
/-- c stands in H' too -/
theorem Ext.trans {c : Addr} {G G1 G2 H H1 : Hp} (a : Ext G G1 H) (b : Ext G1 G2 H1) (s : SameBut c H H1) (hc : ∃ o, H1 c = some o) : Ext G G2 H :=
  ⟨a.le.trans b.le, fun x o h => by
    by_cases e : x = c
    · obtain ⟨o', ho⟩ := hc
      rw [b.new x o' (by rw [e]; exact ho), a.new x o h]
    · rw [b.new x o (s x o h e), a.new x o h]⟩
theorem Ext.trans0 {G G1 G2 H H1 : Hp} (a : Ext G G1 H) (b : Ext G1 G2 H1) (s : Same H H1) : Ext G G2 H :=
  ⟨a.le.trans b.le, fun x o h => by rw [b.new x o (s x o h), a.new x o h]⟩
/-- a new object is finished -/
theorem Ext.add {G H : Hp} {p : Addr} {o : HO} (h : H p = none) (hG : Same G H) : Ext G (upd G p o) H :=
  ⟨fun b u e => by
    rw [upd_ne (ne_of_none (hG _ _ e) h)]
    exact e, fun a u e => upd_ne (ne_of_none e h)⟩
theorem same_upd {H : Hp} {p : Addr} {o : HO} (h : H p = none) : Same H (upd H p o) := fun b u e => by
  rw [upd_ne (ne_of_none e h)]
  exact e
/-- what is not finished may change -/
theorem same_mut {G H : Hp} {p : Addr} {o : HO} (hG : Same G H) (h : G p = none) : Same G (upd H p o) := fun b u e => by
  rw [upd_ne (ne_of_none e h)]
  exact hG b u e
theorem same_fin {G H : Hp} {p : Addr} {o : HO} (hG : Same G H) (h : H p = some o) : Same (upd G p o) H := fun b u e => by
  by_cases hb : b = p
  · rw [hb, upd_same] at e
    cases e
    rw [hb]
    exact h
  · rw [upd_ne hb] at e
    exact hG b u e
/-! ## errors -/
def xdf : Err → List (Str × V)
  | .syn l c => [("column", .int c), ("line", .int l)]
  | .chk w l c => [("column", .int c), ("line", .int l), ("reason", .str w)]
def xcl (K : PySem.W.Frag) : Err → Addr
  | .syn _ _ => He.ga K "SyntaxFault"
  | .chk _ _ _ => He.ga K "CheckFault"
/-- the error e leaves: its own dict is new; what was known stays, but at c -/
def ErrC (K : PySem.W.Frag) (c : Addr) (H : Hp) (E : XK) (e : Err) : Prop := ∀ d H', SameBut c H H' → H' d = some (.xd (xdf e)) → E (.ref (xcl K e)) (some d) H'
def Err0 (K : PySem.W.Frag) (H : Hp) (E : XK) (e : Err) : Prop := ∀ d H', Same H H' → H' d = some (.xd (xdf e)) → E (.ref (xcl K e)) (some d) H'
theorem ErrC.later {K : PySem.W.Frag} {c : Addr} {H H1 : Hp} {E : XK} {e : Err} (h : ErrC K c H E e) (s : SameBut c H H1) : ErrC K c H1 E e := fun d H' s' x => h d H' (s.trans s') x
theorem Err0.later {K : PySem.W.Frag} {H H1 : Hp} {E : XK} {e : Err} (h : Err0 K H E e) (s : Same H H1) : Err0 K H1 E e := fun d H' s' x => h d H' (s.trans s') x
/-! ## the place in the tokens -/
def EndOk (r : Toks) : Prop := ∃ i z, r = i ++ [z] ∧ z.kind = ("end" : Str)
structure CurAt (K : PySem.W.Frag) (H G : Hp) (c : Addr) (r : Toks) : Prop where
  at_ : ∃ dx tl vs pre, H c = some (.ins (He.ga K "Cursor") dx [("tokens", .ref tl), ("place", .int ((pre : List Tok).length : Int))]) ∧ G tl = some (.lst vs) ∧ Paired (TokR K G) vs (pre ++ r) ∧ (pre ++ r).length ≤ 1000000
  nG : G c = none
  eo : EndOk r
theorem CurAt.here {K : PySem.W.Frag} {H G : Hp} {c : Addr} {r : Toks} (h : CurAt K H G c r) : ∃ o, H c = some o := let ⟨_, _, _, _, e, _⟩ := h.at_; ⟨_, e⟩
/-- what a parser with the cursor at c leaves -/
def Post {α : Type} (K : PySem.W.Frag) (H G : Hp) (c : Addr) (R : Hp → Hp → V → α → Prop) (Q : VK) (E : XK) (m : Res (α × Toks)) : Prop := match m with
  | .ok (x, r) => ∀ v H' G', SameBut c H H' → Ext G G' H → Same G' H' → CurAt K H' G' c r → R H' G' v x → Q v H'
  | .error e => ErrC K c H E e
theorem Post.later {α : Type} {K : PySem.W.Frag} {H G H1 G1 : Hp} {c : Addr} {R : Hp → Hp → V → α → Prop} {Q : VK} {E : XK} {m : Res (α × Toks)} (h : Post K H G c R Q E m) (s : SameBut c H H1) (x : Ext G G1 H) (hc : ∃ o, H1 c = some o) : Post K H1 G1 c R Q E m := by
  cases m with
  | error e => exact ErrC.later (show ErrC K c H E e from h) s
  | ok p =>
    obtain ⟨y, r⟩ := p
    intro v H' G' s' x' i c' q
    exact (show ∀ v H' G', SameBut c H H' → Ext G G' H → Same G' H' → CurAt K H' G' c r → R H' G' v y → Q v H' from h) v H' G' (s.trans s') (x.trans x' s hc) i c' q
/-- one parser behind another -/
theorem Post.seq {α β : Type} {K : PySem.W.Frag} {H G : Hp} {c : Addr} {R : Hp → Hp → V → β → Prop} {R1 : Hp → Hp → V → α → Prop} {Q Q1 : VK} {E : XK} {m : Res (α × Toks)} {f : α × Toks → Res (β × Toks)} (h : Post K H G c R Q E (m >>= f))
    (k : ∀ x r v H' G', m = .ok (x, r) → SameBut c H H' → Ext G G' H → Same G' H' → CurAt K H' G' c r → R1 H' G' v x → Post K H' G' c R Q E (f (x, r)) → Q1 v H') : Post K H G c R1 Q1 E m := by
  cases m with
  | error e => exact h
  | ok p =>
    obtain ⟨y, r⟩ := p
    intro v H' G' s' x' i c' q
    exact k y r v H' G' rfl s' x' i c' q (Post.later (show Post K H G c R Q E (f (y, r)) from h) s' x' c'.here)
theorem Post.done {α : Type} {K : PySem.W.Frag} {H G : Hp} {c : Addr} {R : Hp → Hp → V → α → Prop} {Q : VK} {E : XK} {x : α} {r : Toks} (h : Post K H G c R Q E (.ok (x, r))) {v : V} {H' G' : Hp} (s : SameBut c H H') (e : Ext G G' H) (i : Same G' H') (cu : CurAt K H' G' c r) (q : R H' G' v x) : Q v H' := h v H' G' s e i cu q
/-- a parser's promise -/
def spCur {α : Type} (K : PySem.W.Frag) (m : Toks → Res (α × Toks)) (R : Hp → V → α → Prop) : Sp := fun vs H Q E => ∃ c G r, vs = [.ref c] ∧ Same G H ∧ CurAt K H G c r ∧ Post K H G c (fun _ => R) Q E (m r)
/-- a parser behind a keyword -/
def spKw {α : Type} (K : PySem.W.Frag) (m : Tok → Toks → Res (α × Toks)) (R : Hp → V → α → Prop) : Sp := fun vs H Q E => ∃ c G r v t, vs = [.ref c, v] ∧ Same G H ∧ CurAt K H G c r ∧ TokR K G v t ∧ Post K H G c (fun _ => R) Q E (m t r)
theorem take_end {ks : List Str} {r : Toks} {t : Tok} {r' : Toks} (h : take ks r = .ok (t, r')) (hk : ks.contains "end" = false) (e : EndOk r) : EndOk r' ∧ r = t :: r' ∧ ks.contains t.kind = true := by
  cases r with
  | nil => cases h
  | cons x l =>
    have h' : (if ks.contains x.kind then (Except.ok (x, l) : Res (Tok × Toks)) else .error (.syn x.line x.col)) = .ok (t, r') := h
    by_cases hx : ks.contains x.kind = true
    · rw [if_pos hx] at h'
      cases h'
      refine ⟨?_, rfl, hx⟩
      obtain ⟨i, z, e1, e2⟩ := e
      cases i with
      | nil =>
        cases e1
        rw [e2, hk] at hx
        cases hx
      | cons y i =>
        cases e1
        exact ⟨i, z, rfl, e2⟩
    · rw [if_neg hx] at h'
      cases h'
end Fs
-- FsC
set_option Elab.async false
set_option linter.all false
set_option maxRecDepth 100000
set_option maxHeartbeats 4000000
namespace Fs
open PySem PySem.Spec PyProof.Rows L2
/-! ## plain records -/
def spRec (C : Addr) (n : Nat) (flds : List V → List (Str × V)) : Sp := fun vs H Q _ => ∃ p dx ws, vs = .ref p :: ws ∧ ws.length = n ∧ H p = some (.ins C dx []) ∧ Q .non (upd H p (.ins C dx (flds ws)))
structure PromR (P : Program) (w : World) (K : PySem.W.Frag) (mg : Str → Option Value) (base : Heap) (x : Str) (k n : Nat) (flds : List V → List (Str × V)) : Prop where
  g : mg x = some (.ref (He.ga K x))
  mkr : Mk K (He.ga K x) (He.ma K (He.ga K x) "__init__")
  ex : ∃ (fd : FuncData) (ps : List Str), Binds K fd ps [] ∧ FnOk P w K mg base (L2.CX P w) k (He.ma K (He.ga K x) "__init__") fd ps (spRec (He.ga K x) n flds)
/-- x(e, ..): a new instance with its fields -/
def tRec (C : Addr) (n : Nat) (flds : List V → List (Str × V)) (t : TA) : TE := fun σ H Q => t σ H fun vs H1 => vs.length = n ∧ ∀ p dx H2, H1 p = none → Same H1 H2 → H2 p = some (.ins C dx (flds vs)) → Q (.ref p) H2
section
variable {X : Cx} {k n : Nat} {flds : List V → List (Str × V)} {E : XK} {e : Expr} {es : List Expr} {x : Str} {pos p : Pos} {t : TA}
theorem pe_rec (F : PromR X.prog X.w X.K X.mg X.base x k n flds) (hr : Room (k + 1) X.A) (hx : Passes (L2.CX X.prog X.w) X E) (ha : PA X (e :: es) t) (hg : Gl X x := by rfl)
    (mono : ∀ σ H Q Q', (∀ vs H1, Q vs H1 → Q' vs H1) → t σ H Q → t σ H Q')
    (hdb : (x == ("__debug__" : Str)) = false := by decide) (he : starEach (e :: es) X.env = (false, eval e X.env) :: starEach es X.env := by rfl) (hpl : (backTo pos (starEach es X.env)).any (·.1) = false := by rfl) :
    PE X (.Call (.Name x p) (e :: es) [] pos) (tRec (He.ga X.K x) n flds t) := by
  obtain ⟨g, mkr, fd, ps, h2, h3⟩ := F
  refine ⟨fun pins s σ H Q I h => (pe_make mkr h3 hr hg g h2 .nil hx ha hdb he hpl).run pins s σ H Q I ?_⟩
  refine mono σ H _ _ (fun vs H1 q => ?_) h
  obtain ⟨hl, q⟩ := q
  intro a dx na ndx ne
  refine ⟨a, dx, vs, by rw [List.append_nil], hl, upd_same, rfl, q a dx _ na ?_ upd_same⟩
  intro b u hb
  rw [upd_upd, upd_ne (ne_of_none hb na), upd_ne (ne_of_none hb ndx)]
  exact hb
theorem mono_nil : ∀ σ H (Q Q' : List V → Hp → Prop), (∀ vs H1, Q vs H1 → Q' vs H1) → tNil σ H Q → tNil σ H Q' := fun _ _ _ _ h q => h _ _ q
end
section
variable {P : Program} {w : World} {K : PySem.W.Frag} {mg : Str → Option Value} {base h : Heap}
theorem pr_Token (T : Txt K w mg h) : PromR P w K mg base "Token" 1 4 (fun ws => match ws with | [a, b, c, d] => [("kind", a), ("text", b), ("line", c), ("column", d)] | _ => []) := by
  obtain ⟨fd, F⟩ := f_Token_init T
  refine ⟨g_Token T, mk_Token T, fd, ["self", "kind", "text", "line", "column"], F.bindsN fun _ _ _ _ _ _ us hl => match us, hl with | [_, _, _, _, _], _ => rfl, ?_⟩
  refine F.ok sc_Token_init (fun vs H Q E h => ?_) (fun cdv A outer s H vs Q E hr h => ?_)
  · obtain ⟨p, dx, ws, rfl, hl, _⟩ := h
    simp [hl]
  · obtain ⟨p, dx, ws, rfl, hl, hp, k⟩ := h
    obtain ⟨a, b, c, d, rfl⟩ : ∃ a b c d, ws = [a, b, c, d] := by
      match ws, hl with
      | [a, b, c, d], _ => exact ⟨a, b, c, d, rfl⟩
    refine ⟨_, pss_cons (ps_fld (pv 0) (pv 1) rfl) (pss_cons (ps_fld (pv 0) (pv 2) rfl) (pss_cons (ps_fld (pv 0) (pv 3) rfl) (pss_one (ps_fld (pv 0) (pv 4) rfl)))), ?_⟩
    refine ⟨_, rfl, _, rfl, p, _, dx, _, rfl, hp, c_Token T, na_Token_kind T, (of_decide_eq_true (by kernel_rfl)), _, rfl, _, rfl, p, _, dx, _, rfl, upd_same, c_Token T, na_Token_text T, (of_decide_eq_true (by kernel_rfl)), _, rfl, _, rfl, p, _, dx, _, rfl, upd_same, c_Token T, na_Token_line T, (of_decide_eq_true (by kernel_rfl)), _, rfl, _, rfl, p, _, dx, _, rfl, upd_same, c_Token T, na_Token_column T, (of_decide_eq_true (by kernel_rfl)), ?_⟩
    rw [upd_upd, upd_upd, upd_upd]
    exact k

theorem pr_Expression (T : Txt K w mg h) : PromR P w K mg base "Expression" 1 2 (fun ws => match ws with | [a, b] => [("terms", a), ("operators", b)] | _ => []) := by
  obtain ⟨fd, F⟩ := f_Expression_init T
  refine ⟨g_Expression T, mk_Expression T, fd, ["self", "terms", "operators"], F.bindsN fun _ _ _ _ _ _ us hl => match us, hl with | [_, _, _], _ => rfl, ?_⟩
  refine F.ok sc_Expression_init (fun vs H Q E h => ?_) (fun cdv A outer s H vs Q E hr h => ?_)
  · obtain ⟨p, dx, ws, rfl, hl, _⟩ := h
    simp [hl]
  · obtain ⟨p, dx, ws, rfl, hl, hp, k⟩ := h
    obtain ⟨a, b, rfl⟩ : ∃ a b, ws = [a, b] := by
      match ws, hl with
      | [a, b], _ => exact ⟨a, b, rfl⟩
    refine ⟨_, pss_cons (ps_fld (pv 0) (pv 1) rfl) (pss_one (ps_fld (pv 0) (pv 2) rfl)), ?_⟩
    refine ⟨_, rfl, _, rfl, p, _, dx, _, rfl, hp, c_Expression T, na_Expression_terms T, (of_decide_eq_true (by kernel_rfl)), _, rfl, _, rfl, p, _, dx, _, rfl, upd_same, c_Expression T, na_Expression_operators T, (of_decide_eq_true (by kernel_rfl)), ?_⟩
    rw [upd_upd]
    exact k

theorem pr_Function (T : Txt K w mg h) : PromR P w K mg base "Function" 1 3 (fun ws => match ws with | [a, b, c] => [("name", a), ("parameters", b), ("body", c)] | _ => []) := by
  obtain ⟨fd, F⟩ := f_Function_init T
  refine ⟨g_Function T, mk_Function T, fd, ["self", "name", "parameters", "body"], F.bindsN fun _ _ _ _ _ _ us hl => match us, hl with | [_, _, _, _], _ => rfl, ?_⟩
  refine F.ok sc_Function_init (fun vs H Q E h => ?_) (fun cdv A outer s H vs Q E hr h => ?_)
  · obtain ⟨p, dx, ws, rfl, hl, _⟩ := h
    simp [hl]
  · obtain ⟨p, dx, ws, rfl, hl, hp, k⟩ := h
    obtain ⟨a, b, c, rfl⟩ : ∃ a b c, ws = [a, b, c] := by
      match ws, hl with
      | [a, b, c], _ => exact ⟨a, b, c, rfl⟩
    refine ⟨_, pss_cons (ps_fld (pv 0) (pv 1) rfl) (pss_cons (ps_fld (pv 0) (pv 2) rfl) (pss_one (ps_fld (pv 0) (pv 3) rfl))), ?_⟩
    refine ⟨_, rfl, _, rfl, p, _, dx, _, rfl, hp, c_Function T, na_Function_name T, (of_decide_eq_true (by kernel_rfl)), _, rfl, _, rfl, p, _, dx, _, rfl, upd_same, c_Function T, na_Function_parameters T, (of_decide_eq_true (by kernel_rfl)), _, rfl, _, rfl, p, _, dx, _, rfl, upd_same, c_Function T, na_Function_body T, (of_decide_eq_true (by kernel_rfl)), ?_⟩
    rw [upd_upd, upd_upd]
    exact k

theorem pr_Cursor (T : Txt K w mg h) : PromR P w K mg base "Cursor" 1 1 (fun ws => match ws with | [a] => [("tokens", a), ("place", .int 0)] | _ => []) := by
  obtain ⟨fd, F⟩ := f_Cursor_init T
  refine ⟨g_Cursor T, mk_Cursor T, fd, ["self", "tokens"], F.bindsN fun _ _ _ _ _ _ us hl => match us, hl with | [_, _], _ => rfl, ?_⟩
  refine F.ok sc_Cursor_init (fun vs H Q E h => ?_) (fun cdv A outer s H vs Q E hr h => ?_)
  · obtain ⟨p, dx, ws, rfl, hl, _⟩ := h
    simp [hl]
  · obtain ⟨p, dx, ws, rfl, hl, hp, k⟩ := h
    obtain ⟨a, rfl⟩ : ∃ a, ws = [a] := by
      match ws, hl with
      | [a], _ => exact ⟨a, rfl⟩
    refine ⟨_, pss_cons (ps_fld (pv 0) (pv 1) rfl) (pss_one (ps_fld (pv 0) pe_int rfl)), ?_⟩
    refine ⟨_, rfl, _, rfl, p, _, dx, _, rfl, hp, c_Cursor T, na_Cursor_tokens T, (of_decide_eq_true (by kernel_rfl)), _, rfl, p, _, dx, _, rfl, upd_same, c_Cursor T, na_Cursor_place T, (of_decide_eq_true (by kernel_rfl)), ?_⟩
    rw [upd_upd]
    exact k

/-- Statement.__init__ on an instance of any of the classes -/
def spBase (K : PySem.W.Frag) : Sp := fun vs H Q _ => ∃ p C dx kw, vs = [.ref p, kw] ∧ H p = some (.ins C dx []) ∧ Cls K C ∧ NoAttr K C "keyword" ∧ Q .non (upd H p (.ins C dx [("keyword", kw)]))
theorem pi_Statement (T : Txt K w mg h) : PySem.W.keepIn K (.ref (He.ma K (He.ga K "Statement") "__init__")) = true ∧ (∃ fd, Binds K fd ["self", "keyword"] [] ∧ FnOk P w K mg base (L2.CX P w) 1 (He.ma K (He.ga K "Statement") "__init__") fd ["self", "keyword"] (spBase K)) := by
  obtain ⟨fd, F⟩ := f_Statement_init T
  refine ⟨F.kp, fd, F.bindsN fun _ _ _ _ _ _ us hl => match us, hl with | [_, _], _ => rfl, ?_⟩
  refine F.ok sc_Statement_init (fun vs H Q E h => ?_) (fun cdv A outer s H vs Q E hr h => ?_)
  · obtain ⟨p, C, dx, kw, rfl, _⟩ := h
    rfl
  · obtain ⟨p, C, dx, kw, rfl, hp, cl, na, k⟩ := h
    exact ⟨_, pss_one (ps_fld (pv 0) (pv 1) rfl), _, rfl, _, rfl, p, C, dx, _, rfl, hp, cl, na, (of_decide_eq_true (by kernel_rfl)), k⟩

theorem pr_AssignStatement (T : Txt K w mg h) : PromR P w K mg base "AssignStatement" 2 3 (fun ws => match ws with | [a, b, c] => [("keyword", a), ("target", b), ("expression", c)] | _ => []) := by
  obtain ⟨fd, F⟩ := f_AssignStatement_init T
  obtain ⟨bk, bfd, bb, bF⟩ := pi_Statement (P := P) (w := w) (base := base) T
  refine ⟨g_AssignStatement T, mk_AssignStatement T, fd, ["self", "keyword", "target", "expression"], F.bindsN fun _ _ _ _ _ _ us hl => match us, hl with | [_, _, _, _], _ => rfl, ?_⟩
  refine F.ok sc_AssignStatement_init (fun vs H Q E h => ?_) (fun cdv A outer s H vs Q E hr h => ?_)
  · obtain ⟨p, dx, ws, rfl, hl, _⟩ := h
    simp [hl]
  · obtain ⟨p, dx, ws, rfl, hl, hp, k⟩ := h
    obtain ⟨a, b, c, rfl⟩ : ∃ a b c, ws = [a, b, c] := by
      match ws, hl with
      | [a, b, c], _ => exact ⟨a, b, c, rfl⟩
    refine ⟨_, pss_cons (ps_expr (pe_cfun rfl (g_Statement T) (cf_Statement T) bk bF hr bb .nil (passW (takes_of rfl rfl rfl rfl) fun _ _ _ _ z => z) (pa_cons (pv 0) (pa_cons (pv 1) pa_nil)))) (pss_cons (ps_fld (pv 0) (pv 2) rfl) (pss_one (ps_fld (pv 0) (pv 3) rfl))), ?_⟩
    refine ⟨_, rfl, _, rfl, p, _, dx, _, rfl, hp, c_AssignStatement T, na_AssignStatement_keyword T, ?_⟩
    refine ⟨_, rfl, _, rfl, p, _, dx, _, rfl, upd_same, c_AssignStatement T, na_AssignStatement_target T, (of_decide_eq_true (by kernel_rfl)), _, rfl, _, rfl, p, _, dx, _, rfl, upd_same, c_AssignStatement T, na_AssignStatement_expression T, (of_decide_eq_true (by kernel_rfl)), ?_⟩
    rw [upd_upd, upd_upd]
    exact k

theorem pr_ValueStatement (T : Txt K w mg h) : PromR P w K mg base "ValueStatement" 2 2 (fun ws => match ws with | [a, b] => [("keyword", a), ("expression", b)] | _ => []) := by
  obtain ⟨fd, F⟩ := f_ValueStatement_init T
  obtain ⟨bk, bfd, bb, bF⟩ := pi_Statement (P := P) (w := w) (base := base) T
  refine ⟨g_ValueStatement T, mk_ValueStatement T, fd, ["self", "keyword", "expression"], F.bindsN fun _ _ _ _ _ _ us hl => match us, hl with | [_, _, _], _ => rfl, ?_⟩
  refine F.ok sc_ValueStatement_init (fun vs H Q E h => ?_) (fun cdv A outer s H vs Q E hr h => ?_)
  · obtain ⟨p, dx, ws, rfl, hl, _⟩ := h
    simp [hl]
  · obtain ⟨p, dx, ws, rfl, hl, hp, k⟩ := h
    obtain ⟨a, b, rfl⟩ : ∃ a b, ws = [a, b] := by
      match ws, hl with
      | [a, b], _ => exact ⟨a, b, rfl⟩
    refine ⟨_, pss_cons (ps_expr (pe_cfun rfl (g_Statement T) (cf_Statement T) bk bF hr bb .nil (passW (takes_of rfl rfl rfl rfl) fun _ _ _ _ z => z) (pa_cons (pv 0) (pa_cons (pv 1) pa_nil)))) (pss_one (ps_fld (pv 0) (pv 2) rfl)), ?_⟩
    refine ⟨_, rfl, _, rfl, p, _, dx, _, rfl, hp, c_ValueStatement T, na_ValueStatement_keyword T, ?_⟩
    refine ⟨_, rfl, _, rfl, p, _, dx, _, rfl, upd_same, c_ValueStatement T, na_ValueStatement_expression T, (of_decide_eq_true (by kernel_rfl)), ?_⟩
    rw [upd_upd]
    exact k

theorem pr_CallStatement (T : Txt K w mg h) : PromR P w K mg base "CallStatement" 2 6 (fun ws => match ws with | [a, b, c, d, e, f] => [("keyword", a), ("target", b), ("function", c), ("arguments", d), ("share", e), ("fallback", f)] | _ => []) := by
  obtain ⟨fd, F⟩ := f_CallStatement_init T
  obtain ⟨bk, bfd, bb, bF⟩ := pi_Statement (P := P) (w := w) (base := base) T
  refine ⟨g_CallStatement T, mk_CallStatement T, fd, ["self", "keyword", "target", "function", "arguments", "share", "fallback"], F.bindsN fun _ _ _ _ _ _ us hl => match us, hl with | [_, _, _, _, _, _, _], _ => rfl, ?_⟩
  refine F.ok sc_CallStatement_init (fun vs H Q E h => ?_) (fun cdv A outer s H vs Q E hr h => ?_)
  · obtain ⟨p, dx, ws, rfl, hl, _⟩ := h
    simp [hl]
  · obtain ⟨p, dx, ws, rfl, hl, hp, k⟩ := h
    obtain ⟨a, b, c, d, e, f, rfl⟩ : ∃ a b c d e f, ws = [a, b, c, d, e, f] := by
      match ws, hl with
      | [a, b, c, d, e, f], _ => exact ⟨a, b, c, d, e, f, rfl⟩
    refine ⟨_, pss_cons (ps_expr (pe_cfun rfl (g_Statement T) (cf_Statement T) bk bF hr bb .nil (passW (takes_of rfl rfl rfl rfl) fun _ _ _ _ z => z) (pa_cons (pv 0) (pa_cons (pv 1) pa_nil)))) (pss_cons (ps_fld (pv 0) (pv 2) rfl) (pss_cons (ps_fld (pv 0) (pv 3) rfl) (pss_cons (ps_fld (pv 0) (pv 4) rfl) (pss_cons (ps_fld (pv 0) (pv 5) rfl) (pss_one (ps_fld (pv 0) (pv 6) rfl)))))), ?_⟩
    refine ⟨_, rfl, _, rfl, p, _, dx, _, rfl, hp, c_CallStatement T, na_CallStatement_keyword T, ?_⟩
    refine ⟨_, rfl, _, rfl, p, _, dx, _, rfl, upd_same, c_CallStatement T, na_CallStatement_target T, (of_decide_eq_true (by kernel_rfl)), _, rfl, _, rfl, p, _, dx, _, rfl, upd_same, c_CallStatement T, na_CallStatement_function T, (of_decide_eq_true (by kernel_rfl)), _, rfl, _, rfl, p, _, dx, _, rfl, upd_same, c_CallStatement T, na_CallStatement_arguments T, (of_decide_eq_true (by kernel_rfl)), _, rfl, _, rfl, p, _, dx, _, rfl, upd_same, c_CallStatement T, na_CallStatement_share T, (of_decide_eq_true (by kernel_rfl)), _, rfl, _, rfl, p, _, dx, _, rfl, upd_same, c_CallStatement T, na_CallStatement_fallback T, (of_decide_eq_true (by kernel_rfl)), ?_⟩
    rw [upd_upd, upd_upd, upd_upd, upd_upd, upd_upd]
    exact k

end
end Fs
-- FsD
set_option Elab.async false
set_option linter.all false
set_option maxRecDepth 100000
set_option maxHeartbeats 4000000
namespace Fs
open PySem PySem.Spec PyProof.Rows L2
section
variable {P : Program} {w : World} {K : PySem.W.Frag} {mg : Str → Option Value} {base h : Heap}
/-! ## if and loop: their blocks are new lists -/
def ifF (a b c d : V) (f s : Addr) : List (Str × V) := [("keyword", a), ("left", b), ("comparison", c), ("right", d), ("first", .ref f), ("second", .ref s)]
def spIf (C : Addr) : Sp := fun vs H Q _ => ∃ p dx a b c d, vs = [.ref p, a, b, c, d] ∧ H p = some (.ins C dx []) ∧
  ∀ f s H', H f = none → H s = none → f ≠ s → H' f = some (.lst []) → H' s = some (.lst []) → H' p = some (.ins C dx (ifF a b c d f s)) → (∀ b o, H b = some o → b ≠ p → H' b = some o) → Q .non H'
def lpF (a b : V) (f : Addr) : List (Str × V) := [("keyword", a), ("times", b), ("body", .ref f)]
def spLp (C : Addr) : Sp := fun vs H Q _ => ∃ p dx a b, vs = [.ref p, a, b] ∧ H p = some (.ins C dx []) ∧
  ∀ f H', H f = none → H' f = some (.lst []) → H' p = some (.ins C dx (lpF a b f)) → (∀ b o, H b = some o → b ≠ p → H' b = some o) → Q .non H'
structure PromI (P : Program) (w : World) (K : PySem.W.Frag) (mg : Str → Option Value) (base : Heap) (x : Str) (k : Nat) (sp : Sp) : Prop where
  g : mg x = some (.ref (He.ga K x))
  mkr : Mk K (He.ga K x) (He.ma K (He.ga K x) "__init__")
  ex : ∃ (fd : FuncData) (ps : List Str), Binds K fd ps [] ∧ FnOk P w K mg base (L2.CX P w) k (He.ma K (He.ga K x) "__init__") fd ps sp
theorem pi_If (T : Txt K w mg h) : PromI P w K mg base "IfStatement" 2 (spIf (He.ga K "IfStatement")) := by
  obtain ⟨fd, F⟩ := f_IfStatement_init T
  obtain ⟨bk, bfd, bb, bF⟩ := pi_Statement (P := P) (w := w) (base := base) T
  refine ⟨g_IfStatement T, mk_IfStatement T, fd, ["self", "keyword", "left", "comparison", "right"], F.bindsN fun _ _ _ _ _ _ us hl => match us, hl with | [_, _, _, _, _], _ => rfl, ?_⟩
  refine F.ok sc_IfStatement_init (fun vs H Q E h => ?_) (fun cdv A outer s H vs Q E hr h => ?_)
  · obtain ⟨p, dx, a, b, c, d, rfl, _⟩ := h
    rfl
  · obtain ⟨p, dx, a, b, c, d, rfl, hp, k⟩ := h
    refine ⟨_, pss_cons (ps_expr (pe_cfun rfl (g_Statement T) (cf_Statement T) bk bF hr bb .nil (passW (takes_of rfl rfl rfl rfl) fun _ _ _ _ z => z) (pa_cons (pv 0) (pa_cons (pv 1) pa_nil))))
      (pss_cons (ps_fld (pv 0) (pv 2) rfl) (pss_cons (ps_fld (pv 0) (pv 3) rfl) (pss_cons (ps_fld (pv 0) (pv 4) rfl) (pss_cons (ps_fld (pv 0) (pe_lst pa_nil) rfl) (pss_one (ps_fld (pv 0) (pe_lst pa_nil) rfl)))))), ?_⟩
    refine ⟨_, rfl, _, rfl, p, _, dx, _, rfl, hp, c_IfStatement T, na_IfStatement_keyword T, ?_⟩
    refine ⟨_, rfl, _, rfl, p, _, dx, _, rfl, upd_same, c_IfStatement T, na_IfStatement_left T, (of_decide_eq_true (by kernel_rfl)), _, rfl, _, rfl, p, _, dx, _, rfl, upd_same, c_IfStatement T, na_IfStatement_comparison T, (of_decide_eq_true (by kernel_rfl)),
      _, rfl, _, rfl, p, _, dx, _, rfl, upd_same, c_IfStatement T, na_IfStatement_right T, (of_decide_eq_true (by kernel_rfl)), (by show 0 ≤ sizeLine; decide), fun f hf => ?_⟩
    rw [upd_upd, upd_upd, upd_upd] at *
    have npf : p ≠ f := ne_of_none upd_same hf
    refine ⟨_, rfl, p, _, dx, _, rfl, (by rw [upd_ne npf]; exact upd_same), c_IfStatement T, na_IfStatement_first T, (of_decide_eq_true (by kernel_rfl)), (by show 0 ≤ sizeLine; decide), fun s hs => ?_⟩
    have nps : p ≠ s := ne_of_none upd_same hs
    refine ⟨_, rfl, p, _, dx, _, rfl, (by rw [upd_ne nps]; exact upd_same), c_IfStatement T, na_IfStatement_second T, (of_decide_eq_true (by kernel_rfl)), ?_⟩
    have hs1 : upd (upd H p (.ins (He.ga K "IfStatement") dx [("keyword", a), ("left", b), ("comparison", c), ("right", d)])) f (.lst []) s = none := by
      rw [upd_ne (Ne.symm nps)] at hs
      exact hs
    have nfs : f ≠ s := ne_of_none upd_same hs1
    have hf0 : H f = none := by
      rw [upd_ne (Ne.symm npf)] at hf
      exact hf
    have hs0 : H s = none := by
      rw [upd_ne (Ne.symm nfs), upd_ne (Ne.symm nps)] at hs1
      exact hs1
    refine k f s _ hf0 hs0 nfs ?_ ?_ upd_same fun b o e hb => ?_
    · rw [upd_ne (Ne.symm npf), upd_ne nfs, upd_ne (Ne.symm npf), upd_same]
    · rw [upd_ne (Ne.symm nps), upd_same]
    · rw [upd_ne hb, upd_ne (ne_of_none e hs0), upd_ne hb, upd_ne (ne_of_none e hf0), upd_ne hb]
      exact e
theorem pi_Loop (T : Txt K w mg h) : PromI P w K mg base "LoopStatement" 2 (spLp (He.ga K "LoopStatement")) := by
  obtain ⟨fd, F⟩ := f_LoopStatement_init T
  obtain ⟨bk, bfd, bb, bF⟩ := pi_Statement (P := P) (w := w) (base := base) T
  refine ⟨g_LoopStatement T, mk_LoopStatement T, fd, ["self", "keyword", "times"], F.bindsN fun _ _ _ _ _ _ us hl => match us, hl with | [_, _, _], _ => rfl, ?_⟩
  refine F.ok sc_LoopStatement_init (fun vs H Q E h => ?_) (fun cdv A outer s H vs Q E hr h => ?_)
  · obtain ⟨p, dx, a, b, rfl, _⟩ := h
    rfl
  · obtain ⟨p, dx, a, b, rfl, hp, k⟩ := h
    refine ⟨_, pss_cons (ps_expr (pe_cfun rfl (g_Statement T) (cf_Statement T) bk bF hr bb .nil (passW (takes_of rfl rfl rfl rfl) fun _ _ _ _ z => z) (pa_cons (pv 0) (pa_cons (pv 1) pa_nil))))
      (pss_cons (ps_fld (pv 0) (pv 2) rfl) (pss_one (ps_fld (pv 0) (pe_lst pa_nil) rfl))), ?_⟩
    refine ⟨_, rfl, _, rfl, p, _, dx, _, rfl, hp, c_LoopStatement T, na_LoopStatement_keyword T, ?_⟩
    refine ⟨_, rfl, _, rfl, p, _, dx, _, rfl, upd_same, c_LoopStatement T, na_LoopStatement_times T, (of_decide_eq_true (by kernel_rfl)), (by show 0 ≤ sizeLine; decide), fun f hf => ?_⟩
    rw [upd_upd] at *
    have npf : p ≠ f := ne_of_none upd_same hf
    refine ⟨_, rfl, p, _, dx, _, rfl, (by rw [upd_ne npf]; exact upd_same), c_LoopStatement T, na_LoopStatement_body T, (of_decide_eq_true (by kernel_rfl)), ?_⟩
    have hf0 : H f = none := by
      rw [upd_ne (Ne.symm npf)] at hf
      exact hf
    refine k f _ hf0 ?_ upd_same fun b o e hb => ?_
    · rw [upd_ne (Ne.symm npf), upd_same]
    · rw [upd_ne hb, upd_ne (ne_of_none e hf0), upd_ne hb]
      exact e
end
section
variable {X : Cx} {k n : Nat} {E : XK} {e : Expr} {es : List Expr} {x : Str} {pos p : Pos} {t : TA}
def tMkI (C : Addr) (sp : Sp) (E : XK) (t : TA) : TE := tMake C sp [] E t
theorem pe_mkI {sp : Sp} (F : PromI X.prog X.w X.K X.mg X.base x k sp) (hr : Room (k + 1) X.A) (hx : Passes (L2.CX X.prog X.w) X E) (ha : PA X (e :: es) t) (hg : Gl X x := by rfl)
    (hdb : (x == ("__debug__" : Str)) = false := by decide) (he : starEach (e :: es) X.env = (false, eval e X.env) :: starEach es X.env := by rfl) (hpl : (backTo pos (starEach es X.env)).any (·.1) = false := by rfl) :
    PE X (.Call (.Name x p) (e :: es) [] pos) (tMake (He.ga X.K x) sp [] E t) := by
  obtain ⟨g, mkr, fd, ps, h2, h3⟩ := F
  exact pe_make mkr h3 hr hg g h2 .nil hx ha hdb he hpl
end
/-! ## the errors -/
section
variable {P : Program} {w : World} {K : PySem.W.Frag} {mg : Str → Option Value} {base h : Heap}
/-- an error's __init__ on the exception that is being made at a: what it leaves -/
def MadeX (C a : Addr) (fs : List (Str × V)) (H : Hp) (Q : VK) : Prop := ∀ d H', H d = none → d ≠ a → H' a = some (exo a C (some d)) → H' d = some (exd d fs) → (∀ b o, H b = some o → b ≠ a → H' b = some o) → Q .non H'
theorem log9 {n : Nat} (h : n < 1000000000) : ((n : Int)).natAbs.log2 < 1920 := by
  rw [Int.natAbs_natCast]
  by_cases z : n = 0
  · rw [z]; decide
  · exact Nat.lt_of_le_of_lt (Nat.log2_le_self n |> fun _ => (Nat.le_of_lt_succ ((Nat.log2_lt (k := 31) z).mpr (Nat.lt_trans h (by decide))))) (by decide)
theorem fit {a b : Str} {m n : Nat} (ha : a.length ≤ m) (hb : b.length ≤ n) : (a ++ b).length ≤ m + n := by
  have e : (a ++ b).length = a.length + b.length := by
    show (a.cps ++ b.cps).size = a.cps.size + b.cps.size
    exact Array.size_append
  omega
theorem fitI {n : Nat} (h : n < 1000000000) : (Str.ofString (toString ((n : Nat) : Int))).length ≤ 1921 := PyProof.Rows.int_text_len_1921 (log9 h)
theorem fits {a : Str} {m : Nat} (h : a.length ≤ m) (hm : m ≤ 100000) : a.length ≤ sizeLine := Nat.le_trans h (Nat.le_trans hm (by decide))
def spSynI (C : Addr) : Sp := fun vs H Q _ => ∃ a l k, vs = [.ref a, .int (l : Nat), .int (k : Nat)] ∧ H a = some (exo a C none) ∧ l < 1000000000 ∧ k < 1000000000 ∧ MadeX C a (xdf (.syn l k)) H Q
theorem ok_SynI (T : Txt K w mg h) : ∃ fd, Binds K fd ["self", "line", "column"] [] ∧ FnOk P w K mg base (L2.CX P w) 1 (He.ma K (He.ga K "SyntaxFault") "__init__") fd ["self", "line", "column"] (spSynI (He.ga K "SyntaxFault")) := by
  obtain ⟨fd, F⟩ := f_SyntaxFault_init T
  refine ⟨fd, F.bindsN fun _ _ _ _ _ _ us hl => match us, hl with | [_, _, _], _ => rfl, ?_⟩
  refine F.ok sc_SyntaxFault_init (fun vs H Q E h => ?_) (fun cdv A outer s H vs Q E hr h => ?_)
  · obtain ⟨a, l, k, rfl, _⟩ := h
    rfl
  · obtain ⟨a, l, k, rfl, ha, hl, hk, q⟩ := h
    refine ⟨_, pss_cons (ps_expr (pe_cveinit rfl (g_FuelError T) (cf_FuelError T) (pa_cons (pv 0) (pa_cons (pe_joined (.cons pe_str (.cons (pe_fmt (pv 1)) (.cons pe_str (.cons (pe_fmt (pv 2)) .nil))))) pa_nil))))
      (pss_cons (ps_ost (pv 0) (pv 1)) (pss_one (ps_ost (pv 0) (pv 2)))), ?_⟩
    have z1 : (Str.empty ++ Str.ofString "the source does not fit the grammar at line ").length ≤ 100 := by decide +kernel
    have z2 := fit z1 (fitI hl)
    have z3 := fit z2 (show (Str.ofString ", column ").length ≤ 100 by decide +kernel)
    have z4 := fit z3 (fitI hk)
    refine ⟨_, rfl, _, rfl, fits z1 (by decide), _, rfl, .inr ⟨_, rfl, log9 hl, _, rfl, fits z2 (by decide), _, rfl, fits z3 (by decide), _, rfl, .inr ⟨_, rfl, log9 hk, _, rfl, fits z4 (by decide), ?_⟩⟩⟩
    refine ⟨a, _, _, rfl, (by show 1 ≤ 1000; decide), oc_SyntaxFault T, ha, ?_⟩
    refine ⟨_, rfl, _, rfl, a, _, rfl, oc_SyntaxFault T, na_SyntaxFault_line T, .inl ⟨ha, fun d hd nd => ?_⟩⟩
    refine ⟨_, rfl, _, rfl, a, _, rfl, oc_SyntaxFault T, na_SyntaxFault_column T, .inr ⟨d, _, upd_same, (by rw [upd_ne nd]; exact upd_same), (by show 1 ≤ 900; decide), ?_⟩⟩
    refine q d _ hd nd (by rw [upd_ne (Ne.symm nd)]; exact upd_same) upd_same fun b o e hb => ?_
    rw [upd_ne (ne_of_none e hd), upd_ne hb, upd_ne (ne_of_none e hd)]
    exact e
def spChkI (C : Addr) : Sp := fun vs H Q _ => ∃ a r l k, vs = [.ref a, .str r, .int (l : Nat), .int (k : Nat)] ∧ H a = some (exo a C none) ∧ r.length ≤ 100 ∧ l < 1000000000 ∧ k < 1000000000 ∧ MadeX C a (xdf (.chk r l k)) H Q
theorem ok_ChkI (T : Txt K w mg h) : ∃ fd, Binds K fd ["self", "reason", "line", "column"] [] ∧ FnOk P w K mg base (L2.CX P w) 1 (He.ma K (He.ga K "CheckFault") "__init__") fd ["self", "reason", "line", "column"] (spChkI (He.ga K "CheckFault")) := by
  obtain ⟨fd, F⟩ := f_CheckFault_init T
  refine ⟨fd, F.bindsN fun _ _ _ _ _ _ us hl => match us, hl with | [_, _, _, _], _ => rfl, ?_⟩
  refine F.ok sc_CheckFault_init (fun vs H Q E h => ?_) (fun cdv A outer s H vs Q E hr h => ?_)
  · obtain ⟨a, r, l, k, rfl, _⟩ := h
    rfl
  · obtain ⟨a, r, l, k, rfl, ha, hR, hl, hk, q⟩ := h
    refine ⟨_, pss_cons (ps_expr (pe_cveinit rfl (g_FuelError T) (cf_FuelError T) (pa_cons (pv 0) (pa_cons (pe_joined (.cons (pe_fmt (pv 1)) (.cons pe_str (.cons (pe_fmt (pv 2)) (.cons pe_str (.cons (pe_fmt (pv 3)) .nil)))))) pa_nil))))
      (pss_cons (ps_ost (pv 0) (pv 1)) (pss_cons (ps_ost (pv 0) (pv 2)) (pss_one (ps_ost (pv 0) (pv 3))))), ?_⟩
    have z0 : (Str.empty ++ r).length ≤ 0 + 100 := fit (by decide) hR
    have z1 := fit z0 (show (Str.ofString " at line ").length ≤ 100 by decide +kernel)
    have z2 := fit z1 (fitI hl)
    have z3 := fit z2 (show (Str.ofString ", column ").length ≤ 100 by decide +kernel)
    have z4 := fit z3 (fitI hk)
    refine ⟨_, rfl, _, rfl, .inl ⟨r, rfl, fits hR (by decide), _, rfl, fits z0 (by decide), _, rfl, fits z1 (by decide), _, rfl, .inr ⟨_, rfl, log9 hl, _, rfl, fits z2 (by decide), _, rfl, fits z3 (by decide), _, rfl, .inr ⟨_, rfl, log9 hk, _, rfl, fits z4 (by decide), ?_⟩⟩⟩⟩
    refine ⟨a, _, _, rfl, (by show 1 ≤ 1000; decide), oc_CheckFault T, ha, ?_⟩
    refine ⟨_, rfl, _, rfl, a, _, rfl, oc_CheckFault T, na_CheckFault_reason T, .inl ⟨ha, fun d hd nd => ?_⟩⟩
    refine ⟨_, rfl, _, rfl, a, _, rfl, oc_CheckFault T, na_CheckFault_line T, .inr ⟨d, _, upd_same, (by rw [upd_ne nd]; exact upd_same), (by show 1 ≤ 900; decide), ?_⟩⟩
    refine ⟨_, rfl, _, rfl, a, _, rfl, oc_CheckFault T, na_CheckFault_column T, .inr ⟨d, _, (by rw [upd_ne (Ne.symm nd)]; exact upd_same), upd_same, (by show 2 ≤ 900; decide), ?_⟩⟩
    refine q d _ hd nd (by rw [upd_ne (Ne.symm nd), upd_ne (Ne.symm nd)]; exact upd_same) upd_same fun b o e hb => ?_
    rw [upd_ne (ne_of_none e hd), upd_ne (ne_of_none e hd), upd_ne hb, upd_ne (ne_of_none e hd)]
    exact e
end
section
variable {X : Cx} {k : Nat} {e : Expr} {es : List Expr} {pos p : Pos} {t : TA} {h : Heap} {w : World}
/-- raise C(..): the error's dict is new, all else as it was -/
def tMkE (K : PySem.W.Frag) (t : TA) (who : List V → Option Err) : L2.St → Hp → XK → Prop := fun σ H Q => t σ H fun vs H1 => ∃ er, who vs = some er ∧ ∀ d H', Same H1 H' → H' d = some (.xd (xdf er)) → Q (.ref (xcl K er)) (some d) H'
def whoSyn (vs : List V) : Option Err := match vs with
  | [.int l, .int k] => if 0 ≤ l ∧ l < 1000000000 ∧ 0 ≤ k ∧ k < 1000000000 then some (.syn l.toNat k.toNat) else none
  | _ => none
def whoChk (vs : List V) : Option Err := match vs with
  | [.str r, .int l, .int k] => if r.length ≤ 100 ∧ 0 ≤ l ∧ l < 1000000000 ∧ 0 ≤ k ∧ k < 1000000000 then some (.chk r l.toNat k.toNat) else none
  | _ => none
theorem made_out {C a : Addr} {fs : List (Str × V)} {H1 : Hp} {Q : XK} (ha : H1 a = none) (q : ∀ d H', Same H1 H' → H' d = some (.xd fs) → Q (.ref C) (some d) H') :
    MadeX C a fs (upd H1 a (exo a C none)) (fun v H2 => v = .non ∧ ∃ (d : Addr) (fs : List (Str × V)), H2 a = some (exo a C (some d)) ∧ H2 d = some (exd d fs) ∧ H1 d = none ∧ Q (.ref C) (some d) (upd (del H2 a) d (.xd fs))) := by
  intro d H' hd nd h1 h2 h3
  rw [upd_ne nd] at hd
  refine ⟨rfl, d, fs, h1, h2, hd, q d _ (fun b o e => ?_) upd_same⟩
  rw [upd_ne (ne_of_none e hd), del_ne (ne_of_none e ha)]
  exact h3 b o (by rw [upd_ne (ne_of_none e ha)]; exact e) (ne_of_none e ha)
theorem who_syn {vs : List V} {er : Err} (h : whoSyn vs = some er) : ∃ l k : Nat, vs = [.int (l : Nat), .int (k : Nat)] ∧ l < 1000000000 ∧ k < 1000000000 ∧ er = .syn l k := by
  unfold whoSyn at h
  split at h
  · rename_i l k
    split at h
    · rename_i c
      cases h
      refine ⟨l.toNat, k.toNat, ?_, by omega, by omega, rfl⟩
      rw [Int.toNat_of_nonneg c.1, Int.toNat_of_nonneg c.2.2.1]
    · cases h
  · cases h
theorem who_chk {vs : List V} {er : Err} (h : whoChk vs = some er) : ∃ (r : Str) (l k : Nat), vs = [.str r, .int (l : Nat), .int (k : Nat)] ∧ r.length ≤ 100 ∧ l < 1000000000 ∧ k < 1000000000 ∧ er = .chk r l k := by
  unfold whoChk at h
  split at h
  · rename_i r l k
    split at h
    · rename_i c
      cases h
      refine ⟨r, l.toNat, k.toNat, ?_, c.1, by omega, by omega, rfl⟩
      rw [Int.toNat_of_nonneg c.2.1, Int.toNat_of_nonneg c.2.2.2.1]
    · cases h
  · cases h
theorem whoSyn_of {l k : Nat} (hl : l < 1000000000) (hk : k < 1000000000) : whoSyn [.int (l : Nat), .int (k : Nat)] = some (.syn l k) := by
  show (if (0 : Int) ≤ l ∧ (l : Int) < 1000000000 ∧ (0 : Int) ≤ k ∧ (k : Int) < 1000000000 then some (Err.syn ((l : Int)).toNat ((k : Int)).toNat) else none) = _
  exact if_pos ⟨Int.natCast_nonneg l, by omega, Int.natCast_nonneg k, by omega⟩
theorem whoChk_of {r : Str} {l k : Nat} (hr : r.length ≤ 100) (hl : l < 1000000000) (hk : k < 1000000000) : whoChk [.str r, .int (l : Nat), .int (k : Nat)] = some (.chk r l k) := by
  show (if r.length ≤ 100 ∧ (0 : Int) ≤ l ∧ (l : Int) < 1000000000 ∧ (0 : Int) ≤ k ∧ (k : Int) < 1000000000 then some (Err.chk r ((l : Int)).toNat ((k : Int)).toNat) else none) = _
  exact if_pos ⟨hr, Int.natCast_nonneg l, by omega, Int.natCast_nonneg k, by omega⟩
abbrev MonoE (te : TE) : Prop := ∀ σ H (Q Q' : VK), (∀ v H1, Q v H1 → Q' v H1) → te σ H Q → te σ H Q'
theorem me_var {i : Nat} : MonoE (tVar i) := fun _ _ _ _ m ⟨v, e, q⟩ => ⟨v, e, m _ _ q⟩
theorem me_c {v : V} : MonoE (tC v) := fun _ _ _ _ m q => m _ _ q
theorem me_fld {K : PySem.W.Frag} {ta : TE} {f : Str} (h : MonoE ta) : MonoE (tFld K ta f) := fun σ H _ _ m q => h σ H _ _ (fun _ _ ⟨a, C, dx, fs, v, e, h1, h2, h3, h4, q⟩ => ⟨a, C, dx, fs, v, e, h1, h2, h3, h4, m _ _ q⟩) q
theorem mo_nil : ∀ σ H (Q Q' : List V → Hp → Prop), (∀ vs H1, Q vs H1 → Q' vs H1) → tNil σ H Q → tNil σ H Q' := fun _ _ _ _ m q => m _ _ q
theorem mo_cons {ta : TE} {tr : TA} (h : MonoE ta) (r : ∀ σ H (Q Q' : List V → Hp → Prop), (∀ vs H1, Q vs H1 → Q' vs H1) → tr σ H Q → tr σ H Q') : ∀ σ H (Q Q' : List V → Hp → Prop), (∀ vs H1, Q vs H1 → Q' vs H1) → tCons ta tr σ H Q → tCons ta tr σ H Q' :=
  fun σ H Q Q' m q => h σ H _ _ (fun x H1 z => r σ H1 _ _ (fun vs H2 y => m _ _ y) z) q
abbrev Mono (t : TA) : Prop := ∀ σ H (Q Q' : List V → Hp → Prop), (∀ vs H1, Q vs H1 → Q' vs H1) → t σ H Q → t σ H Q'
theorem pmk_syn (T : Txt X.K X.w X.mg h) (hr : Room 2 X.A) (hx : Passes (L2.CX X.prog X.w) X (fun _ _ _ => False)) (mono : Mono t) (ha : PA X (e :: es) t) (hg : Gl X "SyntaxFault" := by rfl)
    (he : starEach (e :: es) X.env = (false, eval e X.env) :: starEach es X.env := by rfl) (hpl : (backTo pos (starEach es X.env)).any (·.1) = false := by rfl) :
    PMk X (.Call (.Name "SyntaxFault" p) (e :: es) [] pos) (tMkE X.K t whoSyn) := by
  intro pins s σ H Q I q
  obtain ⟨fd, b, F⟩ := ok_SynI (P := X.prog) (base := X.base) T
  refine pmk_oex (oc_SyntaxFault T) (oi_SyntaxFault T).1 (oi_SyntaxFault T).2 F hr b .nil hx hg (g_SyntaxFault T) ha (by decide) he hpl pins s σ H Q I ?_
  refine mono σ H _ _ (fun vs H1 z => ?_) q
  obtain ⟨er, e1, z⟩ := z
  obtain ⟨l, k, rfl, hl, hk, rfl⟩ := who_syn e1
  exact ⟨by show 2 ≤ 1000; decide, fun a na => ⟨a, l, k, rfl, upd_same, hl, hk, made_out na z⟩⟩
theorem pmk_chk (T : Txt X.K X.w X.mg h) (hr : Room 2 X.A) (hx : Passes (L2.CX X.prog X.w) X (fun _ _ _ => False)) (mono : Mono t) (ha : PA X (e :: es) t) (hg : Gl X "CheckFault" := by rfl)
    (he : starEach (e :: es) X.env = (false, eval e X.env) :: starEach es X.env := by rfl) (hpl : (backTo pos (starEach es X.env)).any (·.1) = false := by rfl) :
    PMk X (.Call (.Name "CheckFault" p) (e :: es) [] pos) (tMkE X.K t whoChk) := by
  intro pins s σ H Q I q
  obtain ⟨fd, b, F⟩ := ok_ChkI (P := X.prog) (base := X.base) T
  refine pmk_oex (oc_CheckFault T) (oi_CheckFault T).1 (oi_CheckFault T).2 F hr b .nil hx hg (g_CheckFault T) ha (by decide) he hpl pins s σ H Q I ?_
  refine mono σ H _ _ (fun vs H1 z => ?_) q
  obtain ⟨er, e1, z⟩ := z
  obtain ⟨r, l, k, rfl, hR, hl, hk, rfl⟩ := who_chk e1
  exact ⟨by show 3 ≤ 1000; decide, fun a na => ⟨a, r, l, k, rfl, upd_same, hR, hl, hk, made_out na z⟩⟩
end
end Fs
-- FsE
set_option Elab.async false
set_option linter.all false
set_option maxRecDepth 100000
set_option maxHeartbeats 4000000
namespace Fs
open PySem PySem.Spec PyProof.Rows L2
/-! ## the cursor -/
section
variable {P : Program} {w : World} {K : PySem.W.Frag} {mg : Str → Option Value} {base h : Heap}
theorem EndOk.ne {r : Toks} (e : EndOk r) : ∃ t l, r = t :: l := by
  obtain ⟨i, z, e, _⟩ := e
  cases i with
  | nil => exact ⟨z, [], e⟩
  | cons y i => exact ⟨y, i ++ [z], e⟩
theorem CurAt.head {H G : Hp} {c : Addr} {r : Toks} (s : Same G H) (u : CurAt K H G c r) : ∃ dx tl vs pre t l v, r = t :: l ∧ H c = some (.ins (He.ga K "Cursor") dx [("tokens", .ref tl), ("place", .int ((pre : List Tok).length : Int))]) ∧ G tl = some (.lst vs) ∧
    Paired (TokR K G) vs (pre ++ r) ∧ (pre ++ r).length ≤ 1000000 ∧ vs[pre.length]? = some v ∧ TokR K G v t := by
  obtain ⟨dx, tl, vs, pre, h1, h2, h3, h4⟩ := u.at_
  obtain ⟨t, l, rfl⟩ := u.eo.ne
  obtain ⟨v, e1, e2⟩ := paired_get (i := pre.length) (t := t) h3 (by simp)
  exact ⟨dx, tl, vs, pre, t, l, v, rfl, h1, h2, h3, h4, e1, e2⟩
theorem CurAt.later {H G H' G' : Hp} {c : Addr} {r : Toks} (u : CurAt K H G c r) (g : Same G G') (hc : H' c = H c) (n : G' c = none) : CurAt K H' G' c r := by
  obtain ⟨dx, tl, vs, pre, h1, h2, h3, h4⟩ := u.at_
  exact ⟨⟨dx, tl, vs, pre, by rw [hc]; exact h1, g _ _ h2, pmono (fun _ _ => TokR.mono g) h3, h4⟩, n, u.eo⟩
/-- nothing but other things changed or came -/
theorem CurAt.stay {H G H' G' : Hp} {c : Addr} {r : Toks} (u : CurAt K H G c r) (x : Ext G G' H) (hc : H' c = H c) : CurAt K H' G' c r := by
  obtain ⟨o, e⟩ := u.here
  exact u.later x.le hc (by rw [x.new c o e]; exact u.nG)
def spAhead (K : PySem.W.Frag) : Sp := fun vs H Q E => ∃ c G r, vs = [.ref c] ∧ Same G H ∧ CurAt K H G c r ∧ Q (.str (ahead r)) H
def spTakeAny (K : PySem.W.Frag) : Sp := fun vs H Q E => ∃ c G r a ks, vs = [.ref c, .ref a] ∧ Same G H ∧ CurAt K H G c r ∧ SqT K H a (ks.map V.str) ∧ ks.contains "end" = false ∧ Post K H G c (fun _ => TokR K) Q E (take ks r)
def spTake (K : PySem.W.Frag) : Sp := fun vs H Q E => ∃ c G r k, vs = [.ref c, .str k] ∧ Same G H ∧ CurAt K H G c r ∧ ([k] : List Str).contains "end" = false ∧ Post K H G c (fun _ => TokR K) Q E (take [k] r)
theorem pm_ahead (T : Txt K w mg h) : PromM P w K mg base (He.ga K "Cursor") "ahead" 1 (spAhead K) := by
  obtain ⟨fd, F⟩ := f_Cursor_ahead T
  refine ⟨c_Cursor T, _, fd, ["self"], me_Cursor_ahead T, F.bindsN fun _ _ _ _ _ _ us hl => match us, hl with | [_], _ => rfl, ?_⟩
  refine F.ok sc_Cursor_ahead (fun vs H Q E h => ?_) (fun cdv A outer s H vs Q E hr h => ?_)
  · obtain ⟨c, G, r, rfl, _⟩ := h
    rfl
  · obtain ⟨c, G, r, rfl, g, u, q⟩ := h
    obtain ⟨dx, tl, vs, pre, t, l, v, rfl, h1, h2, h3, h4, e1, a, dx', rfl, e2, _⟩ := u.head g
    refine ⟨_, pss_one (ps_ret (pe_fld (pe_ix ix_list (pe_fld (pv 0) rfl) (pe_fld (pv 0) rfl) (fun _ _ => rfl)) rfl)), ?_⟩
    exact ⟨_, rfl, c, _, dx, _, _, rfl, h1, c_Cursor T, na_Cursor_tokens T, rfl, _, rfl, c, _, dx, _, _, rfl, h1, c_Cursor T, na_Cursor_place T, (by kernel_rfl), tl, vs, _, _, rfl, rfl, SqL.of (g _ _ h2), atI_nat e1, a, _, dx', _, _, rfl, g _ _ e2, c_Token T, na_Token_kind T, rfl, q⟩
theorem inV_strs (k : Str) : ∀ ks : List Str, inV (.str k) (ks.map V.str) = ks.contains k := by
  intro ks
  unfold inV
  induction ks with
  | nil => rfl
  | cons a l ih =>
    rw [List.map_cons, List.any_cons, ih, List.contains_cons]
    congr 1
    show (a == k) = (k == a)
    exact Bool.beq_comm
theorem flat_strs (ks : List Str) : (ks.map V.str).all flatV = true := by
  rw [List.all_map]
  exact List.all_eq_true.mpr fun _ _ => rfl
theorem pm_takeAny (T : Txt K w mg h) : PromM P w K mg base (He.ga K "Cursor") "take_any" 3 (spTakeAny K) := by
  obtain ⟨fd, F⟩ := f_Cursor_take_any T
  refine ⟨c_Cursor T, _, fd, ["self", "kinds"], me_Cursor_take_any T, F.bindsN fun _ _ _ _ _ _ us hl => match us, hl with | [_, _], _ => rfl, ?_⟩
  refine F.ok sc_Cursor_take_any (fun vs H Q E h => ?_) (fun cdv A outer s H vs Q E hr h => ?_)
  · obtain ⟨c, G, r, a, ks, rfl, _⟩ := h
    rfl
  · obtain ⟨c, G, r, b, ks, rfl, g, u, hks, hend, q⟩ := h
    obtain ⟨dx, tl, vs, pre, t, l, v, rfl, h1, h2, h3, h4, e1, a, dx', rfl, e2, lt1, lt2⟩ := u.head g
    refine ⟨_, pss_cons (ps_set (i := 2) sc_Cursor_take_any.nd rfl (Or.inl rfl) (pe_ix ix_list (pe_fld (pv 0) rfl) (pe_fld (pv 0) rfl) (fun _ _ => rfl)))
      (pss_cons (ps_if (pt_cmpR op_notIn_seq (pe_fld (pv 2) rfl) (pv 1) (by rfl)) (pss_one (ps_raise rfl (takes_of rfl rfl rfl rfl) (pmk_syn T hr (passW (takes_of rfl rfl rfl rfl) fun _ _ _ _ z => z.elim) (mo_cons (me_fld me_var) (mo_cons (me_fld me_var) mo_nil)) (pa_cons (pe_fld (pv 2) rfl) (pa_cons (pe_fld (pv 2) rfl) pa_nil))))) pss_nil)
      (pss_cons (ps_fldaug (pv 0) pe_int in_add) (pss_one (ps_ret (pv 2))))), ?_⟩
    refine ⟨_, rfl, c, _, dx, _, _, rfl, h1, c_Cursor T, na_Cursor_tokens T, rfl, _, rfl, c, _, dx, _, _, rfl, h1, c_Cursor T, na_Cursor_place T, (by kernel_rfl), tl, vs, _, _, rfl, rfl, SqL.of (g _ _ h2), atI_nat e1, ?_⟩
    refine ⟨_, rfl, a, _, dx', _, _, rfl, g _ _ e2, c_Token T, na_Token_kind T, rfl, _, rfl, b, _, rfl, .inr hks, rfl, flat_strs ks, _, rfl, ?_⟩
    rw [inV_strs]
    cases e : ks.contains t.kind with
    | false =>
      refine iteT ?_
      have hq : ErrC K c H E (.syn t.line t.col) := by
        have z : take ks (t :: l) = .error (.syn t.line t.col) := if_neg (by rw [e]; exact Bool.false_ne_true)
        rw [z] at q
        exact q
      refine ⟨_, rfl, a, _, dx', _, _, rfl, g _ _ e2, c_Token T, na_Token_line T, (by kernel_rfl), _, rfl, a, _, dx', _, _, rfl, g _ _ e2, c_Token T, na_Token_column T, (by kernel_rfl), _, whoSyn_of lt1 lt2, fun d H' s' x => hq d H' (but_of s') x⟩
    | true =>
      refine iteF ?_
      refine ⟨_, rfl, c, _, dx, _, .int (pre.length : Int), rfl, h1, c_Cursor T, na_Cursor_place T, (by kernel_rfl), _, _, rfl, rfl, dx, _, h1, (of_decide_eq_true (by kernel_rfl)), _, rfl, ?_⟩
      have z : take ks (t :: l) = .ok (t, l) := if_pos e
      rw [z] at q
      refine q.done (G' := G) (fun b' o hb n => by rw [upd_ne n]; exact hb) Ext.refl (same_mut g u.nG) ⟨⟨dx, tl, vs, pre ++ [t], ?_, h2, ?_, ?_⟩, u.nG, (take_end z hend u.eo).1⟩ ⟨a, dx', rfl, e2, lt1, lt2⟩
      · rw [upd_same, List.length_append]
        rfl
      · rw [List.append_assoc]
        exact h3
      · rw [List.append_assoc]
        exact h4
theorem pm_take (T : Txt K w mg h) : PromM P w K mg base (He.ga K "Cursor") "take" 4 (spTake K) := by
  have FA := pm_takeAny (P := P) (w := w) (base := base) T
  obtain ⟨fd, F⟩ := f_Cursor_take T
  refine ⟨c_Cursor T, _, fd, ["self", "kind"], me_Cursor_take T, F.bindsN fun _ _ _ _ _ _ us hl => match us, hl with | [_, _], _ => rfl, ?_⟩
  refine F.ok sc_Cursor_take (fun vs H Q E h => ?_) (fun cdv A outer s H vs Q E hr h => ?_)
  · obtain ⟨c, G, r, k, rfl, _⟩ := h
    rfl
  · obtain ⟨c, G, r, k, rfl, g, u, hk, q⟩ := h
    refine ⟨_, pss_one (ps_ret (pe_pm FA hr (passW (takes_of rfl rfl rfl rfl) fun _ _ _ _ z => z) (pv 0) (pa_cons (pe_tup (pa_cons (pv 1) pa_nil)) pa_nil))), ?_⟩
    obtain ⟨dx, tl, vs, pre, t, l, v, e0, h1, h2, h3, h4, e1, e2⟩ := u.head g
    refine ⟨_, rfl, c, dx, _, rfl, h1, (by kernel_rfl), _, rfl, (by show 1 ≤ sizeLine; decide), fun p hp => ?_⟩
    refine ⟨c, G, r, p, [k], rfl, g.trans (same_upd hp), u.stay Ext.refl (upd_ne (ne_of_none h1 hp)), SqT.of upd_same, hk, ?_⟩
    exact q.later (but_of (same_upd hp)) Ext.refl ⟨_, (upd_ne (ne_of_none h1 hp)).trans h1⟩
end
end Fs
-- FsF
set_option Elab.async false
set_option linter.all false
set_option maxRecDepth 100000
set_option maxHeartbeats 4000000
namespace Fs
open PySem PySem.Spec PyProof.Rows L2
theorem CurAt.obj {K : PySem.W.Frag} {H G : Hp} {c : Addr} {r : Toks} (u : CurAt K H G c r) : ∃ dx fs, H c = some (.ins (He.ga K "Cursor") dx fs) ∧ fs.lookup ("take" : Str) = none ∧ fs.lookup ("ahead" : Str) = none ∧ fs.lookup ("take_any" : Str) = none := by
  obtain ⟨dx, tl, vs, pre, h1, _⟩ := u.at_
  exact ⟨dx, _, h1, by kernel_rfl, by kernel_rfl, by kernel_rfl⟩
/-! ## the cursor's methods, called -/
def tTake (K : PySem.W.Frag) (E : XK) (to : TE) (k : Str) : TE := fun σ H Q => to σ H fun x H1 => ∃ c G r, x = .ref c ∧ Same G H1 ∧ CurAt K H1 G c r ∧ Post K H1 G c (fun _ => TokR K) Q E (take [k] r)
def tAhead (K : PySem.W.Frag) (to : TE) : TE := fun σ H Q => to σ H fun x H1 => ∃ c G r, x = .ref c ∧ Same G H1 ∧ CurAt K H1 G c r ∧ Q (.str (ahead r)) H1
def tTakeV (K : PySem.W.Frag) (E : XK) (to te : TE) : TE := fun σ H Q => to σ H fun x H1 => te σ H1 fun y H2 => ∃ c G r k, H2 = H1 ∧ x = .ref c ∧ y = .str k ∧ ([k] : List Str).contains "end" = false ∧ Same G H1 ∧ CurAt K H1 G c r ∧ Post K H1 G c (fun _ => TokR K) Q E (take [k] r)
def tTakeA (K : PySem.W.Frag) (E : XK) (to te : TE) : TE := fun σ H Q => to σ H fun x H1 => (∃ c dx fs, x = .ref c ∧ H1 c = some (.ins (He.ga K "Cursor") dx fs) ∧ fs.lookup ("take_any" : Str) = none) ∧ te σ H1 fun y H2 => ∃ c G r a ks, x = .ref c ∧ y = .ref a ∧ SqT K H2 a (ks.map V.str) ∧ ks.contains "end" = false ∧ Same G H2 ∧ CurAt K H2 G c r ∧ Post K H2 G c (fun _ => TokR K) Q E (take ks r)
section
variable {X : Cx} {E : XK} {o e : Expr} {pos apos p : Pos} {to te : TE} {h : Heap} {k : Str} {j : Int}
theorem pe_take {jj} (T : Txt X.K X.w X.mg h) (hr : Room 4 X.A) (hx : Passes (L2.CX X.prog X.w) X E) (hk : ([k] : List Str).contains "end" = false) (me : MonoE to) (ho : PE X o to) {pl : Sem Bool}
    (hst : starEach [.Constant (.str k) jj p] X.env = (false, eval (.Constant (.str k) jj p) X.env) :: starEach [] X.env := by rfl) (hpl : (backTo pos (starEach [] X.env)).any (·.1) = false := by rfl)
    (ht : eval (.Call (.Attribute o "take" apos) [.Constant (.str k) jj p] [] pos) X.env = (do
      let ov ← eval o X.env
      standAt apos.atName
      let (f, first) ← holding [ov] (getMethod ov "take" pl)
      callWith pos f first (backTo pos (starEach [.Constant (.str k) jj p] X.env)) (backToKw pos (keywordEach [] X.env))) := by rfl) :
    PE X (.Call (.Attribute o "take" apos) [.Constant (.str k) jj p] [] pos) (tTake X.K E to k) := by
  refine ⟨fun pins s σ H Q I z => (pe_pm (pm_take T) hr hx ho (pa_cons pe_str pa_nil) hst hpl ht).run pins s σ H Q I ?_⟩
  refine me σ H _ _ (fun x H1 q => ?_) z
  obtain ⟨c, G, r, rfl, g, u, q⟩ := q
  obtain ⟨dx, fs, hc, l1, l2, l3⟩ := u.obj
  exact ⟨c, dx, fs, rfl, hc, l1, c, G, r, k, rfl, g, u, hk, q⟩
theorem pe_takeV (T : Txt X.K X.w X.mg h) (hr : Room 4 X.A) (hx : Passes (L2.CX X.prog X.w) X E) (me : MonoE to) (ho : PE X o to) (he : PE X e te) (m2 : ∀ σ H (Q Q' : VK), (∀ v H1, Q v H1 → Q' v H1) → te σ H Q → te σ H Q') {pl : Sem Bool}
    (hst : starEach [e] X.env = (false, eval e X.env) :: starEach [] X.env := by rfl) (hpl : (backTo pos (starEach [] X.env)).any (·.1) = false := by rfl)
    (ht : eval (.Call (.Attribute o "take" apos) [e] [] pos) X.env = (do
      let ov ← eval o X.env
      standAt apos.atName
      let (f, first) ← holding [ov] (getMethod ov "take" pl)
      callWith pos f first (backTo pos (starEach [e] X.env)) (backToKw pos (keywordEach [] X.env))) := by rfl) :
    PE X (.Call (.Attribute o "take" apos) [e] [] pos) (fun σ H Q => to σ H fun x H1 => (∃ c dx fs, x = .ref c ∧ H1 c = some (.ins (He.ga X.K "Cursor") dx fs) ∧ fs.lookup ("take" : Str) = none) ∧ te σ H1 fun y H2 => ∃ c G r k, x = .ref c ∧ y = .str k ∧ ([k] : List Str).contains "end" = false ∧ Same G H2 ∧ CurAt X.K H2 G c r ∧ Post X.K H2 G c (fun _ => TokR X.K) Q E (take [k] r)) := by
  refine ⟨fun pins s σ H Q I z => (pe_pm (pm_take T) hr hx ho (pa_cons he pa_nil hst) hst hpl ht).run pins s σ H Q I ?_⟩
  refine me σ H _ _ (fun x H1 q => ?_) z
  obtain ⟨⟨c, dx, fs, rfl, hc, l1⟩, q⟩ := q
  refine ⟨c, dx, fs, rfl, hc, l1, m2 σ H1 _ _ (fun y H2 q => ?_) q⟩
  obtain ⟨c', G, r, k, e1, rfl, hk, g, u, q⟩ := q
  cases e1
  exact ⟨c, G, r, k, rfl, g, u, hk, q⟩
theorem pe_takeA (T : Txt X.K X.w X.mg h) (hr : Room 3 X.A) (hx : Passes (L2.CX X.prog X.w) X E) (me : MonoE to) (ho : PE X o to) (he : PE X e te) (m2 : ∀ σ H (Q Q' : VK), (∀ v H1, Q v H1 → Q' v H1) → te σ H Q → te σ H Q') {pl : Sem Bool}
    (hst : starEach [e] X.env = (false, eval e X.env) :: starEach [] X.env := by rfl) (hpl : (backTo pos (starEach [] X.env)).any (·.1) = false := by rfl)
    (ht : eval (.Call (.Attribute o "take_any" apos) [e] [] pos) X.env = (do
      let ov ← eval o X.env
      standAt apos.atName
      let (f, first) ← holding [ov] (getMethod ov "take_any" pl)
      callWith pos f first (backTo pos (starEach [e] X.env)) (backToKw pos (keywordEach [] X.env))) := by rfl) :
    PE X (.Call (.Attribute o "take_any" apos) [e] [] pos) (tTakeA X.K E to te) := by
  refine ⟨fun pins s σ H Q I z => (pe_pm (pm_takeAny T) hr hx ho (pa_cons he pa_nil hst) hst hpl ht).run pins s σ H Q I ?_⟩
  refine me σ H _ _ (fun x H1 q => ?_) z
  obtain ⟨⟨c, dx, fs, rfl, hc, l1⟩, q⟩ := q
  refine ⟨c, dx, fs, rfl, hc, l1, m2 σ H1 _ _ (fun y H2 q => ?_) q⟩
  obtain ⟨c', G, r, a, ks, e1, rfl, hs, hk, g, u, q⟩ := q
  cases e1
  exact ⟨c, G, r, a, ks, rfl, g, u, hs, hk, q⟩
theorem pe_ahead (T : Txt X.K X.w X.mg h) (hr : Room 1 X.A) (hx : Passes (L2.CX X.prog X.w) X E) (me : MonoE to) (ho : PE X o to) {pl : Sem Bool}
    (ht : eval (.Call (.Attribute o "ahead" apos) [] [] pos) X.env = (do
      let ov ← eval o X.env
      standAt apos.atName
      let (f, first) ← holding [ov] (getMethod ov "ahead" pl)
      callWith pos f first (backTo pos (starEach [] X.env)) (backToKw pos (keywordEach [] X.env))) := by rfl) :
    PE X (.Call (.Attribute o "ahead" apos) [] [] pos) (tAhead X.K to) := by
  refine ⟨fun pins s σ H Q I z => (pe_pm0 (pm_ahead T) hr hx ho ht).run pins s σ H Q I ?_⟩
  refine me σ H _ _ (fun x H1 q => ?_) z
  obtain ⟨c, G, r, rfl, g, u, q⟩ := q
  obtain ⟨dx, fs, hc, l1, l2, l3⟩ := u.obj
  exact ⟨c, dx, fs, rfl, hc, l2, c, G, r, rfl, g, u, q⟩
end
/-! ## parsers -/
section
variable {P : Program} {w : World} {K : PySem.W.Frag} {mg : Str → Option Value} {base h : Heap}
theorem p_par (T : Txt K w mg h) : ∃ fd, FunD K "parse_parameter" "parse_parameter" (defArgs s_parse_parameter) (defBody s_parse_parameter) (defScope s_parse_parameter) [] [] (He.ga K "parse_parameter") fd ∧ Binds K fd ["cursor"] [] ∧ FnOk P w K mg base (L2.CX P w) 5 (He.ga K "parse_parameter") fd ["cursor"] (spCur K pPar (TokR K)) := by
  obtain ⟨fd, F⟩ := f_parse_parameter T
  refine ⟨fd, F, F.bindsN fun _ _ _ _ _ _ us hl => match us, hl with | [_], _ => rfl, ?_⟩
  refine F.ok sc_parse_parameter (fun vs H Q E h => ?_) (fun cdv A outer s H vs Q E hr h => ?_)
  · obtain ⟨c, G, r, rfl, _⟩ := h
    rfl
  · obtain ⟨c, G, r, rfl, g, u, q⟩ := h
    exact ⟨_, pss_one (ps_ret (pe_take T hr (passW (takes_of rfl rfl rfl rfl) fun _ _ _ _ z => z) (by decide +kernel) me_var (pv 0))), _, rfl, c, G, r, rfl, g, u, q⟩
/-- a def that is called by its name -/
theorem prom_of {x : Str} {k : Nat} {ps : List Str} {sp : Sp} {a : Arguments} {b : List Stmt} {sc : Scope} (hm : mg x = some (.ref (He.ga K x))) (h : ∃ fd, FunD K x x a b sc [] [] (He.ga K x) fd ∧ Binds K fd ps [] ∧ FnOk P w K mg base (L2.CX P w) k (He.ga K x) fd ps sp) : Prom P w K mg base x k sp :=
  let ⟨fd, F, b, G⟩ := h
  ⟨_, fd, ps, hm, F.kp, b, G⟩
theorem p_share (T : Txt K w mg h) : Prom P w K mg base "parse_share" 5 (spCur K pShare (ShR K)) := by
  obtain ⟨fd, F⟩ := f_parse_share T
  refine ⟨_, fd, ["cursor"], g_parse_share T, F.kp, F.bindsN fun _ _ _ _ _ _ us hl => match us, hl with | [_], _ => rfl, ?_⟩
  refine F.ok sc_parse_share (fun vs H Q E h => ?_) (fun cdv A outer s H vs Q E hr h => ?_)
  · obtain ⟨c, G, r, rfl, _⟩ := h
    rfl
  · obtain ⟨c, G, r, rfl, g, u, q⟩ := h
    refine ⟨_, pss_cons (ps_expr (pe_take T hr (passW (takes_of rfl rfl rfl rfl) fun _ _ _ _ z => z) (by decide +kernel) me_var (pv 0))) (pss_cons (ps_set (i := 1) sc_parse_share.nd rfl (Or.inl rfl) (pe_take T hr (passW (takes_of rfl rfl rfl rfl) fun _ _ _ _ z => z) (by decide +kernel) me_var (pv 0)))
      (pss_cons (ps_expr (pe_take T hr (passW (takes_of rfl rfl rfl rfl) fun _ _ _ _ z => z) (by decide +kernel) me_var (pv 0))) (pss_one (ps_ret (pe_tup (pa_cons (pv 1) (pa_cons (pe_take T hr (passW (takes_of rfl rfl rfl rfl) fun _ _ _ _ z => z) (by decide +kernel) me_var (pv 0)) pa_nil))))))), ?_⟩
    refine ⟨_, rfl, c, G, r, rfl, g, u, q.seq fun _ r v1 H G _ _ _ g u _ q => ?_⟩
    refine ⟨_, rfl, c, G, r, rfl, g, u, q.seq fun t1 r v1 H1 G1 _ s1 x1 g u hx1 q => ?_⟩
    refine ⟨_, rfl, c, G1, r, rfl, g, u, q.seq fun _ r _ H2 G2 _ s2 x2 g u _ q => ?_⟩
    refine ⟨_, rfl, _, rfl, c, G2, r, rfl, g, u, q.seq fun t2 r v2 H3 G3 _ s3 x3 g u hx2 q => ?_⟩
    refine ⟨by show 2 ≤ sizeLine; decide, fun p hp => ?_⟩
    obtain ⟨o, ho⟩ := u.here
    refine q.done (G' := upd G3 p (.tup [v1, v2])) (but_of (same_upd hp)) (Ext.add hp g) (same_fin (g.trans (same_upd hp)) upd_same) (u.stay (Ext.add hp g) (upd_ne (ne_of_none ho hp))) ⟨p, v1, v2, rfl, upd_same, ?_, ?_⟩
    · exact (hx1.mono (x2.le.trans x3.le)).mono (Ext.add hp g).le
    · exact hx2.mono (Ext.add hp g).le
end
end Fs
-- FsG
set_option Elab.async false
set_option linter.all false
set_option maxRecDepth 100000
set_option maxHeartbeats 4000000
namespace Fs
open PySem PySem.Spec PyProof.Rows L2
section
variable {P : Program} {w : World} {K : PySem.W.Frag} {mg : Str → Option Value} {base h : Heap}
theorem nf {G H : Hp} (g : Same G H) {p : Addr} (h : H p = none) : G p = none := Same.free g h
/-- a list that is ours and changes: in H, not finished -/
structure Own (H G : Hp) (l : Addr) (vs : List V) : Prop where
  at_ : H l = some (.lst vs)
  nG : G l = none
/-- where a parser stands: since H0, G0; the finished part; the cursor -/
structure At (K : PySem.W.Frag) (c : Addr) (H0 G0 H G : Hp) (r : Toks) : Prop where
  sb : SameBut c H0 H
  ex : Ext G0 G H0
  g : Same G H
  u : CurAt K H G c r
variable {c l p : Addr} {H0 G0 H G H' G' : Hp} {r r' : Toks} {vs ws : List V} {o : HO}
theorem At.refl (g : Same G H) (u : CurAt K H G c r) : At K c H G H G r := ⟨SameBut.refl, Ext.refl, g, u⟩
theorem Own.ne (w : Own H G l vs) (u : CurAt K H G c r) : l ≠ c := by
  obtain ⟨dx, tl, ws, pre, h1, _⟩ := u.at_
  exact ne_of w.at_ h1 (by intro z; cases z)
theorem Own.keep (w : Own H G l vs) (u : CurAt K H G c r) (sb : SameBut c H H') (x : Ext G G' H) : Own H' G' l vs := ⟨sb _ _ w.at_ (w.ne u), by rw [x.new _ _ w.at_]; exact w.nG⟩
theorem Own.new (g : Same G H) (h : H l = none) : Own (upd H l (.lst vs)) G l vs := ⟨upd_same, nf g h⟩
theorem Own.add (w : Own H G l vs) (h : H p = none) : Own (upd H p o) G l vs := ⟨by rw [upd_ne (ne_of_none w.at_ h)]; exact w.at_, w.nG⟩
theorem Own.put (w : Own H G l vs) (n : l ≠ p) : Own (upd H p o) G l vs := ⟨by rw [upd_ne n]; exact w.at_, w.nG⟩
theorem Own.set (w : Own H G l vs) : Own (upd H l (.lst ws)) G l ws := ⟨upd_same, w.nG⟩
theorem Own.finO (w : Own H G l vs) (n : l ≠ p) : Own H (upd G p o) l vs := ⟨w.at_, by rw [upd_ne n]; exact w.nG⟩
theorem CurAt.len (u : CurAt K H G c r) : r.length ≤ 1000000 := by
  obtain ⟨_, _, _, pre, _, _, _, h4⟩ := u.at_
  rw [List.length_append] at h4
  omega
theorem At.free (a : At K c H0 G0 H G r) (n : H p = none) : H0 p = none := by
  cases e : H0 p with
  | none => rfl
  | some o =>
    by_cases hb : p = c
    · rw [hb] at n
      obtain ⟨o', e'⟩ := a.u.here
      rw [e'] at n; cases n
    · rw [a.sb _ _ e hb] at n; cases n
/-- another parser went on -/
theorem At.step (a : At K c H0 G0 H G r) (sb : SameBut c H H') (x : Ext G G' H) (g : Same G' H') (u : CurAt K H' G' c r') : At K c H0 G0 H' G' r' := ⟨a.sb.trans sb, a.ex.trans x a.sb a.u.here, g, u⟩
/-- a new object that may change -/
theorem At.new (a : At K c H0 G0 H G r) (n : H p = none) : At K c H0 G0 (upd H p o) G r := by
  obtain ⟨o', e'⟩ := a.u.here
  exact ⟨a.sb.trans (but_of (same_upd n)), a.ex, a.g.trans (same_upd n), a.u.stay Ext.refl (upd_ne (ne_of_none e' n))⟩
/-- a new object, finished -/
theorem At.newF (a : At K c H0 G0 H G r) (n : H p = none) : At K c H0 G0 (upd H p o) (upd G p o) r := by
  obtain ⟨o', e'⟩ := a.u.here
  exact ⟨a.sb.trans (but_of (same_upd n)), a.ex.trans (Ext.add n a.g) a.sb a.u.here, same_fin (a.g.trans (same_upd n)) upd_same, a.u.stay (Ext.add n a.g) (upd_ne (ne_of_none e' n))⟩
/-- .. that came with others -/
theorem At.newR (a : At K c H0 G0 H G r) (n : H p = none) (s : Same H H') (e : H' p = some o) : At K c H0 G0 H' (upd G p o) r := by
  obtain ⟨o', e'⟩ := a.u.here
  exact ⟨a.sb.trans (but_of s), a.ex.trans (Ext.add n a.g) a.sb a.u.here, same_fin (a.g.trans s) e, a.u.stay (Ext.add n a.g) ((s _ _ e').trans e'.symm)⟩
theorem At.more (a : At K c H0 G0 H G r) (s : Same H H') : At K c H0 G0 H' G r := by
  obtain ⟨o', e'⟩ := a.u.here
  exact ⟨a.sb.trans (but_of s), a.ex, a.g.trans s, a.u.stay Ext.refl ((s _ _ e').trans e'.symm)⟩
/-- our list changes -/
theorem At.put (a : At K c H0 G0 H G r) (w : Own H G l vs) (n : H0 l = none) : At K c H0 G0 (upd H l o) G r :=
  ⟨fun b u e m => by rw [upd_ne (ne_of_none e n)]; exact a.sb b u e m, a.ex, same_mut a.g w.nG, a.u.stay Ext.refl (upd_ne (Ne.symm (w.ne a.u)))⟩
/-- our list is finished -/
theorem At.fin (a : At K c H0 G0 H G r) (w : Own H G l vs) (n : H0 l = none) : At K c H0 G0 H (upd G l (.lst vs)) r :=
  ⟨a.sb, ⟨fun b u e => by
    have e2 := a.ex.le b u e
    rw [upd_ne (ne_of_none e2 w.nG)]
    exact e2, fun b u e => by rw [upd_ne (ne_of_none e n)]; exact a.ex.new b u e⟩, same_fin a.g w.at_, by
    obtain ⟨dx, tl, us, pre, h1, h2, h3, h4⟩ := a.u.at_
    have s : Same G (upd G l (.lst vs)) := fun b u e => by rw [upd_ne (ne_of_none e w.nG)]; exact e
    exact ⟨⟨dx, tl, us, pre, h1, s _ _ h2, pmono (fun _ _ => TokR.mono s) h3, h4⟩, by rw [upd_ne (Ne.symm (w.ne a.u))]; exact a.u.nG, a.u.eo⟩⟩
theorem Own.le (w : Own H G l vs) : Same G (upd G l o) := fun b u e => by rw [upd_ne (ne_of_none e w.nG)]; exact e
theorem newG (g : Same G H) (n : H p = none) : Same G (upd G p o) := (Ext.add n g).le
/-- one parser behind another -/
theorem Post.seqA {α β : Type} {R : Hp → Hp → V → β → Prop} {R1 : Hp → Hp → V → α → Prop} {Q Q1 : VK} {E : XK} {m : Res (α × Toks)} {f : α × Toks → Res (β × Toks)} (h : Post K H0 G0 c R Q E (m >>= f)) (a : At K c H0 G0 H G r)
    (k : ∀ x r' v H' G', m = .ok (x, r') → SameBut c H H' → Ext G G' H → At K c H0 G0 H' G' r' → R1 H' G' v x → Post K H0 G0 c R Q E (f (x, r')) → Q1 v H') : Post K H G c R1 Q1 E m := by
  cases m with
  | error e => exact ErrC.later (show ErrC K c H0 E e from h) a.sb
  | ok p =>
    obtain ⟨y, r⟩ := p
    intro v H' G' s' x' i c' q
    exact k y r v H' G' rfl s' x' (a.step s' x' i c') q h
/-- the last parser -/
theorem Post.lastA {α β : Type} {R : Hp → Hp → V → β → Prop} {R1 : Hp → Hp → V → α → Prop} {Q Q1 : VK} {E : XK} {m : Res (α × Toks)} {m' : Res (β × Toks)} {f : α → β} (h : Post K H0 G0 c R Q E m') (a : At K c H0 G0 H G r) (e : m' = m >>= fun p => .ok (f p.1, p.2))
    (k : ∀ x r' v H' G', m = .ok (x, r') → SameBut c H H' → Ext G G' H → At K c H0 G0 H' G' r' → R1 H' G' v x → Post K H0 G0 c R Q E (.ok (f x, r')) → Q1 v H') : Post K H G c R1 Q1 E m := by
  subst e
  exact Post.seqA h a k
theorem Post.retA {α : Type} {R : Hp → Hp → V → α → Prop} {Q : VK} {E : XK} {x : α} {v : V} (h : Post K H0 G0 c R Q E (.ok (x, r))) (a : At K c H0 G0 H G r) (q : R H G v x) : Q v H := h v H G a.sb a.ex a.g a.u q
/-- the very parser -/
theorem Post.sameA {α : Type} {R : Hp → Hp → V → α → Prop} {Q : VK} {E : XK} {m : Res (α × Toks)} (h : Post K H0 G0 c R Q E m) (a : At K c H0 G0 H G r) : Post K H G c R Q E m := h.later a.sb a.ex a.u.here
theorem take_len {ks : List Str} {t : Tok} (h : take ks r = .ok (t, r')) : r.length = r'.length + 1 := by
  cases r with
  | nil => cases h
  | cons x l =>
    have h' : (if ks.contains x.kind then (Except.ok (x, l) : Res (Tok × Toks)) else .error (.syn x.line x.col)) = .ok (t, r') := h
    by_cases hx : ks.contains x.kind = true
    · rw [if_pos hx] at h'
      cases h'; rfl
    · rw [if_neg hx] at h'
      cases h'
theorem len2 (h : r.length ≤ 1000000) {n : Nat} (hn : n ≤ r.length) : n < sizeLine := Nat.lt_of_le_of_lt (Nat.le_trans hn h) (by decide)
/-- parse_expression -/
theorem p_exp (T : Txt K w mg h) : ∃ fd, FunD K "parse_expression" "parse_expression" (defArgs s_parse_expression) (defBody s_parse_expression) (defScope s_parse_expression) [] [] (He.ga K "parse_expression") fd ∧ Binds K fd ["cursor"] [] ∧ FnOk P w K mg base (L2.CX P w) 5 (He.ga K "parse_expression") fd ["cursor"] (spCur K pExpr (ExR K)) := by
  obtain ⟨fd, F⟩ := f_parse_expression T
  refine ⟨fd, F, F.bindsN fun _ _ _ _ _ _ us hl => match us, hl with | [_], _ => rfl, ?_⟩
  refine F.ok sc_parse_expression (fun vs H Q E h => ?_) (fun cdv A outer s H vs Q E hr h => ?_)
  · obtain ⟨c, G, r, rfl, _⟩ := h
    rfl
  · obtain ⟨c, G, r, rfl, g, u, q⟩ := h
    have hr1 : Room 1 _ := hr.mono (by decide)
    have hr2 : Room 2 _ := hr.mono (by decide)
    have hr3 : Room 3 _ := hr.mono (by decide)
    have nd := sc_parse_expression.nd
    refine ⟨_, pss_cons (ps_set (i := 1) nd rfl (Or.inl rfl) (pe_lst (pa_cons (pe_takeA T hr3 (passW (takes_of rfl rfl rfl rfl) fun _ _ _ _ z => z) me_var (pv 0) (pe_glob (v := .ref _) rfl (v_TERMS T) rfl) me_c) pa_nil)))
      (pss_cons (ps_set (i := 2) nd rfl (Or.inl rfl) (pe_lst pa_nil))
      (pss_cons (ps_while (passes_of rfl) (pt_cmpR op_in_seq (pe_ahead T hr1 (passW (takes_of rfl rfl rfl rfl) fun _ _ _ _ z => z) me_var (pv 0)) (pe_glob (v := .ref _) rfl (v_OPERATORS T) rfl) (by rfl))
        (pss_cons (ps_expr (pe_bm PySem.F.plainAttrs_list PySem.F.slot_list_append PySem.F.type_list_append mt_append (pv 2) (pa_cons (pe_fld (pe_takeA T hr3 (passW (takes_of rfl rfl rfl rfl) fun _ _ _ _ z => z) me_var (pv 0) (pe_glob (v := .ref _) rfl (v_OPERATORS T) rfl) me_c) rfl) pa_nil)))
        (pss_one (ps_expr (pe_bm PySem.F.plainAttrs_list PySem.F.slot_list_append PySem.F.type_list_append mt_append (pv 1) (pa_cons (pe_takeA T hr3 (passW (takes_of rfl rfl rfl rfl) fun _ _ _ _ z => z) me_var (pv 0) (pe_glob (v := .ref _) rfl (v_TERMS T) rfl) me_c) pa_nil))))))
      (pss_one (ps_ret (pe_rec (pr_Expression T) hr2 (passW (takes_of rfl rfl rfl rfl) fun _ _ _ _ z => z) (pa_cons (pv 1) (pa_cons (pv 2) pa_nil)) rfl (mo_cons me_var (mo_cons me_var mo_nil))))))), ?_⟩
    have A0 : At K c H G H G r := At.refl g u
    have hlen := u.len
    obtain ⟨dx, fs, hc, l1, l2, l3⟩ := u.obj
    refine ⟨_, rfl, ⟨c, dx, fs, rfl, hc, l3⟩, c, G, r, _, terms, rfl, rfl, t_TERMS T H, (by decide +kernel), g, u, q.seqA A0 fun t0 r1 v1 H1 G1 e1 s1 x1 A1 hx1 q1 => ?_⟩
    refine ⟨by show 1 ≤ sizeLine; decide, fun lt hlt => ?_⟩
    have w1 : Own (upd H1 lt (.lst [v1])) G1 lt [v1] := Own.new A1.g hlt
    have A2 := A1.new (o := .lst [v1]) hlt
    have z1 : H lt = none := A1.free hlt
    refine ⟨by show 0 ≤ sizeLine; decide, fun lo hlo => ?_⟩
    have z2 : H lo = none := A2.free hlo
    have w2 : Own (upd (upd H1 lt (.lst [v1])) lo (.lst [])) G1 lo [] := Own.new A2.g hlo
    have nlo : lt ≠ lo := ne_of_none w1.at_ hlo
    have ll := take_len e1
    refine ⟨fun m σ H' => ∃ G' r' aT aO vs, m = r'.length ∧ σ = [some (.ref c), some (.ref lt), some (.ref lo)] ∧ At K c H G H' G' r' ∧ Own H' G' lt vs ∧ Paired (TokR K G') vs aT ∧ Own H' G' lo (aO.map V.str) ∧ aT.length + r'.length ≤ r.length ∧ aO.length + r'.length ≤ r.length ∧
      ∃ n, r'.length ≤ n ∧ Post K H G c (fun _ => ExR K) Q E (pTail n aT aO r'), ⟨r1.length, G1, r1, [t0], [], [v1], rfl, rfl, A2.new hlo, w1.add hlo, .cons hx1 .nil, w2, by simp; omega, by simp; omega, r.length, by omega, q1⟩, ?_⟩
    rintro m σ H' ⟨G', r', aT, aO, vs, rfl, rfl, A', o1, pT, o2, b1, b2, n, hn, q'⟩
    obtain ⟨t, l, rfl⟩ := A'.u.eo.ne
    obtain ⟨n, rfl⟩ : ∃ k, n = k + 1 := ⟨n - 1, by simp at hn; omega⟩
    refine ⟨_, rfl, c, G', _, rfl, A'.g, A'.u, _, _, rfl, .inr (t_OPERATORS T _), rfl, flat_strs opers, _, rfl, ?_⟩
    rw [show inV (.str (ahead (t :: l))) [V.str "+", V.str "-", V.str "*"] = opers.contains (ahead (t :: l)) from inV_strs _ opers]
    unfold pTail at q'
    cases e : opers.contains (ahead (t :: l)) with
    | false =>
      rw [if_neg (by rw [e]; decide)] at q'
      refine iteF ?_
      refine ⟨_, rfl, _, rfl, rfl, fun p dx H2 np sm hp => ?_⟩
      have A3 := (A'.fin o1 z1).fin (o2.finO (Ne.symm nlo)) z2
      refine q'.retA (A3.newR np sm hp) ⟨p, dx, .ref lt, .ref lo, rfl, upd_same, ⟨lt, vs, rfl, ?_, ?_⟩, lo, aO.map V.str, rfl, ?_, ?_⟩
      · rw [upd_ne (ne_of_none o1.at_ np), upd_ne nlo, upd_same]
      · exact pmono (fun _ _ => TokR.mono ((o1.le.trans (o2.finO (Ne.symm nlo)).le).trans (newG A3.g np))) pT
      · rw [upd_ne (ne_of_none o2.at_ np), upd_same]
      · clear b2 q' o2 A3 e
        induction aO with
        | nil => exact .nil
        | cons a l ih => exact .cons rfl ih
    | true =>
      rw [if_pos (by rw [e])] at q'
      refine iteT ⟨_, fun _ _ z => z, ?_⟩
      obtain ⟨dx, fs, hc, l1, l2, l3⟩ := A'.u.obj
      refine ⟨_, rfl, .inl ⟨rfl, _, SqL.of o2.at_⟩, _, rfl, ⟨c, dx, fs, rfl, hc, l3⟩, c, G', _, _, opers, rfl, rfl, t_OPERATORS T _, (by decide +kernel), A'.g, A'.u, q'.seqA A' fun ot r2 v2 H2 G2 e2 s2 x2 A2 hx2 q2 => ?_⟩
      obtain ⟨oa, odx, rfl, oh, _⟩ := hx2
      have o1' := o1.keep A'.u s2 x2
      have o2' := o2.keep A'.u s2 x2
      have pT2 := pmono (fun _ _ => TokR.mono x2.le) pT
      refine ⟨oa, _, odx, _, _, rfl, A2.g _ _ oh, c_Token T, na_Token_text T, (by kernel_rfl : _ = some (V.str ot.text)), lo, _, _, rfl, rfl, o2'.at_, (by rw [List.length_map]; exact len2 hlen (by omega)), ?_⟩
      have A3 := A2.put (o := .lst (aO.map V.str ++ [.str ot.text])) o2' z2
      obtain ⟨dx, fs, hc, l1, l2, l3⟩ := A3.u.obj
      refine ⟨_, rfl, .inl ⟨rfl, _, SqL.of (o1'.put nlo).at_⟩, _, rfl, ⟨c, dx, fs, rfl, hc, l3⟩, c, G2, _, _, terms, rfl, rfl, t_TERMS T _, (by decide +kernel), A3.g, A3.u, q2.seqA A3 fun tt r3 v3 H3 G3 e3 s3 x3 A4 hx3 q3 => ?_⟩
      have o1'' := (o1'.put nlo).keep A3.u s3 x3
      have o2'' := (o2'.set (ws := aO.map V.str ++ [.str ot.text])).keep A3.u s3 x3
      have k1 : (t :: l).length = r2.length + 1 := take_len e2
      have k2 : r2.length = r3.length + 1 := take_len e3
      have pl := Paired.length pT
      refine ⟨lt, vs, v3, rfl, rfl, o1''.at_, len2 hlen (by omega), r3.length, by omega, G3, r3, aT ++ [tt], aO ++ [ot.text], vs ++ [v3], rfl, rfl, A4.put o1'' z1, o1''.set, paired_snoc (pmono (fun _ _ => TokR.mono x3.le) pT2) hx3, ?_, ?_, ?_, n, ?_, q3⟩
      · rw [List.map_append]
        exact o2''.put (Ne.symm nlo)
      · rw [List.length_append]; simp at *; omega
      · rw [List.length_append]; simp at *; omega
      · simp at *; omega
end
end Fs
-- FsI
set_option Elab.async false
set_option linter.all false
set_option maxRecDepth 100000
set_option maxHeartbeats 4000000
namespace Fs
open PySem PySem.Spec PyProof.Rows L2
theorem bindA {α β γ : Type} (m : Res α) (f : α → Res β) (g : β → Res γ) : ((m >>= f) >>= g) = (m >>= fun x => f x >>= g) := by cases m <;> rfl
theorem bind_ok {α β : Type} {m : Res α} {f : α → Res β} {b : β} (h : (m >>= f) = .ok b) : ∃ a, m = .ok a ∧ f a = .ok b := by
  cases m with
  | error e => cases h
  | ok a => exact ⟨a, rfl, h⟩
theorem pTail_len : ∀ (n : Nat) (ts : List Tok) (os : List Str) (r : Toks) (e : Ex) (r' : Toks), pTail n ts os r = .ok (e, r') → r'.length ≤ r.length
  | 0, ts, os, r, e, r', h => by
    unfold pTail at h
    cases h
    exact Nat.le_refl _
  | n + 1, ts, os, r, e, r', h => by
    unfold pTail at h
    by_cases c : opers.contains (ahead r) = true
    · rw [if_pos c] at h
      obtain ⟨⟨o, r1⟩, h1, h⟩ := bind_ok h
      obtain ⟨⟨t, r2⟩, h2, h⟩ := bind_ok h
      have a := take_len h1
      have b : r1.length = r2.length + 1 := take_len h2
      have d := pTail_len n _ _ _ _ _ h
      simp only at d
      omega
    · rw [if_neg c] at h
      cases h
      exact Nat.le_refl _
theorem pExpr_len {r : Toks} {e : Ex} {r' : Toks} (h : pExpr r = .ok (e, r')) : r'.length ≤ r.length := by
  unfold pExpr at h
  obtain ⟨⟨t, r1⟩, h1, h⟩ := bind_ok h
  have a := take_len h1
  have d := pTail_len _ _ _ _ _ _ h
  simp only at d
  omega
section
variable {P : Program} {w : World} {K : PySem.W.Frag} {mg : Str → Option Value} {base h : Heap}
variable {c l p : Addr} {H0 G0 H G H' G' : Hp} {r r' : Toks} {vs ws : List V} {o : HO}
def spList {α : Type} (K : PySem.W.Frag) (f : Addr) (p : Toks → Res (α × Toks)) (R : Hp → V → α → Prop) : Sp := fun vs H Q E => ∃ c G r, vs = [.ref c, .ref f] ∧ Same G H ∧ CurAt K H G c r ∧ Post K H G c (fun _ G v xs => LstR (R G) G v xs) Q E (pList p r)
theorem p_list {α : Type} {p : Toks → Res (α × Toks)} {R : Hp → V → α → Prop} {f : Addr} {fdf : FuncData} (T : Txt K w mg h) (Ff : FnOk P w K mg base (L2.CX P w) 5 f fdf ["cursor"] (spCur K p R)) (bf : Binds K fdf ["cursor"] []) (kf : PySem.W.keepIn K (.ref f) = true)
    (hp : ∀ r x r', p r = .ok (x, r') → r'.length ≤ r.length) (hR : ∀ G G' v x, Same G G' → R G v x → R G' v x) : Prom P w K mg base "parse_list" 6 (spList K f p R) := by
  obtain ⟨fd, F⟩ := f_parse_list T
  refine ⟨_, fd, ["cursor", "parse_item"], g_parse_list T, F.kp, F.bindsN fun _ _ _ _ _ _ us hl => match us, hl with | [_, _], _ => rfl, ?_⟩
  refine F.ok sc_parse_list (fun vs H Q E h => ?_) (fun cdv A outer s H vs Q E hr h => ?_)
  · obtain ⟨c, G, r, rfl, _⟩ := h
    rfl
  · obtain ⟨c, G, r, rfl, g, u, q⟩ := h
    have hr1 : Room 1 _ := hr.mono (by decide)
    have hr4 : Room 4 _ := hr.mono (by decide)
    have nd := sc_parse_list.nd
    refine ⟨_, pss_cons (ps_expr (pe_take T hr4 (passW (takes_of rfl rfl rfl rfl) fun _ _ _ _ z => z) (by decide +kernel) me_var (pv 0))) (pss_cons (ps_set (i := 2) nd rfl (Or.inl rfl) (pe_lst pa_nil))
      (C8.pss_cut (ps_if (pt_cmpR op_ne (pe_ahead T hr1 (passW (takes_of rfl rfl rfl rfl) fun _ _ _ _ z => z) me_var (pv 0)) pe_str (nomark _))
          (pss_cons (ps_expr (pe_bm PySem.F.plainAttrs_list PySem.F.slot_list_append PySem.F.type_list_append mt_append (pv 2) (pa_cons (pe_callL (i := 1) Ff hr rfl (Or.inl rfl) kf bf .nil (passW (takes_of rfl rfl rfl rfl) fun _ _ _ _ z => z) (pa_cons (pv 0) pa_nil)) pa_nil)))
          (pss_one (ps_while (passes_of rfl) (pt_cmpR op_eq (pe_ahead T hr1 (passW (takes_of rfl rfl rfl rfl) fun _ _ _ _ z => z) me_var (pv 0)) pe_str (nomark _))
            (pss_cons (ps_expr (pe_take T hr4 (passW (takes_of rfl rfl rfl rfl) fun _ _ _ _ z => z) (by decide +kernel) me_var (pv 0)))
            (pss_one (ps_expr (pe_bm PySem.F.plainAttrs_list PySem.F.slot_list_append PySem.F.type_list_append mt_append (pv 2) (pa_cons (pe_callL (i := 1) Ff hr rfl (Or.inl rfl) kf bf .nil (passW (takes_of rfl rfl rfl rfl) fun _ _ _ _ z => z) (pa_cons (pv 0) pa_nil)) pa_nil))))))))
          pss_nil)
      (pss_cons (ps_expr (pe_take T hr4 (passW (takes_of rfl rfl rfl rfl) fun _ _ _ _ z => z) (by decide +kernel) me_var (pv 0))) (pss_one (ps_ret (pv 2)))))), ?_⟩
    have A0 : At K c H G H G r := At.refl g u
    have hlen := u.len
    refine ⟨_, rfl, c, G, r, rfl, g, u, q.seqA A0 fun t0 r1 v1 H1 G1 e1 s1 x1 A1 hx1 q1 => ?_⟩
    have k1 : r.length = r1.length + 1 := take_len e1
    refine ⟨by show 0 ≤ sizeLine; decide, fun l hl => ?_⟩
    have w1 : Own (upd H1 l (.lst [])) G1 l [] := Own.new A1.g hl
    have A2 := A1.new (o := .lst []) hl
    have z1 : H l = none := A1.free hl
    refine ⟨fun σ' H' => ∃ G' r' xs vs, σ' = [some (.ref c), some (.ref f), some (.ref l)] ∧ At K c H G H' G' r' ∧ Own H' G' l vs ∧ Paired (R G') vs xs ∧ Post K H G c (fun _ G v xs => LstR (R G) G v xs) Q E (take [")"] r' >>= fun d => .ok (xs, d.2)), ?_, ?_⟩
    · refine ⟨_, rfl, c, G1, r1, rfl, A2.g, A2.u, rfl, _, rfl, ?_⟩
      by_cases ca : ahead r1 = ")"
      · have q2 : Post K H G c (fun _ G v xs => LstR (R G) G v xs) Q E (take [")"] r1 >>= fun d => .ok (([] : List α), d.2)) := by
          have z : ¬ ahead (t0, r1).2 ≠ ")" := fun n => n ca
          rw [if_neg z] at q1
          exact q1
        rw [ca]
        refine iteF ?_
        exact ⟨G1, r1, [], [], rfl, A2, w1, .nil, q2⟩
      · have q2 : Post K H G c (fun _ G v xs => LstR (R G) G v xs) Q E (p r1 >>= fun b => pItems p r.length [b.1] b.2 >>= fun c => take [")"] c.2 >>= fun d => .ok (c.1, d.2)) := by
          have z : ahead (t0, r1).2 ≠ ")" := ca
          rw [if_pos z, bindA] at q1
          exact q1
        rw [show decide (V.str (ahead r1) = V.str ")") = false from decide_eq_false fun z => ca (V.str.inj z)]
        refine iteT ?_
        refine ⟨_, rfl, .inl ⟨rfl, _, SqL.of w1.at_⟩, rfl, _, rfl, c, G1, r1, rfl, A2.g, A2.u, q2.seqA A2 fun x1 r2 v2 H2 G2 e2 s2 x2 A3 hx2 q3 => ?_⟩
        have w2 := w1.keep A2.u s2 x2
        have k2 := hp _ _ _ e2
        refine ⟨l, _, v2, rfl, rfl, w2.at_, (by show 0 < sizeLine; decide), ?_⟩
        refine ⟨fun m σ H' => ∃ G' r' xs vs, m = r'.length ∧ σ = [some (.ref c), some (.ref f), some (.ref l)] ∧ At K c H G H' G' r' ∧ Own H' G' l vs ∧ Paired (R G') vs xs ∧ xs.length + r'.length ≤ r.length ∧ ∃ n, r'.length ≤ n ∧ Post K H G c (fun _ G v xs => LstR (R G) G v xs) Q E (pItems p n xs r' >>= fun c => take [")"] c.2 >>= fun d => .ok (c.1, d.2)),
          ⟨r2.length, G2, r2, [x1], [v2], rfl, rfl, A3.put w2 z1, w2.set, .cons hx2 .nil, by simp; omega, r.length, by omega, q3⟩, ?_⟩
        rintro m σ H' ⟨G', r', xs, vs, rfl, rfl, A', o1, pT, b1, n, hn, q'⟩
        refine ⟨_, rfl, c, G', _, rfl, A'.g, A'.u, rfl, _, rfl, ?_⟩
        obtain ⟨t, ll, rfl⟩ := A'.u.eo.ne
        obtain ⟨n, rfl⟩ : ∃ k, n = k + 1 := ⟨n - 1, by simp at hn; omega⟩
        unfold pItems at q'
        by_cases cb : ahead (t :: ll) = ","
        · rw [if_pos cb, bindA] at q'
          rw [cb]
          refine iteT ⟨_, fun _ _ z => z, ?_⟩
          refine ⟨_, rfl, c, G', _, rfl, A'.g, A'.u, q'.seqA A' fun t1 r3 v3 H3 G3 e3 s3 x3 A4 hx3 q4 => ?_⟩
          have k3 : (t :: ll).length = r3.length + 1 := take_len e3
          have o2 := o1.keep A'.u s3 x3
          rw [bindA] at q4
          refine ⟨_, rfl, .inl ⟨rfl, _, SqL.of o2.at_⟩, rfl, _, rfl, c, G3, r3, rfl, A4.g, A4.u, q4.seqA A4 fun x4 r4 v4 H4 G4 e4 s4 x4' A5 hx4 q5 => ?_⟩
          have o3 := o2.keep A4.u s4 x4'
          have k4 : r4.length ≤ r3.length := hp _ _ _ e4
          have pl := Paired.length pT
          refine ⟨l, _, v4, rfl, rfl, o3.at_, len2 hlen (by simp at *; omega), r4.length, by omega, G4, r4, xs ++ [x4], vs ++ [v4], rfl, rfl, A5.put o3 z1, o3.set, paired_snoc (pmono (fun _ _ => hR _ _ _ _ (x3.le.trans x4'.le)) pT) hx4, ?_, n, by omega, q5⟩
          rw [List.length_append]
          simp at *
          omega
        · rw [if_neg cb] at q'
          rw [show decide (V.str (ahead (t :: ll)) = V.str ",") = false from decide_eq_false fun z => cb (V.str.inj z)]
          refine iteF ?_
          exact ⟨G', _, xs, vs, rfl, A', o1, pT, q'⟩
    · rintro σ' H' ⟨G', r', xs, vs, rfl, A', o1, pT, q'⟩
      refine ⟨_, rfl, c, G', r', rfl, A'.g, A'.u, q'.seqA A' fun t3 r3 v3 H3 G3 e3 s3 x3 A4 hx3 q4 => ?_⟩
      have o2 := o1.keep A'.u s3 x3
      exact ⟨_, rfl, q4.retA (A4.fin o2 z1) ⟨l, vs, rfl, upd_same, pmono (fun _ _ => hR _ _ _ _ (x3.le.trans o2.le)) pT⟩⟩
end
end Fs
-- FsJ
set_option Elab.async false
set_option linter.all false
set_option maxRecDepth 100000
set_option maxHeartbeats 4000000
namespace Fs
open PySem PySem.Spec PyProof.Rows L2
/-- a statement that was just read: its blocks are ours still -/
def HdR (K : PySem.W.Frag) (O H G : Hp) (v : V) : St → Prop
  | .ite k l c r b1 b2 => b1 = [] ∧ b2 = [] ∧ ∃ a dx k' l' r' f s, v = .ref a ∧ G a = some (.ins (He.ga K "IfStatement") dx (ifF k' l' (.str c) r' f s)) ∧ TokR K G k' k ∧ ExR K G l' l ∧ ExR K G r' r ∧ Own H G f [] ∧ Own H G s [] ∧ f ≠ s ∧ O f = none ∧ O s = none
  | .loop k e b => b = [] ∧ ∃ a dx k' e' f, v = .ref a ∧ G a = some (.ins (He.ga K "LoopStatement") dx (lpF k' e' f)) ∧ TokR K G k' k ∧ ExR K G e' e ∧ Own H G f [] ∧ O f = none
  | s => StR K G v s
section
variable {P : Program} {w : World} {K : PySem.W.Frag} {mg : Str → Option Value} {base h : Heap}
variable {c l p : Addr} {H0 G0 H G H' G' : Hp} {r r' : Toks} {vs ws : List V} {o : HO}
/-- what a keyword's parser promises -/
def spHd (K : PySem.W.Frag) (m : Tok → Toks → Res (St × Toks)) (ok : Tok → Prop) : Sp := fun vs H Q E => ∃ c G r v t, vs = [.ref c, v] ∧ ok t ∧ Same G H ∧ CurAt K H G c r ∧ TokR K G v t ∧ Post K H G c (HdR K H) Q E (m t r)
def spAsg (K : PySem.W.Frag) : Sp := fun vs H Q E => ∃ c G r v t kd, vs = [.ref c, v, .str kd] ∧ ([kd] : List Str).contains "end" = false ∧ Same G H ∧ CurAt K H G c r ∧ TokR K G v t ∧ Post K H G c (HdR K H) Q E (pAsg t kd r)
theorem pr_exp (T : Txt K w mg h) : Prom P w K mg base "parse_expression" 5 (spCur K pExpr (ExR K)) := prom_of (g_parse_expression T) (p_exp T)
theorem p_asg (T : Txt K w mg h) : Prom P w K mg base "parse_assignment" 6 (spAsg K) := by
  obtain ⟨fd, F⟩ := f_parse_assignment T
  refine ⟨_, fd, ["cursor", "keyword", "kind"], g_parse_assignment T, F.kp, F.bindsN fun _ _ _ _ _ _ us hl => match us, hl with | [_, _, _], _ => rfl, ?_⟩
  refine F.ok sc_parse_assignment (fun vs H Q E h => ?_) (fun cdv A outer s H vs Q E hr h => ?_)
  · obtain ⟨c, G, r, v, t, kd, rfl, _⟩ := h
    rfl
  · obtain ⟨c, G, r, kv, kt, kd, rfl, hkd, g, u, hkv, q⟩ := h
    have hr4 : Room 4 _ := hr.mono (by decide)
    have hr3 : Room 3 _ := hr.mono (by decide)
    have nd := sc_parse_assignment.nd
    refine ⟨_, pss_cons (ps_set (i := 3) nd rfl (Or.inl rfl) (pe_takeV T hr4 (passW (takes_of rfl rfl rfl rfl) fun _ _ _ _ z => z) me_var (pv 0) (pv 2) me_var)) (pss_cons (ps_expr (pe_take T hr4 (passW (takes_of rfl rfl rfl rfl) fun _ _ _ _ z => z) (by decide +kernel) me_var (pv 0)))
      (pss_cons (ps_set (i := 4) nd rfl (Or.inl rfl) (pe_p (pr_exp T) hr (passW (takes_of rfl rfl rfl rfl) fun _ _ _ _ z => z) (pa_cons (pv 0) pa_nil))) (pss_cons (ps_expr (pe_take T hr4 (passW (takes_of rfl rfl rfl rfl) fun _ _ _ _ z => z) (by decide +kernel) me_var (pv 0)))
      (pss_one (ps_ret (pe_rec (pr_AssignStatement T) hr3 (passW (takes_of rfl rfl rfl rfl) fun _ _ _ _ z => z) (pa_cons (pv 1) (pa_cons (pv 3) (pa_cons (pv 4) pa_nil))) rfl (mo_cons me_var (mo_cons me_var (mo_cons me_var mo_nil))))))))), ?_⟩
    have A0 : At K c H G H G r := At.refl g u
    obtain ⟨dx, fs, hc, l1, l2, l3⟩ := u.obj
    refine ⟨_, rfl, ⟨c, dx, fs, rfl, hc, l1⟩, _, rfl, c, G, r, kd, rfl, rfl, hkd, g, u, q.seqA A0 fun t1 r1 v1 H1 G1 e1 s1 x1 A1 hx1 q1 => ?_⟩
    refine ⟨_, rfl, c, G1, r1, rfl, A1.g, A1.u, q1.seqA A1 fun t2 r2 v2 H2 G2 e2 s2 x2 A2 hx2 q2 => ?_⟩
    refine ⟨_, rfl, c, G2, r2, rfl, A2.g, A2.u, q2.seqA A2 fun t3 r3 v3 H3 G3 e3 s3 x3 A3 hx3 q3 => ?_⟩
    refine ⟨_, rfl, c, G3, r3, rfl, A3.g, A3.u, q3.seqA A3 fun t4 r4 v4 H4 G4 e4 s4 x4 A4 hx4 q4 => ?_⟩
    refine ⟨_, rfl, _, rfl, _, rfl, rfl, fun p dx H5 np sm hp => q4.retA (A4.newR np sm hp) ?_⟩
    have y := newG (o := .ins (He.ga K "AssignStatement") dx [("keyword", kv), ("target", v1), ("expression", v3)]) A4.g np
    unfold HdR
    unfold StR
    exact ⟨p, dx, kv, v1, v3, rfl, upd_same, hkv.mono ((((x1.le.trans x2.le).trans x3.le).trans x4.le).trans y), hx1.mono (((x2.le.trans x3.le).trans x4.le).trans y), hx3.mono (x4.le.trans y)⟩
theorem p_val (T : Txt K w mg h) : PromAt P w K mg base (He.ga K "parse_value") 7 (spHd K pVal fun t => t.kind = ("emit" : Str) ∨ t.kind = ("return" : Str)) := by
  obtain ⟨fd, F⟩ := f_parse_value T
  refine ⟨fd, ["cursor", "keyword"], F.kp, F.bindsN fun _ _ _ _ _ _ us hl => match us, hl with | [_, _], _ => rfl, ?_⟩
  refine F.ok sc_parse_value (fun vs H Q E h => ?_) (fun cdv A outer s H vs Q E hr h => ?_)
  · obtain ⟨c, G, r, v, t, rfl, _⟩ := h
    rfl
  · obtain ⟨c, G, r, kv, kt, rfl, hok, g, u, hkv, q⟩ := h
    have hr4 : Room 4 _ := hr.mono (by decide)
    have hr5 : Room 5 _ := hr.mono (by decide)
    have hr3 : Room 3 _ := hr.mono (by decide)
    have nd := sc_parse_value.nd
    refine ⟨_, pss_cons (ps_set (i := 2) nd rfl (Or.inl rfl) (pe_p (pr_exp T) hr5 (passW (takes_of rfl rfl rfl rfl) fun _ _ _ _ z => z) (pa_cons (pv 0) pa_nil))) (pss_cons (ps_expr (pe_take T hr4 (passW (takes_of rfl rfl rfl rfl) fun _ _ _ _ z => z) (by decide +kernel) me_var (pv 0)))
      (pss_one (ps_ret (pe_rec (pr_ValueStatement T) hr3 (passW (takes_of rfl rfl rfl rfl) fun _ _ _ _ z => z) (pa_cons (pv 1) (pa_cons (pv 2) pa_nil)) rfl (mo_cons me_var (mo_cons me_var mo_nil)))))), ?_⟩
    have A0 : At K c H G H G r := At.refl g u
    refine ⟨_, rfl, c, G, r, rfl, g, u, q.seqA A0 fun t3 r3 v3 H3 G3 e3 s3 x3 A3 hx3 q3 => ?_⟩
    refine ⟨_, rfl, c, G3, r3, rfl, A3.g, A3.u, q3.seqA A3 fun t4 r4 v4 H4 G4 e4 s4 x4 A4 hx4 q4 => ?_⟩
    refine ⟨_, rfl, _, rfl, rfl, fun p dx H5 np sm hp => q4.retA (A4.newR np sm hp) ?_⟩
    have y := newG (o := .ins (He.ga K "ValueStatement") dx [("keyword", kv), ("expression", v3)]) A4.g np
    unfold HdR
    unfold StR
    exact ⟨p, dx, kv, v3, rfl, upd_same, hkv.mono ((x3.le.trans x4.le).trans y), hx3.mono (x4.le.trans y)⟩
theorem p_set (T : Txt K w mg h) : PromAt P w K mg base (He.ga K "parse_set") 7 (spHd K (fun t r => pAsg t "word" r) fun t => t.kind = ("set" : Str)) := by
  obtain ⟨fd, F⟩ := f_parse_set T
  refine ⟨fd, ["cursor", "keyword"], F.kp, F.bindsN fun _ _ _ _ _ _ us hl => match us, hl with | [_, _], _ => rfl, ?_⟩
  refine F.ok sc_parse_set (fun vs H Q E h => ?_) (fun cdv A outer s H vs Q E hr h => ?_)
  · obtain ⟨c, G, r, v, t, rfl, _⟩ := h
    rfl
  · obtain ⟨c, G, r, kv, kt, rfl, hok, g, u, hkv, q⟩ := h
    exact ⟨_, pss_one (ps_ret (pe_p (p_asg T) hr (passW (takes_of rfl rfl rfl rfl) fun _ _ _ _ z => z) (pa_cons (pv 0) (pa_cons (pv 1) (pa_cons pe_str pa_nil))))), _, rfl, _, rfl, c, G, r, kv, kt, _, rfl, (by decide +kernel), g, u, hkv, q⟩
theorem p_put (T : Txt K w mg h) : PromAt P w K mg base (He.ga K "parse_put") 7 (spHd K (fun t r => pAsg t "cell" r) fun t => t.kind = ("put" : Str)) := by
  obtain ⟨fd, F⟩ := f_parse_put T
  refine ⟨fd, ["cursor", "keyword"], F.kp, F.bindsN fun _ _ _ _ _ _ us hl => match us, hl with | [_, _], _ => rfl, ?_⟩
  refine F.ok sc_parse_put (fun vs H Q E h => ?_) (fun cdv A outer s H vs Q E hr h => ?_)
  · obtain ⟨c, G, r, v, t, rfl, _⟩ := h
    rfl
  · obtain ⟨c, G, r, kv, kt, rfl, hok, g, u, hkv, q⟩ := h
    exact ⟨_, pss_one (ps_ret (pe_p (p_asg T) hr (passW (takes_of rfl rfl rfl rfl) fun _ _ _ _ z => z) (pa_cons (pv 0) (pa_cons (pv 1) (pa_cons pe_str pa_nil))))), _, rfl, _, rfl, c, G, r, kv, kt, _, rfl, (by decide +kernel), g, u, hkv, q⟩
theorem p_if (T : Txt K w mg h) : PromAt P w K mg base (He.ga K "parse_if") 7 (spHd K pIf fun t => t.kind = ("if" : Str)) := by
  obtain ⟨fd, F⟩ := f_parse_if T
  refine ⟨fd, ["cursor", "keyword"], F.kp, F.bindsN fun _ _ _ _ _ _ us hl => match us, hl with | [_, _], _ => rfl, ?_⟩
  refine F.ok sc_parse_if (fun vs H Q E h => ?_) (fun cdv A outer s H vs Q E hr h => ?_)
  · obtain ⟨c, G, r, v, t, rfl, _⟩ := h
    rfl
  · obtain ⟨c, G, r, kv, kt, rfl, hok, g, u, hkv, q⟩ := h
    have hr5 : Room 5 _ := hr.mono (by decide)
    have hr3 : Room 3 _ := hr.mono (by decide)
    have nd := sc_parse_if.nd
    refine ⟨_, pss_cons (ps_set (i := 2) nd rfl (Or.inl rfl) (pe_p (pr_exp T) hr5 (passW (takes_of rfl rfl rfl rfl) fun _ _ _ _ z => z) (pa_cons (pv 0) pa_nil))) (pss_cons (ps_set (i := 3) nd rfl (Or.inl rfl) (pe_takeA T hr3 (passW (takes_of rfl rfl rfl rfl) fun _ _ _ _ z => z) me_var (pv 0) (pe_glob (v := .ref _) rfl (v_COMPARISONS T) rfl) me_c))
      (pss_cons (ps_set (i := 4) nd rfl (Or.inl rfl) (pe_p (pr_exp T) hr5 (passW (takes_of rfl rfl rfl rfl) fun _ _ _ _ z => z) (pa_cons (pv 0) pa_nil)))
      (pss_one (ps_ret (pe_mkI (pi_If T) hr3 (passW (takes_of rfl rfl rfl rfl) fun _ _ _ _ z => z) (pa_cons (pv 1) (pa_cons (pv 2) (pa_cons (pe_fld (pv 3) rfl) (pa_cons (pv 4) pa_nil))))))))), ?_⟩
    have A0 : At K c H G H G r := At.refl g u
    refine ⟨_, rfl, c, G, r, rfl, g, u, q.seqA A0 fun t1 r1 v1 H1 G1 e1 s1 x1 A1 hx1 q1 => ?_⟩
    obtain ⟨dx, fs, hc, l1, l2, l3⟩ := A1.u.obj
    refine ⟨_, rfl, ⟨c, dx, fs, rfl, hc, l3⟩, c, G1, r1, _, cmps, rfl, rfl, t_COMPARISONS T _, (by decide +kernel), A1.g, A1.u, q1.seqA A1 fun t2 r2 v2 H2 G2 e2 s2 x2 A2 hx2 q2 => ?_⟩
    refine ⟨_, rfl, c, G2, r2, rfl, A2.g, A2.u, q2.seqA A2 fun t3 r3 v3 H3 G3 e3 s3 x3 A3 hx3 q3 => ?_⟩
    obtain ⟨ta, tdx, rfl, th, _⟩ := hx2
    refine ⟨_, rfl, _, rfl, _, rfl, ta, _, tdx, _, _, rfl, A3.g _ _ (x3.le _ _ th), c_Token T, na_Token_text T, (by kernel_rfl : _ = some (V.str t2.text)), _, rfl, fun p dx np nd' ne => ?_⟩
    refine ⟨p, dx, kv, v1, .str t2.text, v3, rfl, upd_same, fun f s H5 nf' ns nfs h1 h2 h3 h4 => ⟨rfl, ?_⟩⟩
    have npd : ∀ b u, H3 b = some u → upd (upd H3 dx (.own p)) p (.ins (He.ga K "IfStatement") dx []) b = some u := fun b u e => by rw [upd_ne (ne_of_none e np), upd_ne (ne_of_none e nd')]; exact e
    have sm : Same H3 H5 := fun b u e => h4 b u (npd b u e) (ne_of_none e np)
    have fp : f ≠ p := fun z => by rw [z, upd_same] at nf'; cases nf'
    have sp' : s ≠ p := fun z => by rw [z, upd_same] at ns; cases ns
    have hf3 : H3 f = none := Same.free (fun b u e => npd b u e) nf'
    have hs3 : H3 s = none := Same.free (fun b u e => npd b u e) ns
    have A4 := A3.newR np sm h3
    refine q3.retA A4 ?_
    have y := newG (o := .ins (He.ga K "IfStatement") dx (ifF kv v1 (.str t2.text) v3 f s)) A3.g np
    unfold HdR
    exact ⟨rfl, rfl, p, dx, kv, v1, v3, f, s, rfl, upd_same, hkv.mono ((((x1.le.trans x2.le).trans x3.le)).trans y), hx1.mono ((x2.le.trans x3.le).trans y), hx3.mono y, ⟨h1, by rw [upd_ne fp]; exact nf A3.g hf3⟩, ⟨h2, by rw [upd_ne sp']; exact nf A3.g hs3⟩, nfs, A3.free hf3, A3.free hs3⟩
theorem p_loop (T : Txt K w mg h) : PromAt P w K mg base (He.ga K "parse_loop") 7 (spHd K pLoop fun t => t.kind = ("loop" : Str)) := by
  obtain ⟨fd, F⟩ := f_parse_loop T
  refine ⟨fd, ["cursor", "keyword"], F.kp, F.bindsN fun _ _ _ _ _ _ us hl => match us, hl with | [_, _], _ => rfl, ?_⟩
  refine F.ok sc_parse_loop (fun vs H Q E h => ?_) (fun cdv A outer s H vs Q E hr h => ?_)
  · obtain ⟨c, G, r, v, t, rfl, _⟩ := h
    rfl
  · obtain ⟨c, G, r, kv, kt, rfl, hok, g, u, hkv, q⟩ := h
    have hr5 : Room 5 _ := hr.mono (by decide)
    have hr3 : Room 3 _ := hr.mono (by decide)
    refine ⟨_, pss_one (ps_ret (pe_mkI (pi_Loop T) hr3 (passW (takes_of rfl rfl rfl rfl) fun _ _ _ _ z => z) (pa_cons (pv 1) (pa_cons (pe_p (pr_exp T) hr5 (passW (takes_of rfl rfl rfl rfl) fun _ _ _ _ z => z) (pa_cons (pv 0) pa_nil)) pa_nil)))), ?_⟩
    have A0 : At K c H G H G r := At.refl g u
    refine ⟨_, rfl, _, rfl, c, G, r, rfl, g, u, q.seqA A0 fun t3 r3 v3 H3 G3 e3 s3 x3 A3 hx3 q3 => ?_⟩
    intro p dx np nd' ne
    refine ⟨p, dx, kv, v3, rfl, upd_same, fun f H5 nf' h1 h3 h4 => ⟨rfl, ?_⟩⟩
    have npd : ∀ b u, H3 b = some u → upd (upd H3 dx (.own p)) p (.ins (He.ga K "LoopStatement") dx []) b = some u := fun b u e => by rw [upd_ne (ne_of_none e np), upd_ne (ne_of_none e nd')]; exact e
    have sm : Same H3 H5 := fun b u e => h4 b u (npd b u e) (ne_of_none e np)
    have fp : f ≠ p := fun z => by rw [z, upd_same] at nf'; cases nf'
    have hf3 : H3 f = none := Same.free (fun b u e => npd b u e) nf'
    have A4 := A3.newR np sm h3
    refine q3.retA A4 ?_
    have y := newG (o := .ins (He.ga K "LoopStatement") dx (lpF kv v3 f)) A3.g np
    unfold HdR
    exact ⟨rfl, p, dx, kv, v3, f, rfl, upd_same, hkv.mono (x3.le.trans y), hx3.mono y, ⟨h1, by rw [upd_ne fp]; exact nf A3.g hf3⟩, A3.free hf3⟩
theorem p_listE (T : Txt K w mg h) : Prom P w K mg base "parse_list" 6 (spList K (He.ga K "parse_expression") pExpr (ExR K)) := by
  obtain ⟨fd, F, b, G⟩ := p_exp (P := P) (w := w) (base := base) T
  exact p_list T G b F.kp (fun _ _ _ => pExpr_len) fun _ _ _ _ s => ExR.mono s
theorem p_listP (T : Txt K w mg h) : Prom P w K mg base "parse_list" 6 (spList K (He.ga K "parse_parameter") pPar (TokR K)) := by
  obtain ⟨fd, F, b, G⟩ := p_par (P := P) (w := w) (base := base) T
  exact p_list T G b F.kp (fun _ _ _ e => by have := take_len e; omega) fun _ _ _ _ s => TokR.mono s
theorem p_call (T : Txt K w mg h) : PromAt P w K mg base (He.ga K "parse_call") 7 (spHd K pCall fun t => t.kind = ("call" : Str)) := by
  obtain ⟨fd, F⟩ := f_parse_call T
  refine ⟨fd, ["cursor", "keyword"], F.kp, F.bindsN fun _ _ _ _ _ _ us hl => match us, hl with | [_, _], _ => rfl, ?_⟩
  refine F.ok sc_parse_call (fun vs H Q E h => ?_) (fun cdv A outer s H vs Q E hr h => ?_)
  · obtain ⟨c, G, r, v, t, rfl, _⟩ := h
    rfl
  · obtain ⟨c, G, r, kv, kt, rfl, hok, g, u, hkv, q⟩ := h
    have hr5 : Room 5 _ := hr.mono (by decide)
    have hr4 : Room 4 _ := hr.mono (by decide)
    have hr3 : Room 3 _ := hr.mono (by decide)
    have nd := sc_parse_call.nd
    refine ⟨_, pss_cons (ps_set (i := 2) nd rfl (Or.inl rfl) (pe_take T hr4 (passW (takes_of rfl rfl rfl rfl) fun _ _ _ _ z => z) (by decide +kernel) me_var (pv 0))) (pss_cons (ps_expr (pe_take T hr4 (passW (takes_of rfl rfl rfl rfl) fun _ _ _ _ z => z) (by decide +kernel) me_var (pv 0)))
      (pss_cons (ps_set (i := 3) nd rfl (Or.inl rfl) (pe_take T hr4 (passW (takes_of rfl rfl rfl rfl) fun _ _ _ _ z => z) (by decide +kernel) me_var (pv 0)))
      (pss_cons (ps_set (i := 4) nd rfl (Or.inl rfl) (pe_p (p_listE T) hr (passW (takes_of rfl rfl rfl rfl) fun _ _ _ _ z => z) (pa_cons (pv 0) (pa_cons (pe_glob (v := .ref _) rfl (g_parse_expression T) rfl) pa_nil))))
      (pss_cons (ps_set (i := 5) nd rfl (Or.inl rfl) (pe_p (p_share T) hr5 (passW (takes_of rfl rfl rfl rfl) fun _ _ _ _ z => z) (pa_cons (pv 0) pa_nil)))
      (pss_cons (ps_expr (pe_take T hr4 (passW (takes_of rfl rfl rfl rfl) fun _ _ _ _ z => z) (by decide +kernel) me_var (pv 0)))
      (pss_cons (ps_set (i := 6) nd rfl (Or.inl rfl) (pe_p (pr_exp T) hr5 (passW (takes_of rfl rfl rfl rfl) fun _ _ _ _ z => z) (pa_cons (pv 0) pa_nil)))
      (pss_cons (ps_expr (pe_take T hr4 (passW (takes_of rfl rfl rfl rfl) fun _ _ _ _ z => z) (by decide +kernel) me_var (pv 0)))
      (pss_one (ps_ret (pe_rec (pr_CallStatement T) hr3 (passW (takes_of rfl rfl rfl rfl) fun _ _ _ _ z => z) (pa_cons (pv 1) (pa_cons (pv 2) (pa_cons (pv 3) (pa_cons (pv 4) (pa_cons (pv 5) (pa_cons (pv 6) pa_nil)))))) rfl (mo_cons me_var (mo_cons me_var (mo_cons me_var (mo_cons me_var (mo_cons me_var (mo_cons me_var mo_nil)))))))))))))))), ?_⟩
    have A0 : At K c H G H G r := At.refl g u
    refine ⟨_, rfl, c, G, r, rfl, g, u, q.seqA A0 fun t1 r1 v1 H1 G1 e1 s1 x1 A1 hx1 q1 => ?_⟩
    refine ⟨_, rfl, c, G1, r1, rfl, A1.g, A1.u, q1.seqA A1 fun t2 r2 v2 H2 G2 e2 s2 x2 A2 hx2 q2 => ?_⟩
    refine ⟨_, rfl, c, G2, r2, rfl, A2.g, A2.u, q2.seqA A2 fun t3 r3 v3 H3 G3 e3 s3 x3 A3 hx3 q3 => ?_⟩
    refine ⟨_, rfl, c, G3, r3, rfl, A3.g, A3.u, q3.seqA A3 fun t4 r4 v4 H4 G4 e4 s4 x4 A4 hx4 q4 => ?_⟩
    refine ⟨_, rfl, c, G4, r4, rfl, A4.g, A4.u, q4.seqA A4 fun t5 r5 v5 H5 G5 e5 s5 x5 A5 hx5 q5 => ?_⟩
    refine ⟨_, rfl, c, G5, r5, rfl, A5.g, A5.u, q5.seqA A5 fun t6 r6 v6 H6 G6 e6 s6 x6 A6 hx6 q6 => ?_⟩
    refine ⟨_, rfl, c, G6, r6, rfl, A6.g, A6.u, q6.seqA A6 fun t7 r7 v7 H7 G7 e7 s7 x7 A7 hx7 q7 => ?_⟩
    refine ⟨_, rfl, c, G7, r7, rfl, A7.g, A7.u, q7.seqA A7 fun t8 r8 v8 H8 G8 e8 s8 x8 A8 hx8 q8 => ?_⟩
    refine ⟨_, rfl, _, rfl, _, rfl, _, rfl, _, rfl, _, rfl, rfl, fun p dx H9 np sm hp => q8.retA (A8.newR np sm hp) ?_⟩
    have y8 := newG (o := .ins (He.ga K "CallStatement") dx [("keyword", kv), ("target", v1), ("function", v3), ("arguments", v4), ("share", v5), ("fallback", v7)]) A8.g np
    have y7 := x8.le.trans y8
    have y6 := x7.le.trans y7
    have y5 := x6.le.trans y6
    have y4 := x5.le.trans y5
    have y3 := x4.le.trans y4
    have y2 := x3.le.trans y3
    have y1 := x2.le.trans y2
    unfold HdR
    unfold StR
    exact ⟨p, dx, kv, v1, v3, v4, v5, v7, rfl, upd_same, hkv.mono (x1.le.trans y1), hx1.mono y1, hx3.mono y3, hx4.mono y4 fun _ _ => ExR.mono y4, hx5.mono y5, hx7.mono y7⟩
end
end Fs
-- FsN
set_option Elab.async false
set_option linter.all false
set_option maxRecDepth 100000
set_option maxHeartbeats 4000000
namespace Fs
open PySem PySem.Spec PyProof.Rows L2
section
variable {X : Cx} {k i : Nat} {E : XK} {e o : Expr} {es : List Expr} {x m : Str} {pos p apos : Pos} {t : TA} {ta : TE}
/-- a local that holds one of several defs -/
def tCallT (i : Nat) (S : Addr → Sp → Prop) (E : XK) (t : TA) : TE := fun σ H Q => ∃ f sp, σ[i]? = some (some (.ref f)) ∧ S f sp ∧ t σ H fun vs H1 => sp vs H1 Q E
theorem pe_callT {S : Addr → Sp → Prop} (A : ∀ f sp, S f sp → PromAt X.prog X.w X.K X.mg X.base f k sp) (hr : Room k X.A) (hx : Passes (L2.CX X.prog X.w) X E) (hN : X.N[i]? = some x) (hv : Vis X.env.scope x) (ha : PA X (e :: es) t)
    (hdb : (x == ("__debug__" : Str)) = false := by decide) (hcd : (x == ("__classdict__" : Str)) = false := by decide)
    (he : starEach (e :: es) X.env = (false, eval e X.env) :: starEach es X.env := by rfl) (hpl : (backTo pos (starEach es X.env)).any (·.1) = false := by rfl) : PE X (.Call (.Name x p) (e :: es) [] pos) (tCallT i S E t) := by
  refine ⟨fun pins s σ H Q I h => ?_⟩
  obtain ⟨f, sp, hs, hS, ht⟩ := h
  obtain ⟨fd, ps, hk, hb, F⟩ := (A f sp hS).ex
  refine (pe_callL (i := i) (f := f) (sp := sp) (dvs := []) (E := E) F hr hN hv hk hb .nil hx ha hdb hcd he hpl).run pins s σ H Q I ⟨hs, ?_⟩
  have e0 : (fun (vs : List V) (H1 : Hp) => sp (vs ++ []) H1 Q E) = fun vs H1 => sp vs H1 Q E := by
    funext vs H1
    rw [List.append_nil]
  rw [e0]
  exact ht
/-- o.m() where o is an instance of one of several classes -/
def tMethT (m : Str) (S : Addr → Sp → Prop) (E : XK) (ta : TE) : TE := fun σ H Q => ta σ H fun x H1 => ∃ a C dx fs sp, x = .ref a ∧ H1 a = some (.ins C dx fs) ∧ fs.lookup m = none ∧ S C sp ∧ sp [x] H1 Q E
theorem pe_methT {S : Addr → Sp → Prop} {pl : Sem Bool} (A : ∀ C sp, S C sp → PromM X.prog X.w X.K X.mg X.base C m k sp) (hr : Room k X.A) (hx : Passes (L2.CX X.prog X.w) X E) (ho : PE X o ta)
    (ht : eval (.Call (.Attribute o m apos) [] [] pos) X.env = (do
      let ov ← eval o X.env
      standAt apos.atName
      let (f, first) ← holding [ov] (getMethod ov m pl)
      callWith pos f first (backTo pos (starEach [] X.env)) (backToKw pos (keywordEach [] X.env))) := by rfl) :
    PE X (.Call (.Attribute o m apos) [] [] pos) (tMethT m S E ta) := by
  refine ⟨fun pins s σ H Q I h => ?_⟩
  refine PySem.W.methodCall_KW (pl := pl) (thn (ho.run pins s σ H _ I h) fun u s1 ⟨x, H1, I1, rx, a, C, dx, fs, sp, ex, ea, l, hS, q⟩ => ?_) ht
  subst ex
  obtain rfl : u = Value.ref a := rx
  obtain ⟨cl, f, fd, ps, hm, hb, F⟩ := A C sp hS
  refine getmeth_ok I1 ea cl hm l ?_
  exact PySem.W.callWith_K0 (first := [.ref a]) I1.kIn hm.kp (run_fn (us := [.ref a]) (vs := [.ref a]) F hr hb .nil hx I1 (.cons rfl .nil) q)
end
section
variable {P : Program} {w : World} {K : PySem.W.Frag} {mg : Str → Option Value} {base h : Heap}
variable {c l p : Addr} {H0 G0 H G H' G' : Hp} {r r' : Toks} {vs ws : List V} {o : HO}
/-- what stands in STATEMENTS -/
inductive StT (K : PySem.W.Frag) : Addr → Sp → Prop where
  | set : StT K (He.ga K "parse_set") (spHd K (fun t r => pAsg t "word" r) fun t => t.kind = ("set" : Str))
  | put : StT K (He.ga K "parse_put") (spHd K (fun t r => pAsg t "cell" r) fun t => t.kind = ("put" : Str))
  | val : StT K (He.ga K "parse_value") (spHd K pVal fun t => t.kind = ("emit" : Str) ∨ t.kind = ("return" : Str))
  | ifs : StT K (He.ga K "parse_if") (spHd K pIf fun t => t.kind = ("if" : Str))
  | loop : StT K (He.ga K "parse_loop") (spHd K pLoop fun t => t.kind = ("loop" : Str))
  | call : StT K (He.ga K "parse_call") (spHd K pCall fun t => t.kind = ("call" : Str))
theorem stT_at (T : Txt K w mg h) : ∀ f sp, StT K f sp → PromAt P w K mg base f 7 sp := fun f sp z => by
  cases z with
  | set => exact p_set T
  | put => exact p_put T
  | val => exact p_val T
  | ifs => exact p_if T
  | loop => exact p_loop T
  | call => exact p_call T
theorem kd_get (T : Txt K w mg h) {x f : Str} (hm : (x, He.Dv.glo f) ∈ [(("set" : Str), He.Dv.glo "parse_set"), ("put", .glo "parse_put"), ("emit", .glo "parse_value"), ("return", .glo "parse_value"), ("if", .glo "parse_if"), ("loop", .glo "parse_loop"), ("call", .glo "parse_call")]) :
    KDct K w (He.ga K "STATEMENTS") x (.ref (He.ga K f)) := by
  obtain ⟨es, n, D⟩ := kd_STATEMENTS T
  obtain ⟨u, e, r⟩ := He.valsB_ok (t_STATEMENTS T) hm
  exact ⟨es, n, u, D.at_, D.lit, e, r⟩
/-- the keyword's entry: its def, whose promise is that of pHead -/
theorem st_entry (T : Txt K w mg h) {t : Tok} (hk : stKws.contains t.kind = true) : ∃ f sp, KDct K w (He.ga K "STATEMENTS") t.kind (.ref f) ∧ StT K f sp ∧
    ∀ c v H G r Q E, Same G H → CurAt K H G c r → TokR K G v t → Post K H G c (HdR K H) Q E (pHead t r) → sp [.ref c, v] H Q E := by
  have hm : t.kind ∈ stKws := by simpa using hk
  unfold stKws at hm
  simp only [List.mem_cons, List.not_mem_nil, or_false] at hm
  rcases hm with e | e | e | e | e | e | e
  · refine ⟨_, _, e ▸ kd_get T (by simp), .set, fun c v H G r Q E g u tv q => ⟨c, G, r, v, t, rfl, e, g, u, tv, ?_⟩⟩
    have z : pHead t r = pAsg t "word" r := by unfold pHead; rw [e]; exact if_pos rfl
    rw [z] at q; exact q
  · refine ⟨_, _, e ▸ kd_get T (by simp), .put, fun c v H G r Q E g u tv q => ⟨c, G, r, v, t, rfl, e, g, u, tv, ?_⟩⟩
    have z : pHead t r = pAsg t "cell" r := by unfold pHead; rw [e, if_neg (by decide +kernel)]; exact if_pos rfl
    rw [z] at q; exact q
  · refine ⟨_, _, e ▸ kd_get T (by simp), .val, fun c v H G r Q E g u tv q => ⟨c, G, r, v, t, rfl, .inl e, g, u, tv, ?_⟩⟩
    have z : pHead t r = pVal t r := by unfold pHead; rw [e, if_neg (by decide +kernel), if_neg (by decide +kernel)]; exact if_pos rfl
    rw [z] at q; exact q
  · refine ⟨_, _, e ▸ kd_get T (by simp), .val, fun c v H G r Q E g u tv q => ⟨c, G, r, v, t, rfl, .inr e, g, u, tv, ?_⟩⟩
    have z : pHead t r = pVal t r := by unfold pHead; rw [e, if_neg (by decide +kernel), if_neg (by decide +kernel), if_neg (by decide +kernel)]; exact if_pos rfl
    rw [z] at q; exact q
  · refine ⟨_, _, e ▸ kd_get T (by simp), .ifs, fun c v H G r Q E g u tv q => ⟨c, G, r, v, t, rfl, e, g, u, tv, ?_⟩⟩
    have z : pHead t r = pIf t r := by unfold pHead; rw [e, if_neg (by decide +kernel), if_neg (by decide +kernel), if_neg (by decide +kernel), if_neg (by decide +kernel)]; exact if_pos rfl
    rw [z] at q; exact q
  · refine ⟨_, _, e ▸ kd_get T (by simp), .loop, fun c v H G r Q E g u tv q => ⟨c, G, r, v, t, rfl, e, g, u, tv, ?_⟩⟩
    have z : pHead t r = pLoop t r := by unfold pHead; rw [e, if_neg (by decide +kernel), if_neg (by decide +kernel), if_neg (by decide +kernel), if_neg (by decide +kernel), if_neg (by decide +kernel)]; exact if_pos rfl
    rw [z] at q; exact q
  · refine ⟨_, _, e ▸ kd_get T (by simp), .call, fun c v H G r Q E g u tv q => ⟨c, G, r, v, t, rfl, e, g, u, tv, ?_⟩⟩
    have z : pHead t r = pCall t r := by unfold pHead; rw [e, if_neg (by decide +kernel), if_neg (by decide +kernel), if_neg (by decide +kernel), if_neg (by decide +kernel), if_neg (by decide +kernel)]; exact if_neg (by decide +kernel)
    rw [z] at q; exact q
theorem Post.imp {α : Type} {R R1 : Hp → Hp → V → α → Prop} {Q : VK} {E : XK} {m : Res (α × Toks)} (h : Post K H G c R Q E m) (i : ∀ H' G' v x, R1 H' G' v x → R H' G' v x) : Post K H G c R1 Q E m := by
  cases m with
  | error e => exact h
  | ok p =>
    obtain ⟨y, r⟩ := p
    intro v H' G' a b d e f
    exact (show ∀ v H' G', SameBut c H H' → Ext G G' H → Same G' H' → CurAt K H' G' c r → R H' G' v y → Q v H' from h) v H' G' a b d e (i _ _ _ _ f)
theorem HdR.old {O O' : Hp} (ho : ∀ p, O' p = none → O p = none) {v : V} {s : St} (z : HdR K O' H G v s) : HdR K O H G v s := by
  cases s with
  | ite k l c r b1 b2 =>
    unfold HdR at z ⊢
    obtain ⟨h1, h2, a, dx, k', l', r', f, s, h3, h4, h5, h6, h7, h8, h9, h10, h11, h12⟩ := z
    exact ⟨h1, h2, a, dx, k', l', r', f, s, h3, h4, h5, h6, h7, h8, h9, h10, ho _ h11, ho _ h12⟩
  | loop k e b =>
    unfold HdR at z ⊢
    obtain ⟨h1, a, dx, k', e', f, h3, h4, h5, h6, h7, h8⟩ := z
    exact ⟨h1, a, dx, k', e', f, h3, h4, h5, h6, h7, ho _ h8⟩
  | asg k t e => exact z
  | val k e => exact z
  | call k t f as p q fb => exact z
def spStm (K : PySem.W.Frag) : Sp := fun vs H Q E => ∃ c G r, vs = [.ref c] ∧ Same G H ∧ CurAt K H G c r ∧ Post K H G c (HdR K H) Q E (pStmt r)
theorem p_stmt (T : Txt K w mg h) : Prom P w K mg base "parse_statement" 8 (spStm K) := by
  obtain ⟨fd, F⟩ := f_parse_statement T
  refine ⟨_, fd, ["cursor"], g_parse_statement T, F.kp, F.bindsN fun _ _ _ _ _ _ us hl => match us, hl with | [_], _ => rfl, ?_⟩
  refine F.ok sc_parse_statement (fun vs H Q E h => ?_) (fun cdv A outer s H vs Q E hr h => ?_)
  · obtain ⟨c, G, r, rfl, _⟩ := h
    rfl
  · obtain ⟨c, G, r, rfl, g, u, q⟩ := h
    have hr3 : Room 3 _ := hr.mono (by decide)
    have nd := sc_parse_statement.nd
    refine ⟨_, pss_cons (ps_set (i := 1) nd rfl (Or.inl rfl) (pe_takeA T hr3 (passW (takes_of rfl rfl rfl rfl) fun _ _ _ _ z => z) me_var (pv 0) (pe_callTy (call_tupKd rfl) (by rfl) (b_tuple T) boot_tuple (pa_cons (pe_glob (v := .ref _) rfl (v_STATEMENTS T) rfl) pa_nil))
        (fun σ H Q Q' mm z => by
          obtain ⟨d, ks, e1, e2, e3, e4⟩ := z
          exact ⟨d, ks, e1, e2, e3, fun p hp => mm _ _ (e4 p hp)⟩)))
      (pss_cons (ps_set (i := 2) nd rfl (Or.inl rfl) (pe_ix ix_kdict (pe_glob (v := .ref _) rfl (v_STATEMENTS T) rfl) (pe_fld (pv 1) rfl) (fun _ _ => rfl)))
      (pss_one (ps_ret (pe_callT (i := 2) (stT_at T) hr (passW (takes_of rfl rfl rfl rfl) fun _ _ _ _ z => z) rfl (Or.inl rfl) (pa_cons (pv 0) (pa_cons (pv 1) pa_nil)))))), ?_⟩
    have A0 : At K c H G H G r := At.refl g u
    obtain ⟨dx, fs, hc, l1, l2, l3⟩ := u.obj
    refine ⟨_, rfl, ⟨c, dx, fs, rfl, hc, l3⟩, _, stKws, rfl, kk_STATEMENTS T, (by decide), fun p hp => ?_⟩
    have A1 := A0.new (o := .tup (stKws.map V.str)) hp
    refine ⟨c, G, r, p, stKws, rfl, rfl, SqT.of upd_same, (by decide +kernel), A1.g, A1.u, q.seqA A1 fun t r1 v H1 G1 e1 s1 x1 A2 hx q1 => ?_⟩
    have hk := (take_end e1 (by decide +kernel) A1.u.eo).2.2
    obtain ⟨ta, tdx, rfl, th, _⟩ := id hx
    obtain ⟨f, sp, kd, hS, hsp⟩ := st_entry T hk
    refine ⟨_, rfl, ta, _, tdx, _, _, rfl, A2.g _ _ th, c_Token T, na_Token_kind T, rfl, _, _, _, rfl, rfl, kd, ?_⟩
    refine ⟨f, sp, rfl, hS, _, rfl, _, rfl, ?_⟩
    exact hsp c _ H1 G1 r1 Q E A2.g A2.u hx ((q1.sameA A2).imp fun _ _ _ _ z => z.old fun p n => A2.free n)
end
end Fs
-- FsO
set_option Elab.async false
set_option linter.all false
set_option maxRecDepth 100000
set_option maxHeartbeats 4000000
namespace Fs
open PySem PySem.Spec PyProof.Rows L2
/-! ## lengths -/
theorem pItems_len {α : Type} {p : Toks → Res (α × Toks)} (hp : ∀ r x r', p r = .ok (x, r') → r'.length ≤ r.length) : ∀ (n : Nat) (xs : List α) (r : Toks) (ys : List α) (r' : Toks), pItems p n xs r = .ok (ys, r') → r'.length ≤ r.length
  | 0, xs, r, ys, r', h => by
    unfold pItems at h
    cases h
    exact Nat.le_refl _
  | n + 1, xs, r, ys, r', h => by
    unfold pItems at h
    by_cases c : ahead r = ","
    · rw [if_pos c] at h
      obtain ⟨⟨o, r1⟩, h1, h⟩ := bind_ok h
      obtain ⟨⟨t, r2⟩, h2, h⟩ := bind_ok h
      have a := take_len h1
      have b := hp _ _ _ h2
      have d := pItems_len hp n _ _ _ _ h
      simp only at b d
      omega
    · rw [if_neg c] at h
      cases h
      exact Nat.le_refl _
theorem pList_len {α : Type} {p : Toks → Res (α × Toks)} (hp : ∀ r x r', p r = .ok (x, r') → r'.length ≤ r.length) {r : Toks} {ys : List α} {r' : Toks} (h : pList p r = .ok (ys, r')) : r'.length ≤ r.length := by
  unfold pList at h
  obtain ⟨⟨o, r1⟩, h1, h⟩ := bind_ok h
  obtain ⟨⟨t, r2⟩, h2, h⟩ := bind_ok h
  obtain ⟨⟨z, r3⟩, h3, h⟩ := bind_ok h
  cases h
  have a := take_len h1
  have c : r2.length = r3.length + 1 := take_len h3
  have b : r2.length ≤ r1.length := by
    by_cases q : ahead r1 ≠ ")"
    · rw [if_pos q] at h2
      obtain ⟨⟨y, r4⟩, h4, h2⟩ := bind_ok h2
      have e := hp _ _ _ h4
      have f := pItems_len hp _ _ _ _ _ h2
      simp only at e f
      omega
    · rw [if_neg q] at h2
      cases h2
      exact Nat.le_refl _
  dsimp only
  omega
theorem pHead_len {t : Tok} {r : Toks} {s : St} {r' : Toks} (h : pHead t r = .ok (s, r')) : r'.length ≤ r.length := by
  have asg : ∀ k, pAsg t k r = .ok (s, r') → r'.length ≤ r.length := fun k h => by
    unfold pAsg at h
    obtain ⟨⟨_, r1⟩, h1, h⟩ := bind_ok h
    obtain ⟨⟨_, r2⟩, h2, h⟩ := bind_ok h
    obtain ⟨⟨_, r3⟩, h3, h⟩ := bind_ok h
    obtain ⟨⟨_, r4⟩, h4, h⟩ := bind_ok h
    cases h
    have a1 := take_len h1
    have a2 : r1.length = r2.length + 1 := take_len h2
    have a3 : r3.length ≤ r2.length := pExpr_len h3
    have a4 : r3.length = r4.length + 1 := take_len h4
    dsimp only
    omega
  have val : pVal t r = .ok (s, r') → r'.length ≤ r.length := fun h => by
    unfold pVal at h
    obtain ⟨⟨_, r3⟩, h3, h⟩ := bind_ok h
    obtain ⟨⟨_, r4⟩, h4, h⟩ := bind_ok h
    cases h
    have a3 : r3.length ≤ r.length := pExpr_len h3
    have a4 : r3.length = r4.length + 1 := take_len h4
    dsimp only
    omega
  unfold pHead at h
  split at h
  · exact asg _ h
  · split at h
    · exact asg _ h
    · split at h
      · exact val h
      · split at h
        · exact val h
        · split at h
          · unfold pIf at h
            obtain ⟨⟨_, r1⟩, h1, h⟩ := bind_ok h
            obtain ⟨⟨_, r2⟩, h2, h⟩ := bind_ok h
            obtain ⟨⟨_, r3⟩, h3, h⟩ := bind_ok h
            cases h
            have a1 : r1.length ≤ r.length := pExpr_len h1
            have a2 : r1.length = r2.length + 1 := take_len h2
            have a3 : r3.length ≤ r2.length := pExpr_len h3
            dsimp only
            omega
          · split at h
            · unfold pLoop at h
              obtain ⟨⟨_, r1⟩, h1, h⟩ := bind_ok h
              cases h
              exact pExpr_len h1
            · unfold pCall at h
              obtain ⟨⟨_, r1⟩, h1, h⟩ := bind_ok h
              obtain ⟨⟨_, r2⟩, h2, h⟩ := bind_ok h
              obtain ⟨⟨_, r3⟩, h3, h⟩ := bind_ok h
              obtain ⟨⟨_, r4⟩, h4, h⟩ := bind_ok h
              obtain ⟨⟨_, r5⟩, h5, h⟩ := bind_ok h
              obtain ⟨⟨_, r6⟩, h6, h⟩ := bind_ok h
              obtain ⟨⟨_, r7⟩, h7, h⟩ := bind_ok h
              obtain ⟨⟨_, r8⟩, h8, h⟩ := bind_ok h
              cases h
              have a1 : r.length = r1.length + 1 := take_len h1
              have a2 : r1.length = r2.length + 1 := take_len h2
              have a3 : r2.length = r3.length + 1 := take_len h3
              have a4 : r4.length ≤ r3.length := pList_len (fun _ _ _ => pExpr_len) h4
              have a5 : r5.length ≤ r4.length := by
                unfold pShare at h5
                obtain ⟨⟨_, s1⟩, g1, h5⟩ := bind_ok h5
                obtain ⟨⟨_, s2⟩, g2, h5⟩ := bind_ok h5
                obtain ⟨⟨_, s3⟩, g3, h5⟩ := bind_ok h5
                obtain ⟨⟨_, s4⟩, g4, h5⟩ := bind_ok h5
                cases h5
                have b1 : r4.length = s1.length + 1 := take_len g1
                have b2 : s1.length = s2.length + 1 := take_len g2
                have b3 : s2.length = s3.length + 1 := take_len g3
                have b4 : s3.length = s4.length + 1 := take_len g4
                dsimp only
                omega
              have a6 : r5.length = r6.length + 1 := take_len h6
              have a7 : r7.length ≤ r6.length := pExpr_len h7
              have a8 : r7.length = r8.length + 1 := take_len h8
              dsimp only
              omega
theorem pStmt_len {r : Toks} {s : St} {r' : Toks} (h : pStmt r = .ok (s, r')) : r'.length + 1 ≤ r.length := by
  unfold pStmt at h
  obtain ⟨⟨_, r1⟩, h1, h⟩ := bind_ok h
  have a := take_len h1
  have b : r'.length ≤ r1.length := pHead_len h
  omega
section
variable {P : Program} {w : World} {K : PySem.W.Frag} {mg : Str → Option Value} {base h : Heap}
variable {c l p : Addr} {H0 G0 H G H' G' : Hp} {r r' : Toks} {vs ws : List V} {o : HO}
/-! ## blocks of a statement -/
def spBl0 : Sp := fun vs H Q _ => ∃ p, vs = [.ref p] ∧ ∀ l, H l = none → Q (.ref l) (upd H l (.lst []))
def spBlI (C : Addr) : Sp := fun vs H Q _ => ∃ p dx a b c d f s, vs = [.ref p] ∧ H p = some (.ins C dx (ifF a b c d f s)) ∧ ∀ l, H l = none → Q (.ref l) (upd H l (.lst [.ref f, .ref s]))
def spBlL (C : Addr) : Sp := fun vs H Q _ => ∃ p dx a b f, vs = [.ref p] ∧ H p = some (.ins C dx (lpF a b f)) ∧ ∀ l, H l = none → Q (.ref l) (upd H l (.lst [.ref f]))
inductive BlT (K : PySem.W.Frag) : Addr → Sp → Prop where
  | asg : BlT K (He.ga K "AssignStatement") spBl0
  | val : BlT K (He.ga K "ValueStatement") spBl0
  | call : BlT K (He.ga K "CallStatement") spBl0
  | ifs : BlT K (He.ga K "IfStatement") (spBlI (He.ga K "IfStatement"))
  | loop : BlT K (He.ga K "LoopStatement") (spBlL (He.ga K "LoopStatement"))
theorem bl0_ok {f : Addr} {fd : FuncData} (F : FunD K "blocks" "Statement.blocks" (defArgs s_Statement_blocks) (defBody s_Statement_blocks) (defScope s_Statement_blocks) [] [] f fd) : Binds K fd ["self"] [] ∧ FnOk P w K mg base (L2.CX P w) 1 f fd ["self"] spBl0 := by
  refine ⟨F.bindsN fun _ _ _ _ _ _ us hl => match us, hl with | [_], _ => rfl, F.ok sc_Statement_blocks (fun vs H Q E h => ?_) (fun cdv A outer s H vs Q E hr h => ?_)⟩
  · obtain ⟨p, rfl, _⟩ := h
    rfl
  · obtain ⟨p, rfl, k⟩ := h
    exact ⟨_, pss_one (ps_ret (pe_lst pa_nil)), (by show 0 ≤ sizeLine; decide), fun l hl => k l hl⟩
theorem blT_at (T : Txt K w mg h) : ∀ C sp, BlT K C sp → PromM P w K mg base C "blocks" 1 sp := fun C sp z => by
  cases z with
  | asg =>
    obtain ⟨fd, F⟩ := f_AssignStatement_blocks T
    exact ⟨c_AssignStatement T, _, fd, _, me_AssignStatement_blocks T, (bl0_ok (P := P) (w := w) (base := base) (mg := mg) F).1, (bl0_ok F).2⟩
  | val =>
    obtain ⟨fd, F⟩ := f_ValueStatement_blocks T
    exact ⟨c_ValueStatement T, _, fd, _, me_ValueStatement_blocks T, (bl0_ok (P := P) (w := w) (base := base) (mg := mg) F).1, (bl0_ok F).2⟩
  | call =>
    obtain ⟨fd, F⟩ := f_CallStatement_blocks T
    exact ⟨c_CallStatement T, _, fd, _, me_CallStatement_blocks T, (bl0_ok (P := P) (w := w) (base := base) (mg := mg) F).1, (bl0_ok F).2⟩
  | ifs =>
    obtain ⟨fd, F⟩ := f_IfStatement_blocks T
    refine ⟨c_IfStatement T, _, fd, ["self"], me_IfStatement_blocks T, F.bindsN fun _ _ _ _ _ _ us hl => match us, hl with | [_], _ => rfl, F.ok sc_IfStatement_blocks (fun vs H Q E h => ?_) (fun cdv A outer s H vs Q E hr h => ?_)⟩
    · obtain ⟨p, dx, a, b, c, d, f, s, rfl, _⟩ := h
      rfl
    · obtain ⟨p, dx, a, b, c, d, f, s', rfl, hp, k⟩ := h
      exact ⟨_, pss_one (ps_ret (pe_lst (pa_cons (pe_fld (pv 0) rfl) (pa_cons (pe_fld (pv 0) rfl) pa_nil)))), _, rfl, p, _, dx, _, .ref f, rfl, hp, c_IfStatement T, na_IfStatement_first T, (by kernel_rfl), _, rfl, p, _, dx, _, .ref s', rfl, hp, c_IfStatement T, na_IfStatement_second T, (by kernel_rfl), (by show 2 ≤ sizeLine; decide), fun l hl => k l hl⟩
  | loop =>
    obtain ⟨fd, F⟩ := f_LoopStatement_blocks T
    refine ⟨c_LoopStatement T, _, fd, ["self"], me_LoopStatement_blocks T, F.bindsN fun _ _ _ _ _ _ us hl => match us, hl with | [_], _ => rfl, F.ok sc_LoopStatement_blocks (fun vs H Q E h => ?_) (fun cdv A outer s H vs Q E hr h => ?_)⟩
    · obtain ⟨p, dx, a, b, f, rfl, _⟩ := h
      rfl
    · obtain ⟨p, dx, a, b, f, rfl, hp, k⟩ := h
      exact ⟨_, pss_one (ps_ret (pe_lst (pa_cons (pe_fld (pv 0) rfl) pa_nil))), _, rfl, p, _, dx, _, .ref f, rfl, hp, c_LoopStatement T, na_LoopStatement_body T, (by kernel_rfl), (by show 1 ≤ sizeLine; decide), fun l hl => k l hl⟩
/-! ## opening blocks -/
/-- what is handed back: a new list of at most one entry -/
def NewL (H : Hp) (xs : List V) (Q : VK) : Prop := ∀ l H', Same H H' → H l = none → H' l = some (.lst xs) → Q (.ref l) H'
def EntR (f : Addr) (br : V) (H : Hp) (v : V) : Prop := ∃ l t, v = .ref l ∧ H l = some (.lst [.ref t]) ∧ H t = some (.tup [.ref f, br])
def spOf1 (K : PySem.W.Frag) : Sp := fun vs H Q E => ∃ c G r p, vs = [.ref c, .ref p] ∧ Same G H ∧ CurAt K H G c r ∧
  ((∃ C dx fs, G p = some (.ins C dx fs) ∧ BlT K C spBl0 ∧ fs.lookup ("blocks" : Str) = none ∧ NewL H [] Q) ∨
   (∃ dx k k' a b d f g, G p = some (.ins (He.ga K "IfStatement") dx (ifF k' a b d f g)) ∧ TokR K G k' k ∧ k.kind = ("if" : Str) ∧ Post K H G c (fun H' _ v _ => EntR f (.ref p) H' v) Q E (take ["{"] r)) ∨
   (∃ dx k k' a f, G p = some (.ins (He.ga K "LoopStatement") dx (lpF k' a f)) ∧ TokR K G k' k ∧ k.kind = ("loop" : Str) ∧ Post K H G c (fun H' _ v _ => EntR f .non H' v) Q E (take ["{"] r)))
theorem p_of1 (T : Txt K w mg h) : Prom P w K mg base "open_first" 5 (spOf1 K) := by
  obtain ⟨fd, F⟩ := f_open_first T
  refine ⟨_, fd, ["cursor", "statement"], g_open_first T, F.kp, F.bindsN fun _ _ _ _ _ _ us hl => match us, hl with | [_, _], _ => rfl, ?_⟩
  refine F.ok sc_open_first (fun vs H Q E h => ?_) (fun cdv A outer s H vs Q E hr h => ?_)
  · obtain ⟨c, G, r, p, rfl, _⟩ := h
    rfl
  · obtain ⟨c, G, r, p, rfl, g, u, q⟩ := h
    have hr1 : Room 1 _ := hr.mono (by decide)
    have nd := sc_open_first.nd
    refine ⟨_, pss_cons (ps_set (i := 2) nd rfl (Or.inl rfl) (pe_methT (blT_at T) hr1 (passW (takes_of rfl rfl rfl rfl) fun _ _ _ _ z => z) (pv 1)))
      (pss_cons (ps_if (pt_not (pt_truth (pv 2) (by intro _; rfl))) (pss_one (ps_ret (pe_lst pa_nil))) pss_nil)
      (pss_cons (ps_expr (pe_take T hr (passW (takes_of rfl rfl rfl rfl) fun _ _ _ _ z => z) (by decide +kernel) me_var (pv 0)))
      (pss_cons (ps_set (i := 3) nd rfl (Or.inl rfl) (pe_ifExp (pt_cmpR op_eq (pe_fld (pe_fld (pv 1) rfl) rfl) pe_str (nomark _)) (pv 1) pe_non))
      (pss_one (ps_ret (pe_lst (pa_cons (pe_tup (pa_cons (pe_ix ix_list (pv 2) pe_int (fun _ _ => rfl)) (pa_cons (pv 3) pa_nil))) pa_nil))))))), ?_⟩
    have A0 : At K c H G H G r := At.refl g u
    rcases q with ⟨C, dx, fs, hp, hB, hl, q⟩ | ⟨dx, k, k', a, b, d, f, s', hp, hk, hkk, q⟩ | ⟨dx, k, k', a, f, hp, hk, hkk, q⟩
    · refine ⟨_, rfl, p, C, dx, fs, _, rfl, g _ _ hp, hl, hB, p, rfl, fun l hl' => ?_⟩
      refine ⟨_, rfl, false, .inl ⟨[], SqL.of upd_same, rfl⟩, ?_⟩
      refine iteT ⟨by show 0 ≤ sizeLine; decide, fun l2 h2 => ?_⟩
      refine q l2 _ ((same_upd hl').trans (same_upd h2)) ?_ upd_same
      exact Same.free (same_upd hl') h2
    · refine ⟨_, rfl, p, _, dx, _, _, rfl, g _ _ hp, (by kernel_rfl), .ifs, p, dx, k', a, b, d, f, s', rfl, g _ _ hp, fun l hl' => ?_⟩
      refine ⟨_, rfl, true, .inl ⟨_, SqL.of upd_same, rfl⟩, ?_⟩
      refine iteF ?_
      have A1 := A0.new (o := .lst [.ref f, .ref s']) hl'
      refine ⟨_, rfl, c, G, r, rfl, A1.g, A1.u, ?_⟩
      cases e : take ["{"] r with
      | error er =>
        rw [e] at q
        exact ErrC.later q A1.sb
      | ok pr =>
        obtain ⟨t, r1⟩ := pr
        rw [e] at q
        intro v H1 G1 s1 x1 g1 u1 _
        have A2 := A1.step s1 x1 g1 u1
        obtain ⟨ka, kdx, rfl, kh, _⟩ := hk
        have nlc : l ≠ c := fun z => by
          obtain ⟨o', e'⟩ := u.here
          rw [z, e'] at hl'; cases hl'
        refine ⟨_, rfl, p, _, dx, _, _, rfl, A2.g _ _ (x1.le _ _ hp), c_IfStatement T, na_IfStatement_keyword T, rfl, ka, _, kdx, _, _, rfl, A2.g _ _ (x1.le _ _ kh), c_Token T, na_Token_kind T, rfl, rfl, _, rfl, ?_⟩
        rw [hkk]
        refine iteT ⟨_, rfl, _, rfl, l, _, _, _, rfl, rfl, SqL.of (s1 _ _ upd_same nlc), (by rfl), _, rfl, (by show 2 ≤ sizeLine; decide), fun t2 ht2 => ⟨by show 1 ≤ sizeLine; decide, fun l2 hl2 => ?_⟩⟩
        have A3 := (A2.new (o := .tup [.ref f, .ref p]) ht2).new (o := .lst [.ref t2]) hl2
        exact q _ _ G1 A3.sb A3.ex A3.g A3.u ⟨l2, t2, rfl, upd_same, by rw [upd_ne (ne_of_none upd_same hl2)]; exact upd_same⟩
    · refine ⟨_, rfl, p, _, dx, _, _, rfl, g _ _ hp, (by kernel_rfl), .loop, p, dx, k', a, f, rfl, g _ _ hp, fun l hl' => ?_⟩
      refine ⟨_, rfl, true, .inl ⟨_, SqL.of upd_same, rfl⟩, ?_⟩
      refine iteF ?_
      have A1 := A0.new (o := .lst [.ref f]) hl'
      refine ⟨_, rfl, c, G, r, rfl, A1.g, A1.u, ?_⟩
      cases e : take ["{"] r with
      | error er =>
        rw [e] at q
        exact ErrC.later q A1.sb
      | ok pr =>
        obtain ⟨t, r1⟩ := pr
        rw [e] at q
        intro v H1 G1 s1 x1 g1 u1 _
        have A2 := A1.step s1 x1 g1 u1
        obtain ⟨ka, kdx, rfl, kh, _⟩ := hk
        have nlc : l ≠ c := fun z => by
          obtain ⟨o', e'⟩ := u.here
          rw [z, e'] at hl'; cases hl'
        refine ⟨_, rfl, p, _, dx, _, _, rfl, A2.g _ _ (x1.le _ _ hp), c_LoopStatement T, na_LoopStatement_keyword T, rfl, ka, _, kdx, _, _, rfl, A2.g _ _ (x1.le _ _ kh), c_Token T, na_Token_kind T, rfl, rfl, _, rfl, ?_⟩
        rw [hkk]
        refine iteF ⟨_, rfl, l, _, _, _, rfl, rfl, SqL.of (s1 _ _ upd_same nlc), (by rfl), _, rfl, (by show 2 ≤ sizeLine; decide), fun t2 ht2 => ⟨by show 1 ≤ sizeLine; decide, fun l2 hl2 => ?_⟩⟩
        have A3 := (A2.new (o := .tup [.ref f, .non]) ht2).new (o := .lst [.ref t2]) hl2
        exact q _ _ G1 A3.sb A3.ex A3.g A3.u ⟨l2, t2, rfl, upd_same, by rw [upd_ne (ne_of_none upd_same hl2)]; exact upd_same⟩
def spOf2 (K : PySem.W.Frag) : Sp := fun vs H Q E => ∃ c G r br, vs = [.ref c, br] ∧ Same G H ∧ CurAt K H G c r ∧
  ((br = .non ∧ NewL H [] Q) ∨
   (∃ p dx k' a b d f g, br = .ref p ∧ G p = some (.ins (He.ga K "IfStatement") dx (ifF k' a b d f g)) ∧
     ((ahead r ≠ "else" ∧ NewL H [] Q) ∨ (ahead r = "else" ∧ Post K H G c (fun H' _ v _ => EntR g .non H' v) Q E (take ["else"] r >>= fun z => take ["{"] z.2)))))
theorem p_of2 (T : Txt K w mg h) : Prom P w K mg base "open_else" 5 (spOf2 K) := by
  obtain ⟨fd, F⟩ := f_open_else T
  refine ⟨_, fd, ["cursor", "branch"], g_open_else T, F.kp, F.bindsN fun _ _ _ _ _ _ us hl => match us, hl with | [_, _], _ => rfl, ?_⟩
  refine F.ok sc_open_else (fun vs H Q E h => ?_) (fun cdv A outer s H vs Q E hr h => ?_)
  · obtain ⟨c, G, r, p, rfl, _⟩ := h
    rfl
  · obtain ⟨c, G, r, br, rfl, g, u, q⟩ := h
    have hr1 : Room 1 _ := hr.mono (by decide)
    refine ⟨_, pss_cons (ps_if (PW.pt (pw_or (pt_cmpR op_isN (pv 1) pe_non (nomark _)) (pw_or1 (pt_cmpR op_ne (pe_ahead T hr1 (passW (takes_of rfl rfl rfl rfl) fun _ _ _ _ z => z) me_var (pv 0)) pe_str (nomark _))))) (pss_one (ps_ret (pe_lst pa_nil))) pss_nil)
      (pss_cons (ps_expr (pe_take T hr (passW (takes_of rfl rfl rfl rfl) fun _ _ _ _ z => z) (by decide +kernel) me_var (pv 0))) (pss_cons (ps_expr (pe_take T hr (passW (takes_of rfl rfl rfl rfl) fun _ _ _ _ z => z) (by decide +kernel) me_var (pv 0)))
      (pss_one (ps_ret (pe_lst (pa_cons (pe_tup (pa_cons (pe_fld (pv 1) rfl) (pa_cons pe_non pa_nil))) pa_nil)))))), ?_⟩
    have A0 : At K c H G H G r := At.refl g u
    rcases q with ⟨rfl, q⟩ | ⟨p, dx, k', a, b, d, f, g', rfl, hp, ⟨ha, q⟩ | ⟨ha, q⟩⟩
    · refine ⟨_, rfl, rfl, _, rfl, ?_⟩
      refine iteT (iteT ⟨by show 0 ≤ sizeLine; decide, fun l hl => q l _ (same_upd hl) hl upd_same⟩)
    · refine ⟨_, rfl, rfl, _, rfl, ?_⟩
      rw [show decide (V.ref p = V.non) = false from decide_eq_false fun z => nomatch z]
      refine iteF ⟨_, rfl, c, G, r, rfl, g, u, rfl, _, rfl, ?_⟩
      rw [show decide (V.str (ahead r) = V.str "else") = false from decide_eq_false fun z => ha (V.str.inj z)]
      exact iteT ⟨by show 0 ≤ sizeLine; decide, fun l hl => q l _ (same_upd hl) hl upd_same⟩
    · refine ⟨_, rfl, rfl, _, rfl, ?_⟩
      rw [show decide (V.ref p = V.non) = false from decide_eq_false fun z => nomatch z]
      refine iteF ⟨_, rfl, c, G, r, rfl, g, u, rfl, _, rfl, ?_⟩
      rw [ha]
      refine iteF ⟨_, rfl, c, G, r, rfl, g, u, q.seqA A0 fun t1 r1 v1 H1 G1 e1 s1 x1 A1 hx1 q1 => ?_⟩
      refine ⟨_, rfl, c, G1, r1, rfl, A1.g, A1.u, ?_⟩
      cases e : take ["{"] r1 with
      | error er =>
        rw [e] at q1
        exact ErrC.later q1 A1.sb
      | ok pr =>
        obtain ⟨t, r2⟩ := pr
        rw [e] at q1
        intro v H2 G2 s2 x2 g2 u2 _
        have A2 := A1.step s2 x2 g2 u2
        refine ⟨_, rfl, p, _, dx, _, .ref g', rfl, A2.g _ _ (x2.le _ _ (x1.le _ _ hp)), c_IfStatement T, na_IfStatement_second T, (by kernel_rfl), (by show 2 ≤ sizeLine; decide), fun t2 ht2 => ⟨by show 1 ≤ sizeLine; decide, fun l2 hl2 => ?_⟩⟩
        have A3 := (A2.new (o := .tup [.ref g', .non]) ht2).new (o := .lst [.ref t2]) hl2
        exact q1 _ _ G2 A3.sb A3.ex A3.g A3.u ⟨l2, t2, rfl, upd_same, by rw [upd_ne (ne_of_none upd_same hl2)]; exact upd_same⟩
end
end Fs
-- FsQ
set_option Elab.async false
set_option linter.all false
set_option maxRecDepth 100000
set_option maxHeartbeats 4000000
namespace Fs
open PySem PySem.Spec PyProof.Rows L2
section
variable {P : Program} {w : World} {K : PySem.W.Frag} {mg : Str → Option Value} {base h : Heap}
variable {c l p : Addr} {H0 G0 H G H' G' : Hp} {r r' : Toks} {vs ws : List V} {o : HO}
/-! ## the open blocks: from the innermost; b its list, br its branch, ents what stands in the pile, ms the other lists that change -/
def StkR (K : PySem.W.Frag) (N n : Nat) (bd : Addr) (H G : Hp) : List (Fr × List St) → Addr → V → List V → List Addr → Prop
  | [], b, br, ents, ms => b = bd ∧ br = .non ∧ (∃ t, ents = [.ref t] ∧ H t = some (.tup [.ref bd, .non])) ∧ ms = []
  | (.if1 kw l cc q, par) :: stk, b, br, ents, ms => ∃ s pb pbr ents' ms' t pvs dx k' l' q' b2, ents = ents' ++ [.ref t] ∧ H t = some (.tup [.ref b, .ref s]) ∧ br = .ref s ∧ G s = some (.ins (He.ga K "IfStatement") dx (ifF k' l' (.str cc) q' b b2)) ∧ TokR K G k' kw ∧ ExR K G l' l ∧ ExR K G q' q ∧
      Own H G b2 [] ∧ Own H G pb (pvs ++ [.ref s]) ∧ StsR K G pvs par ∧ pvs.length + 1 + n ≤ N ∧ ms = b2 :: pb :: ms' ∧ StkR K N n bd H G stk pb pbr ents' ms'
  | (.if2 kw l cc q b1, par) :: stk, b, br, ents, ms => ∃ s pb pbr ents' ms' t pvs dx k' l' q' f vf, ents = ents' ++ [.ref t] ∧ H t = some (.tup [.ref b, .non]) ∧ br = .non ∧ G s = some (.ins (He.ga K "IfStatement") dx (ifF k' l' (.str cc) q' f b)) ∧ TokR K G k' kw ∧ ExR K G l' l ∧ ExR K G q' q ∧
      G f = some (.lst vf) ∧ StsR K G vf b1 ∧ Own H G pb (pvs ++ [.ref s]) ∧ StsR K G pvs par ∧ pvs.length + 1 + n ≤ N ∧ ms = pb :: ms' ∧ StkR K N n bd H G stk pb pbr ents' ms'
  | (.lp kw e, par) :: stk, b, br, ents, ms => ∃ s pb pbr ents' ms' t pvs dx k' e', ents = ents' ++ [.ref t] ∧ H t = some (.tup [.ref b, .non]) ∧ br = .non ∧ G s = some (.ins (He.ga K "LoopStatement") dx (lpF k' e' b)) ∧ TokR K G k' kw ∧ ExR K G e' e ∧
      Own H G pb (pvs ++ [.ref s]) ∧ StsR K G pvs par ∧ pvs.length + 1 + n ≤ N ∧ ms = pb :: ms' ∧ StkR K N n bd H G stk pb pbr ents' ms'
theorem StkR.mono {N n n' : Nat} {bd : Addr} (hn : n' ≤ n) (ht : ∀ t xs, H t = some (.tup xs) → H' t = some (.tup xs)) (hg : Same G G') : ∀ {stk : List (Fr × List St)} {b : Addr} {br : V} {ents : List V} {ms : List Addr},
    (∀ a ∈ ms, ∀ vs, Own H G a vs → Own H' G' a vs) → StkR K N n bd H G stk b br ents ms → StkR K N n' bd H' G' stk b br ents ms
  | [], b, br, ents, ms, ho, z => by
    unfold StkR at z ⊢
    obtain ⟨h1, h2, ⟨t, h3, h4⟩, h5⟩ := z
    exact ⟨h1, h2, ⟨t, h3, ht _ _ h4⟩, h5⟩
  | (.if1 kw l cc q, par) :: stk, b, br, ents, ms, ho, z => by
    unfold StkR at z ⊢
    obtain ⟨s, pb, pbr, ents', ms', t, pvs, dx, k', l', q', b2, h1, h2, h3, h4, h5, h6, h7, h8, h9, h10, h11, h12, h13⟩ := z
    subst h12
    exact ⟨s, pb, pbr, ents', ms', t, pvs, dx, k', l', q', b2, h1, ht _ _ h2, h3, hg _ _ h4, h5.mono hg, h6.mono hg, h7.mono hg, ho _ (by simp) _ h8, ho _ (by simp) _ h9, h10.mono hg, by omega, rfl, StkR.mono hn ht hg (fun a ha => ho a (by simp [ha])) h13⟩
  | (.if2 kw l cc q b1, par) :: stk, b, br, ents, ms, ho, z => by
    unfold StkR at z ⊢
    obtain ⟨s, pb, pbr, ents', ms', t, pvs, dx, k', l', q', f, vf, h1, h2, h3, h4, h5, h6, h7, h8, h9, h10, h11, h12, h13, h14⟩ := z
    subst h13
    exact ⟨s, pb, pbr, ents', ms', t, pvs, dx, k', l', q', f, vf, h1, ht _ _ h2, h3, hg _ _ h4, h5.mono hg, h6.mono hg, h7.mono hg, hg _ _ h8, h9.mono hg, ho _ (by simp) _ h10, h11.mono hg, by omega, rfl, StkR.mono hn ht hg (fun a ha => ho a (by simp [ha])) h14⟩
  | (.lp kw e, par) :: stk, b, br, ents, ms, ho, z => by
    unfold StkR at z ⊢
    obtain ⟨s, pb, pbr, ents', ms', t, pvs, dx, k', e', h1, h2, h3, h4, h5, h6, h7, h8, h9, h10, h11⟩ := z
    subst h10
    exact ⟨s, pb, pbr, ents', ms', t, pvs, dx, k', e', h1, ht _ _ h2, h3, hg _ _ h4, h5.mono hg, h6.mono hg, ho _ (by simp) _ h7, h8.mono hg, by omega, rfl, StkR.mono hn ht hg (fun a ha => ho a (by simp [ha])) h11⟩
/-- the innermost entry -/
theorem StkR.last {N n : Nat} {bd : Addr} {stk : List (Fr × List St)} {b : Addr} {br : V} {ents : List V} {ms : List Addr} (z : StkR K N n bd H G stk b br ents ms) : ∃ ents' t, ents = ents' ++ [.ref t] ∧ H t = some (.tup [.ref b, br]) := by
  cases stk with
  | nil =>
    unfold StkR at z
    obtain ⟨rfl, rfl, ⟨t, h3, h4⟩, h5⟩ := z
    exact ⟨[], t, h3, h4⟩
  | cons a stk =>
    obtain ⟨fr, par⟩ := a
    cases fr with
    | if1 kw l cc q =>
      unfold StkR at z
      obtain ⟨s, pb, pbr, ents', ms', t, pvs, dx, k', l', q', b2, h1, h2, h3, _⟩ := z
      exact ⟨ents', t, h1, by rw [h3]; exact h2⟩
    | if2 kw l cc q b1 =>
      unfold StkR at z
      obtain ⟨s, pb, pbr, ents', ms', t, pvs, dx, k', l', q', f, vf, h1, h2, h3, _⟩ := z
      exact ⟨ents', t, h1, by rw [h3]; exact h2⟩
    | lp kw e =>
      unfold StkR at z
      obtain ⟨s, pb, pbr, ents', ms', t, pvs, dx, k', e', h1, h2, h3, _⟩ := z
      exact ⟨ents', t, h1, by rw [h3]; exact h2⟩
theorem tup_put {l : Addr} {vs ws : List V} (h : H l = some (.lst vs)) : ∀ t xs, H t = some (.tup xs) → upd H l (.lst ws) t = some (.tup xs) := fun t xs e => by
  rw [upd_ne (ne_of e h (by intro z; cases z))]
  exact e
theorem tup_but {c : Addr} (s : SameBut c H H') (u : CurAt K H G c r) : ∀ t xs, H t = some (.tup xs) → H' t = some (.tup xs) := fun t xs e => by
  obtain ⟨dx, tl, ws, pre, h1, _⟩ := u.at_
  exact s _ _ e (ne_of e h1 (by intro z; cases z))
theorem tup_new (n : H p = none) : ∀ t xs, H t = some (.tup xs) → upd H p o t = some (.tup xs) := fun t xs e => by
  rw [upd_ne (ne_of_none e n)]
  exact e
/-- the state of the loop while blocks are open -/
structure Run (K : PySem.W.Frag) (c : Addr) (H0 G0 : Hp) (N : Nat) (bd od : Addr) (Q : VK) (E : XK) (H G : Hp) (r : Toks) (stk : List (Fr × List St)) (cur : List St) (b : Addr) (br : V) (ents : List V) (ms : List Addr) (vs : List V) (n : Nat) : Prop where
  a : At K c H0 G0 H G r
  z : StkR K N r.length bd H G stk b br ents ms
  o : Own H G od ents
  w : Own H G b vs
  s : StsR K G vs cur
  nd : (od :: b :: ms).Nodup
  new : ∀ a ∈ od :: b :: ms, H0 a = none
  l1 : vs.length + r.length ≤ N
  l2 : ents.length + r.length ≤ N + 1
  fuel : r.length ≤ n
  q : Post K H0 G0 c (fun _ => BlkR K) Q E (pBlk n stk cur r)
/-- behind the last brace -/
structure Fin (K : PySem.W.Frag) (c : Addr) (H0 G0 : Hp) (bd od : Addr) (Q : VK) (E : XK) (H G : Hp) (r : Toks) (cur : List St) (vs : List V) : Prop where
  a : At K c H0 G0 H G r
  o : Own H G od []
  w : Own H G bd vs
  s : StsR K G vs cur
  new : H0 bd = none
  q : Post K H0 G0 c (fun _ => BlkR K) Q E (.ok (cur, r))
/-- the loop's word -/
def Blk (K : PySem.W.Frag) (c : Addr) (H0 G0 : Hp) (N : Nat) (bd od : Addr) (Q : VK) (E : XK) (m : Nat) (σ : L2.St) (H : Hp) : Prop :=
  (∃ x3 x4 x5, σ = [some (.ref c), some (.ref bd), some (.ref od), x3, x4, x5]) ∧
    ((∃ G r stk cur b br ents ms vs n, m = r.length ∧ Run K c H0 G0 N bd od Q E H G r stk cur b br ents ms vs n) ∨ (∃ G r cur vs, m = r.length ∧ Fin K c H0 G0 bd od Q E H G r cur vs))
theorem ents_ne {N n : Nat} {bd : Addr} {stk : List (Fr × List St)} {b : Addr} {br : V} {ents : List V} {ms : List Addr} (z : StkR K N n bd H G stk b br ents ms) : ents.isEmpty = false := by
  obtain ⟨e, t, rfl, _⟩ := z.last
  cases e <;> rfl
end
end Fs
-- FsS
set_option Elab.async false
set_option linter.all false
set_option maxRecDepth 100000
set_option maxHeartbeats 8000000
namespace Fs
open PySem PySem.Spec PyProof.Rows L2
/-- the keyword of a statement with blocks -/
def kwOk : St → Prop
  | .ite k _ _ _ _ _ => k.kind = ("if" : Str)
  | .loop k _ _ => k.kind = ("loop" : Str)
  | _ => True
theorem pHead_kw {t : Tok} {r : Toks} {s : St} {r' : Toks} (h : pHead t r = .ok (s, r')) : kwOk s := by
  have asg : ∀ k, pAsg t k r = .ok (s, r') → kwOk s := fun k h => by
    unfold pAsg at h
    obtain ⟨⟨_, r1⟩, h1, h⟩ := bind_ok h
    obtain ⟨⟨_, r2⟩, h2, h⟩ := bind_ok h
    obtain ⟨⟨_, r3⟩, h3, h⟩ := bind_ok h
    obtain ⟨⟨_, r4⟩, h4, h⟩ := bind_ok h
    cases h
    trivial
  have val : pVal t r = .ok (s, r') → kwOk s := fun h => by
    unfold pVal at h
    obtain ⟨⟨_, r3⟩, h3, h⟩ := bind_ok h
    obtain ⟨⟨_, r4⟩, h4, h⟩ := bind_ok h
    cases h
    trivial
  unfold pHead at h
  split at h
  · exact asg _ h
  · split at h
    · exact asg _ h
    · split at h
      · exact val h
      · split at h
        · exact val h
        · split at h
          · rename_i e
            unfold pIf at h
            obtain ⟨⟨_, r1⟩, h1, h⟩ := bind_ok h
            obtain ⟨⟨_, r2⟩, h2, h⟩ := bind_ok h
            obtain ⟨⟨_, r3⟩, h3, h⟩ := bind_ok h
            cases h
            exact e
          · split at h
            · rename_i e
              unfold pLoop at h
              obtain ⟨⟨_, r1⟩, h1, h⟩ := bind_ok h
              cases h
              exact e
            · unfold pCall at h
              obtain ⟨⟨_, r1⟩, h1, h⟩ := bind_ok h
              obtain ⟨⟨_, r2⟩, h2, h⟩ := bind_ok h
              obtain ⟨⟨_, r3⟩, h3, h⟩ := bind_ok h
              obtain ⟨⟨_, r4⟩, h4, h⟩ := bind_ok h
              obtain ⟨⟨_, r5⟩, h5, h⟩ := bind_ok h
              obtain ⟨⟨_, r6⟩, h6, h⟩ := bind_ok h
              obtain ⟨⟨_, r7⟩, h7, h⟩ := bind_ok h
              obtain ⟨⟨_, r8⟩, h8, h⟩ := bind_ok h
              cases h
              trivial
theorem pStmt_kw {r : Toks} {s : St} {r' : Toks} (h : pStmt r = .ok (s, r')) : kwOk s := by
  unfold pStmt at h
  obtain ⟨⟨_, r1⟩, h1, h⟩ := bind_ok h
  exact pHead_kw h
section
variable {P : Program} {w : World} {K : PySem.W.Frag} {mg : Str → Option Value} {base h : Heap}
variable {c l p : Addr} {H0 G0 H G H' G' : Hp} {r r' : Toks} {vs ws : List V} {o : HO}
theorem Own.more (w : Own H G l vs) (s : Same H H') : Own H' G l vs := ⟨s _ _ w.at_, w.nG⟩
theorem drop_last (xs : List V) (v : V) : (xs ++ [v]).dropLast = xs := by simp
theorem get_last (xs : List V) (v : V) : (xs ++ [v])[(xs ++ [v]).length - 1]? = some v := by simp
theorem app_ref {xs ys : List V} {s t : Addr} (h : xs ++ [V.ref s] = ys ++ [V.ref t]) : xs = ys ∧ s = t := by
  have h1 := congrArg List.dropLast h
  rw [drop_last, drop_last] at h1
  subst h1
  have h2 := List.append_cancel_left h
  cases h2
  exact ⟨rfl, rfl⟩
theorem skip1 {a x b : Addr} {l : List Addr} (h : a ∈ x :: l) : a ∈ x :: b :: l := by
  rcases List.mem_cons.mp h with h | h
  · exact List.mem_cons.mpr (.inl h)
  · exact List.mem_cons.mpr (.inr (List.mem_cons.mpr (.inr h)))
theorem skip2 {a x b d : Addr} {l : List Addr} (h : a ∈ x :: l) : a ∈ x :: b :: d :: l := by
  rcases List.mem_cons.mp h with h | h
  · exact List.mem_cons.mpr (.inl h)
  · exact List.mem_cons.mpr (.inr (List.mem_cons.mpr (.inr (List.mem_cons.mpr (.inr h)))))
theorem nd_skip {x b : Addr} {l : List Addr} (h : (x :: b :: l).Nodup) : (x :: l).Nodup :=
  have z := List.nodup_cons.mp h
  List.nodup_cons.mpr ⟨fun hm => z.1 (List.mem_cons.mpr (.inr hm)), (List.nodup_cons.mp z.2).2⟩
theorem nd_not {a : Addr} {l : List Addr} (h : (a :: l).Nodup) : ∀ b ∈ l, b ≠ a := fun b hb e => (List.nodup_cons.mp h).1 (e ▸ hb)
def clo (n : Nat) (stk : List (Fr × List St)) (cur : List St) (r1 : Toks) : Res (List St × Toks) := match stk with
        | [] => .ok (cur, r1)
        | (.if1 kw l c q, par) :: stk => if ahead r1 = "else" then take ["else"] r1 >>= fun b => take ["{"] b.2 >>= fun d => pBlk n ((.if2 kw l c q cur, par) :: stk) [] d.2
          else pBlk n stk (par ++ [.ite kw l c q cur []]) r1
        | (.if2 kw l c q b1, par) :: stk => pBlk n stk (par ++ [.ite kw l c q b1 cur]) r1
        | (.lp kw e, par) :: stk => pBlk n stk (par ++ [.loop kw e cur]) r1
/-- what the loop goes on with -/
def Nx (K : PySem.W.Frag) (c : Addr) (H0 G0 : Hp) (N : Nat) (bd od : Addr) (Q : VK) (E : XK) (H : Hp) (r : Toks) : Prop :=
  (∃ G stk cur b br ents ms vs n, Run K c H0 G0 N bd od Q E H G r stk cur b br ents ms vs n) ∨ (∃ G cur vs, Fin K c H0 G0 bd od Q E H G r cur vs)
/-- the innermost block is finished, nothing opens -/
theorem Run.pop {N : Nat} {bd od : Addr} {Q : VK} {E : XK} {stk : List (Fr × List St)} {cur : List St} {b : Addr} {br : V} {ents : List V} {ms : List Addr} {n : Nat} {ents' : List V} {t : Addr}
    (A : At K c H0 G0 H G r) (z : StkR K N r.length bd H G stk b br ents ms) (o1 : Own H G od ents') (w : Own H G b vs) (s : StsR K G vs cur) (nd : (od :: b :: ms).Nodup) (new : ∀ a ∈ od :: b :: ms, H0 a = none) (l2 : ents'.length + r.length ≤ N + 1) (fuel : r.length ≤ n) (he : ents = ents' ++ [.ref t]) (hn : br = .non ∨ ahead r ≠ "else")
    (q : Post K H0 G0 c (fun _ => BlkR K) Q E (clo n stk cur r)) : Nx K c H0 G0 N bd od Q E H r := by
  have nbo : b ≠ od := nd_not nd b (by simp)
  have nb : H0 b = none := new b (by simp)
  have A1 := A.fin w nb
  have g1 : Same G (upd G b (.lst vs)) := w.le
  have oth : ∀ a ∈ ms, ∀ us, Own H G a us → Own H (upd G b (.lst vs)) a us := fun a ha us ow => ow.finO (nd_not (List.nodup_cons.mp nd).2 a ha)
  cases stk with
  | nil =>
    unfold StkR at z
    obtain ⟨rfl, rfl, ⟨t', h3, h4⟩, h5⟩ := z
    subst h3
    cases ents' with
    | nil => exact .inr ⟨G, cur, vs, A, o1, w, s, nb, q⟩
    | cons a e => 
      cases e <;> cases he
  | cons fp stk =>
    obtain ⟨fr, par⟩ := fp
    cases fr with
    | if1 kw l cc qq =>
      unfold StkR at z
      obtain ⟨s', pb, pbr, ents2, ms', t', pvs, dx, k', l', q', b2, h1, h2, h3, h4, h5, h6, h7, h8, h9, h10, h11, h12, h13⟩ := z
      obtain ⟨e1, e2⟩ := app_ref (he.symm.trans h1)
      subst e1; subst h12
      rcases hn with hn | hn
      · rw [h3] at hn; cases hn
      · have q2 : Post K H0 G0 c (fun _ => BlkR K) Q E (pBlk n stk (par ++ [.ite kw l cc qq cur []]) r) := by
          unfold clo at q
          dsimp only at q
          rw [if_neg hn] at q
          exact q
        have h8' := oth b2 (by simp) _ h8
        have nb2 : H0 b2 = none := new b2 (by simp)
        have A2 := A1.fin h8' nb2
        have nd2 : (b :: b2 :: pb :: ms').Nodup := (List.nodup_cons.mp nd).2
        have nd3 : (b2 :: pb :: ms').Nodup := (List.nodup_cons.mp nd2).2
        have n2o : od ≠ b2 := fun e => nd_not nd b2 (by simp) e.symm
        have gg := g1.trans (h8'.le (o := .lst []))
        have oth2 : ∀ a ∈ pb :: ms', ∀ us, Own H G a us → Own H (upd (upd G b (.lst vs)) b2 (.lst [])) a us := fun a ha us ow => (oth a (by simp at ha ⊢; exact .inr ha) us ow).finO (nd_not nd3 a ha)
        refine .inl ⟨_, stk, _, pb, pbr, ents', ms', _, n, A2, StkR.mono (Nat.le_refl _) (fun _ _ h => h) gg (fun a ha => oth2 a (by simp [ha])) h13, (o1.finO (Ne.symm nbo)).finO n2o, oth2 pb (by simp) _ h9, (h10.mono gg).snoc ?_, ?_, fun a ha => new a (skip2 ha), by simp; omega, l2, fuel, q2⟩
        · unfold StR
          exact ⟨s', dx, k', l', q', b, b2, vs, [], rfl, gg _ _ h4, h5.mono gg, h6.mono gg, h7.mono gg, by rw [upd_ne (ne_of_none (upd_same) h8'.nG)]; exact upd_same, s.mono gg, upd_same, by unfold StsR; trivial⟩
        · exact nd_skip (nd_skip nd)
    | if2 kw l cc qq b1 =>
      unfold StkR at z
      obtain ⟨s', pb, pbr, ents2, ms', t', pvs, dx, k', l', q', f, vf, h1, h2, h3, h4, h5, h6, h7, h8, h9, h10, h11, h12, h13, h14⟩ := z
      obtain ⟨e1, e2⟩ := app_ref (he.symm.trans h1)
      subst e1; subst h13
      refine .inl ⟨_, stk, _, pb, pbr, ents', ms', _, n, A1, StkR.mono (Nat.le_refl _) (fun _ _ h => h) g1 (fun a ha => oth a (by simp [ha])) h14, o1.finO (Ne.symm nbo), oth pb (by simp) _ h10, (h11.mono g1).snoc ?_, ?_, fun a ha => new a (skip1 ha), by simp; omega, l2, fuel, q⟩
      · unfold StR
        exact ⟨s', dx, k', l', q', f, b, vf, vs, rfl, g1 _ _ h4, h5.mono g1, h6.mono g1, h7.mono g1, g1 _ _ h8, h9.mono g1, upd_same, s.mono g1⟩
      · exact nd_skip nd
    | lp kw e =>
      unfold StkR at z
      obtain ⟨s', pb, pbr, ents2, ms', t', pvs, dx, k', ee, h1, h2, h3, h4, h5, h6, h7, h8, h9, h10, h11⟩ := z
      obtain ⟨e1, e2⟩ := app_ref (he.symm.trans h1)
      subst e1; subst h10
      refine .inl ⟨_, stk, _, pb, pbr, ents', ms', _, n, A1, StkR.mono (Nat.le_refl _) (fun _ _ h => h) g1 (fun a ha => oth a (by simp [ha])) h11, o1.finO (Ne.symm nbo), oth pb (by simp) _ h7, (h8.mono g1).snoc ?_, ?_, fun a ha => new a (skip1 ha), by simp; omega, l2, fuel, q⟩
      · unfold StR
        exact ⟨s', dx, k', ee, b, vs, rfl, g1 _ _ h4, h5.mono g1, h6.mono g1, upd_same, s.mono g1⟩
      · exact nd_skip nd
end
end Fs
-- FsV
set_option Elab.async false
set_option linter.all false
set_option maxRecDepth 100000
set_option maxHeartbeats 8000000
namespace Fs
open PySem PySem.Spec PyProof.Rows L2
section
variable {P : Program} {w : World} {K : PySem.W.Frag} {mg : Str → Option Value} {base h : Heap}
variable {c l p : Addr} {H0 G0 H G H' G' : Hp} {r r' : Toks} {vs ws : List V} {o : HO}
/-- the first block is finished, the second opens -/
theorem Run.els {N : Nat} {bd od : Addr} {Q : VK} {E : XK} {stk : List (Fr × List St)} {par : List St} {kw : Tok} {le qe : Ex} {cc : Str} {cur : List St} {b s b2 : Addr} {ents : List V} {ms : List Addr} {n : Nat} {ents' : List V} {t t2 dx : Addr} {k' l' c' q' : V}
    (A : At K c H0 G0 H G r) (z : StkR K N r.length bd H G ((.if1 kw le cc qe, par) :: stk) b (.ref s) ents ms) (hs : G s = some (.ins (He.ga K "IfStatement") dx (ifF k' l' c' q' b b2))) (o1 : Own H G od (ents' ++ [.ref t2])) (h2 : H t2 = some (.tup [.ref b2, .non])) (w : Own H G b vs) (sv : StsR K G vs cur) (nd : (od :: b :: ms).Nodup) (new : ∀ a ∈ od :: b :: ms, H0 a = none) (l2 : ents'.length + r.length ≤ N) (fuel : r.length ≤ n) (he : ents = ents' ++ [.ref t])
    (q : Post K H0 G0 c (fun _ => BlkR K) Q E (pBlk n ((.if2 kw le cc qe cur, par) :: stk) [] r)) : Nx K c H0 G0 N bd od Q E H r := by
  have nbo : b ≠ od := nd_not nd b (by simp)
  have nb : H0 b = none := new b (by simp)
  have A1 := A.fin w nb
  have g1 : Same G (upd G b (.lst vs)) := w.le
  have oth : ∀ a ∈ ms, ∀ us, Own H G a us → Own H (upd G b (.lst vs)) a us := fun a ha us ow => ow.finO (nd_not (List.nodup_cons.mp nd).2 a ha)
  unfold StkR at z
  obtain ⟨s', pb, pbr, ents2, ms', t', pvs, dx', k1, l1, q1, b2', h1, h2', h3, h4, h5, h6, h7, h8, h9, h10, h11, h12, h13⟩ := z
  obtain ⟨e1, e2⟩ := app_ref (he.symm.trans h1)
  subst e1; subst h12
  cases h3
  rw [h4] at hs
  cases hs
  have h8' := oth b2 (by simp) _ h8
  have h9' := oth pb (by simp) _ h9
  refine .inl ⟨_, (.if2 kw le cc qe cur, par) :: stk, [], b2, .non, ents' ++ [.ref t2], pb :: ms', [], n, A1, ?_, o1.finO (Ne.symm nbo), h8', by unfold StsR; trivial, nd_skip nd, fun a ha => new a (skip1 ha), by show 0 + _ ≤ _; omega, by rw [List.length_append]; show ents'.length + 1 + _ ≤ _; omega, fuel, q⟩
  unfold StkR
  exact ⟨s, pb, pbr, ents', ms', t2, pvs, dx, k', l', q', b, vs, rfl, h2, rfl, g1 _ _ h4, h5.mono g1, h6.mono g1, h7.mono g1, upd_same, sv.mono g1, h9', h10.mono g1, h11, rfl, StkR.mono (Nat.le_refl _) (fun _ _ h => h) g1 (fun a ha => oth a (by simp [ha])) h13⟩
theorem StkR.own {N n : Nat} {bd : Addr} : ∀ {stk : List (Fr × List St)} {b : Addr} {br : V} {ents : List V} {ms : List Addr}, StkR K N n bd H G stk b br ents ms → ∀ a ∈ ms, ∃ vs, Own H G a vs
  | [], b, br, ents, ms, z, a, ha => by
    unfold StkR at z
    obtain ⟨h1, h2, ⟨t, h3, h4⟩, h5⟩ := z
    subst h5; simp at ha
  | (.if1 kw l cc q, par) :: stk, b, br, ents, ms, z, a, ha => by
    unfold StkR at z
    obtain ⟨s, pb, pbr, ents', ms', t, pvs, dx, k', l', q', b2, h1, h2, h3, h4, h5, h6, h7, h8, h9, h10, h11, h12, h13⟩ := z
    subst h12
    rcases List.mem_cons.mp ha with rfl | ha
    · exact ⟨_, h8⟩
    · rcases List.mem_cons.mp ha with rfl | ha
      · exact ⟨_, h9⟩
      · exact StkR.own h13 a ha
  | (.if2 kw l cc q b1, par) :: stk, b, br, ents, ms, z, a, ha => by
    unfold StkR at z
    obtain ⟨s, pb, pbr, ents', ms', t, pvs, dx, k', l', q', f, vf, h1, h2, h3, h4, h5, h6, h7, h8, h9, h10, h11, h12, h13, h14⟩ := z
    subst h13
    rcases List.mem_cons.mp ha with rfl | ha
    · exact ⟨_, h10⟩
    · exact StkR.own h14 a ha
  | (.lp kw e, par) :: stk, b, br, ents, ms, z, a, ha => by
    unfold StkR at z
    obtain ⟨s, pb, pbr, ents', ms', t, pvs, dx, k', e', h1, h2, h3, h4, h5, h6, h7, h8, h9, h10, h11⟩ := z
    subst h10
    rcases List.mem_cons.mp ha with rfl | ha
    · exact ⟨_, h7⟩
    · exact StkR.own h11 a ha
/-- behind «}» and the pop -/
theorem Run.close {N : Nat} {bd od : Addr} {Q : VK} {E : XK} {stk : List (Fr × List St)} {cur : List St} {b : Addr} {br : V} {ents : List V} {ms : List Addr} {n : Nat} {ents' : List V} {t : Addr}
    (A : At K c H0 G0 H G r) (z : StkR K N r.length bd H G stk b br ents ms) (o1 : Own H G od ents) (w : Own H G b vs) (s : StsR K G vs cur) (nd : (od :: b :: ms).Nodup) (new : ∀ a ∈ od :: b :: ms, H0 a = none) (l2 : ents'.length + r.length ≤ N) (fuel : r.length ≤ n) (he : ents = ents' ++ [.ref t])
    (q : Post K H0 G0 c (fun _ => BlkR K) Q E (clo n stk cur r)) {T1 : VK} (hT : ∀ l zs H2 (r' : Toks), zs.length ≤ 1 → H2 od = some (.lst ents') → H2 l = some (.lst zs) → r'.length ≤ r.length → Nx K c H0 G0 N bd od Q E (upd H2 od (.lst (ents' ++ zs))) r' → T1 (.ref l) H2) : spOf2 K [.ref c, br] (upd H od (.lst ents')) T1 E := by
  have hod : H0 od = none := new od (by simp)
  have nbo : b ≠ od := nd_not nd b (by simp)
  have Ap := A.put (o := .lst ents') o1 hod
  have o2 := o1.set (ws := ents')
  have z2 : StkR K N r.length bd (upd H od (.lst ents')) G stk b br ents ms := z.mono (Nat.le_refl _) (tup_put o1.at_) (Same.refl G) fun a ha us ow => ow.put (nd_not nd a (List.mem_cons.mpr (.inr ha)))
  have w2 := w.put (o := .lst ents') nbo
  have plain : (br = .non ∨ ahead r ≠ "else") → NewL (upd H od (.lst ents')) [] T1 := fun hn l H2 sm nl hl => by
    refine hT l [] H2 r (by simp) (sm _ _ upd_same) hl (Nat.le_refl _) ?_
    have o3 := (o2.more sm).set (ws := ents' ++ [])
    refine Run.pop ((Ap.more sm).put (o2.more sm) hod) (z2.mono (Nat.le_refl _) (fun t xs e => tup_put (o2.more sm).at_ t xs (sm _ _ e)) (Same.refl G) fun a ha us ow => (ow.more sm).put (nd_not nd a (List.mem_cons.mpr (.inr ha)))) o3 ((w2.more sm).put nbo) s nd new ?_ fuel (by rw [List.append_nil]; exact he) hn q
    rw [List.append_nil]; omega
  refine ⟨c, G, r, br, rfl, Ap.g, Ap.u, ?_⟩
  cases stk with
  | nil =>
    have z' := z
    unfold StkR at z'
    exact .inl ⟨z'.2.1, plain (.inl z'.2.1)⟩
  | cons fp stk =>
    obtain ⟨fr, par⟩ := fp
    cases fr with
    | if2 kw l cc qq b1 =>
      have z' := z
      unfold StkR at z'
      obtain ⟨_, _, _, _, _, _, _, _, _, _, _, _, _, _, _, h3, _⟩ := z'
      exact .inl ⟨h3, plain (.inl h3)⟩
    | lp kw e =>
      have z' := z
      unfold StkR at z'
      obtain ⟨_, _, _, _, _, _, _, _, _, _, _, _, h3, _⟩ := z'
      exact .inl ⟨h3, plain (.inl h3)⟩
    | if1 kw l cc qq =>
      have z' := z
      unfold StkR at z'
      obtain ⟨s', pb, pbr, ents2, ms', t', pvs, dx, k', l', q', b2, h1, h2, h3, h4, _⟩ := z'
      subst h3
      refine .inr ⟨s', dx, k', l', .str cc, q', b, b2, rfl, h4, ?_⟩
      by_cases e : ahead r = "else"
      · refine .inr ⟨e, ?_⟩
        have q2 : Post K H0 G0 c (fun _ => BlkR K) Q E ((take ["else"] r >>= fun b => take ["{"] b.2) >>= fun d => pBlk n ((.if2 kw l cc qq cur, par) :: stk) [] d.2) := by
          unfold clo at q
          dsimp only at q
          rw [if_pos e] at q
          rw [bindA]
          exact q
        refine q2.seqA Ap fun d r' v H' G' e' s1 x1 A1 hx q3 => ?_
        obtain ⟨l1, t2, rfl, hl, ht⟩ := hx
        have hlen : r'.length ≤ r.length := by
          obtain ⟨⟨_, r4⟩, g1, g2⟩ := bind_ok e'
          have b1 : r.length = r4.length + 1 := take_len g1
          have b2 : r4.length = r'.length + 1 := take_len g2
          omega
        have o3 := o2.keep Ap.u s1 x1
        have ntl : t2 ≠ od := ne_of ht o3.at_ (by intro z; cases z)
        refine hT l1 [.ref t2] H' r' (by simp) o3.at_ hl hlen ?_
        exact Run.els (A1.put o3 hod) (z2.mono hlen (fun t xs e => tup_put o3.at_ t xs (tup_but s1 Ap.u t xs e)) x1.le fun a ha us ow => (ow.keep Ap.u s1 x1).put (nd_not nd a (List.mem_cons.mpr (.inr ha)))) (x1.le _ _ h4) o3.set (by rw [upd_ne ntl]; exact ht) ((w2.keep Ap.u s1 x1).put nbo) (s.mono x1.le) nd new (by omega) (by omega) he q3
      · exact .inl ⟨e, plain (.inr e)⟩
def opn (n : Nat) (stk : List (Fr × List St)) (cur : List St) (s : St) (r : Toks) : Res (List St × Toks) := match s with
      | .ite kw l c q _ _ => take ["{"] r >>= fun b => pBlk n ((.if1 kw l c q, cur) :: stk) [] b.2
      | .loop kw e _ => take ["{"] r >>= fun b => pBlk n ((.lp kw e, cur) :: stk) [] b.2
      | s => pBlk n stk (cur ++ [s]) r
/-- behind a statement -/
theorem Run.opened {N : Nat} {bd od : Addr} {Q : VK} {E : XK} {stk : List (Fr × List St)} {cur : List St} {b : Addr} {br : V} {ents : List V} {ms : List Addr} {n : Nat} {O : Hp} {v : V} {st : St}
    (A : At K c H0 G0 H G r) (z : StkR K N r.length bd H G stk b br ents ms) (o1 : Own H G od ents) (w : Own H G b vs) (s : StsR K G vs cur) (nd : (od :: b :: ms).Nodup) (new : ∀ a ∈ od :: b :: ms, H0 a = none) (l1 : vs.length + 1 + r.length ≤ N) (l2 : ents.length + r.length ≤ N) (fuel : r.length ≤ n)
    (hd : HdR K O H G v st) (kw : kwOk st) (old : ∀ a ∈ od :: b :: ms, O a ≠ none) (fr : ∀ a, O a = none → H0 a = none)
    (q : Post K H0 G0 c (fun _ => BlkR K) Q E (opn n stk cur st r)) {T1 : VK} (hT : ∀ l zs H2 (r' : Toks), zs.length ≤ 1 → H2 od = some (.lst ents) → H2 l = some (.lst zs) → r'.length ≤ r.length → Nx K c H0 G0 N bd od Q E (upd H2 od (.lst (ents ++ zs))) r' → T1 (.ref l) H2) : spOf1 K [.ref c, v] (upd H b (.lst (vs ++ [v]))) T1 E := by
  have hod : H0 od = none := new od (by simp)
  have hb : H0 b = none := new b (by simp)
  have nbo : b ≠ od := nd_not nd b (by simp)
  have Ap := A.put (o := .lst (vs ++ [v])) w hb
  have o2 := o1.put (o := .lst (vs ++ [v])) (Ne.symm nbo)
  have z2 : StkR K N r.length bd (upd H b (.lst (vs ++ [v]))) G stk b br ents ms := z.mono (Nat.le_refl _) (tup_put w.at_) (Same.refl G) fun a ha us ow => ow.put (nd_not (List.nodup_cons.mp nd).2 a ha)
  have w2 := w.set (ws := vs ++ [v])
  have plain : StR K G v st → Post K H0 G0 c (fun _ => BlkR K) Q E (pBlk n stk (cur ++ [st]) r) → NewL (upd H b (.lst (vs ++ [v]))) [] T1 := fun hs q l H2 sm nl hl => by
    refine hT l [] H2 r (by simp) (sm _ _ o2.at_) hl (Nat.le_refl _) ?_
    have o3 := (o2.more sm).set (ws := ents ++ [])
    refine .inl ⟨G, stk, _, b, br, ents ++ [], ms, vs ++ [v], n, (Ap.more sm).put (o2.more sm) hod, ?_, o3, (w2.more sm).put nbo, s.snoc hs, nd, new, by rw [List.length_append]; show vs.length + 1 + _ ≤ _; omega, by rw [List.append_nil]; omega, fuel, q⟩
    rw [List.append_nil]
    exact z2.mono (Nat.le_refl _) (fun t xs e => tup_put (o2.more sm).at_ t xs (sm _ _ e)) (Same.refl G) fun a ha us ow => (ow.more sm).put (nd_not nd a (List.mem_cons.mpr (.inr ha)))
  cases st with
  | asg k t e =>
    unfold HdR at hd
    have hd' := hd
    unfold StR at hd'
    obtain ⟨a, dx, k', t', e', rfl, ha, _⟩ := hd'
    exact ⟨c, G, r, a, rfl, Ap.g, Ap.u, .inl ⟨_, dx, _, ha, .asg, (by kernel_rfl), plain hd q⟩⟩
  | val k e =>
    unfold HdR at hd
    have hd' := hd
    unfold StR at hd'
    obtain ⟨a, dx, k', e', rfl, ha, _⟩ := hd'
    exact ⟨c, G, r, a, rfl, Ap.g, Ap.u, .inl ⟨_, dx, _, ha, .val, (by kernel_rfl), plain hd q⟩⟩
  | call k t f as p q' fb =>
    unfold HdR at hd
    have hd' := hd
    unfold StR at hd'
    obtain ⟨a, dx, k', t', f', as', s', fb', rfl, ha, _⟩ := hd'
    exact ⟨c, G, r, a, rfl, Ap.g, Ap.u, .inl ⟨_, dx, _, ha, .call, (by kernel_rfl), plain hd q⟩⟩
  | ite k l cc rr b1 b2 =>
    unfold HdR at hd
    obtain ⟨rfl, rfl, a, dx, k', l', r', f, s2, rfl, ha, hk, hl, hr, of, os, nfs, nf, ns⟩ := hd
    refine ⟨c, G, r, a, rfl, Ap.g, Ap.u, .inr (.inl ⟨dx, k, k', l', .str cc, r', f, s2, ha, hk, kw, ?_⟩)⟩
    refine Post.seqA q Ap fun d r2 v2 H' G' e' s1 x1 A1 hx q3 => ?_
    obtain ⟨l1', t2, rfl, hl1, ht⟩ := hx
    have hlen : r.length = r2.length + 1 := take_len e'
    have nfm : ∀ x ∈ od :: b :: ms, x ≠ f := fun x hx e => old x hx (e ▸ nf)
    have nsm : ∀ x ∈ od :: b :: ms, x ≠ s2 := fun x hx e => old x hx (e ▸ ns)
    have o3 := o2.keep Ap.u s1 x1
    have ntl : t2 ≠ od := ne_of ht o3.at_ (by intro z; cases z)
    have fb := nfm b (by simp)
    have sb := nsm b (by simp)
    have fo := nfm od (by simp)
    have so := nsm od (by simp)
    refine hT l1' [.ref t2] H' r2 (by simp) o3.at_ hl1 (by omega) ?_
    refine .inl ⟨G', (.if1 k l cc rr, cur) :: stk, [], f, .ref a, ents ++ [.ref t2], s2 :: b :: ms, [], n, A1.put o3 hod, ?_, o3.set, ((of.put (Ne.symm fb)).keep Ap.u s1 x1).put (Ne.symm fo), by unfold StsR; trivial, ?_, ?_, by show 0 + _ ≤ _; omega, by rw [List.length_append]; show ents.length + 1 + _ ≤ _; omega, by omega, q3⟩
    · unfold StkR
      refine ⟨a, b, br, ents, ms, t2, vs, dx, k', l', r', s2, rfl, by rw [upd_ne ntl]; exact ht, rfl, x1.le _ _ ha, hk.mono x1.le, hl.mono x1.le, hr.mono x1.le, ((os.put (Ne.symm sb)).keep Ap.u s1 x1).put (Ne.symm so), (w2.keep Ap.u s1 x1).put nbo, s.mono x1.le, by omega, rfl, ?_⟩
      exact z2.mono (by omega) (fun t xs e => tup_put o3.at_ t xs (tup_but s1 Ap.u t xs e)) x1.le fun a ha us ow => (ow.keep Ap.u s1 x1).put (nd_not nd a (List.mem_cons.mpr (.inr ha)))
    · refine List.nodup_cons.mpr ⟨fun hm => ?_, List.nodup_cons.mpr ⟨fun hm => ?_, List.nodup_cons.mpr ⟨fun hm => ?_, (List.nodup_cons.mp nd).2⟩⟩⟩
      · rcases List.mem_cons.mp hm with h | hm
        · exact fo h
        · rcases List.mem_cons.mp hm with h | hm
          · exact so h
          · exact (List.nodup_cons.mp nd).1 hm
      · rcases List.mem_cons.mp hm with h | hm
        · exact nfs h
        · exact nfm f (List.mem_cons.mpr (.inr hm)) rfl
      · exact nsm s2 (List.mem_cons.mpr (.inr hm)) rfl
    · intro x hx
      rcases List.mem_cons.mp hx with rfl | hx
      · exact hod
      · rcases List.mem_cons.mp hx with rfl | hx
        · exact fr _ nf
        · rcases List.mem_cons.mp hx with rfl | hx
          · exact fr _ ns
          · exact new x (List.mem_cons.mpr (.inr hx))
  | loop k e b1 =>
    unfold HdR at hd
    obtain ⟨rfl, a, dx, k', e', f, rfl, ha, hk, hl, of, nf⟩ := hd
    refine ⟨c, G, r, a, rfl, Ap.g, Ap.u, .inr (.inr ⟨dx, k, k', e', f, ha, hk, kw, ?_⟩)⟩
    refine Post.seqA q Ap fun d r2 v2 H' G' e' s1 x1 A1 hx q3 => ?_
    obtain ⟨l1', t2, rfl, hl1, ht⟩ := hx
    have hlen : r.length = r2.length + 1 := take_len e'
    have nfm : ∀ x ∈ od :: b :: ms, x ≠ f := fun x hx e => old x hx (e ▸ nf)
    have o3 := o2.keep Ap.u s1 x1
    have ntl : t2 ≠ od := ne_of ht o3.at_ (by intro z; cases z)
    have fb := nfm b (by simp)
    have fo := nfm od (by simp)
    refine hT l1' [.ref t2] H' r2 (by simp) o3.at_ hl1 (by omega) ?_
    refine .inl ⟨G', (.lp k e, cur) :: stk, [], f, .non, ents ++ [.ref t2], b :: ms, [], n, A1.put o3 hod, ?_, o3.set, ((of.put (Ne.symm fb)).keep Ap.u s1 x1).put (Ne.symm fo), by unfold StsR; trivial, ?_, ?_, by show 0 + _ ≤ _; omega, by rw [List.length_append]; show ents.length + 1 + _ ≤ _; omega, by omega, q3⟩
    · unfold StkR
      refine ⟨a, b, br, ents, ms, t2, vs, dx, k', _, rfl, by rw [upd_ne ntl]; exact ht, rfl, x1.le _ _ ha, hk.mono x1.le, hl.mono x1.le, (w2.keep Ap.u s1 x1).put nbo, s.mono x1.le, by omega, rfl, ?_⟩
      exact z2.mono (by omega) (fun t xs e => tup_put o3.at_ t xs (tup_but s1 Ap.u t xs e)) x1.le fun a ha us ow => (ow.keep Ap.u s1 x1).put (nd_not nd a (List.mem_cons.mpr (.inr ha)))
    · refine List.nodup_cons.mpr ⟨fun hm => ?_, List.nodup_cons.mpr ⟨fun hm => ?_, (List.nodup_cons.mp nd).2⟩⟩
      · rcases List.mem_cons.mp hm with h | hm
        · exact fo h
        · exact (List.nodup_cons.mp nd).1 hm
      · exact nfm f (List.mem_cons.mpr (.inr hm)) rfl
    · intro x hx
      rcases List.mem_cons.mp hx with rfl | hx
      · exact hod
      · rcases List.mem_cons.mp hx with rfl | hx
        · exact fr _ nf
        · exact new x (List.mem_cons.mpr (.inr hx))
theorem szL {n : Nat} (h : n ≤ 2000000) : n ≤ sizeLine := Nat.le_trans h (by decide)
/-- parse_block -/
theorem p_block (T : Txt K w mg h) : Prom P w K mg base "parse_block" 9 (spCur K pBlock (BlkR K)) := by
  obtain ⟨fd, F⟩ := f_parse_block T
  refine ⟨_, fd, ["cursor"], g_parse_block T, F.kp, F.bindsN fun _ _ _ _ _ _ us hl => match us, hl with | [_], _ => rfl, ?_⟩
  refine F.ok sc_parse_block (fun vs H Q E h => ?_) (fun cdv A outer s H vs Q E hr h => ?_)
  · obtain ⟨c, G, r, rfl, _⟩ := h
    rfl
  · obtain ⟨c, G, r, rfl, g, u, q⟩ := h
    have hr1 : Room 1 _ := hr.mono (by decide)
    have hr4 : Room 4 _ := hr.mono (by decide)
    have hr5 : Room 5 _ := hr.mono (by decide)
    have nd := sc_parse_block.nd
    refine ⟨_, pss_cons (ps_set (i := 1) nd rfl (Or.inl rfl) (pe_lst pa_nil)) (pss_cons (ps_expr (pe_take T hr4 (passW (takes_of rfl rfl rfl rfl) fun _ _ _ _ z => z) (by decide +kernel) me_var (pv 0)))
      (pss_cons (ps_set (i := 2) nd rfl (Or.inl rfl) (pe_lst (pa_cons (pe_tup (pa_cons (pv 1) (pa_cons pe_non pa_nil))) pa_nil)))
      (pss_cons (ps_while (passes_of rfl) (pt_truth (pv 2) (by intro _; rfl))
        (pss_cons (ps_asg (pe_ix ix_list (pv 2) (pe_un un_neg pe_int) (fun _ _ => rfl)) (pg_tup rfl (pgs_cons (pg_name (i := 3) nd rfl (.inl rfl)) (pgs_cons (pg_name (i := 4) nd rfl (.inl rfl)) pgs_nil))))
        (pss_one (ps_if (pt_cmpR op_eq (pe_ahead T hr1 (passW (takes_of rfl rfl rfl rfl) fun _ _ _ _ z => z) me_var (pv 0)) pe_str (nomark _))
          (pss_cons (ps_expr (pe_take T hr4 (passW (takes_of rfl rfl rfl rfl) fun _ _ _ _ z => z) (by decide +kernel) me_var (pv 0))) (pss_cons (ps_expr (pe_bm0 PySem.F.plainAttrs_list PySem.F.slot_list_pop PySem.F.type_list_pop mt_pop (pv 2))) (pss_one (ps_expr (pe_bm PySem.F.plainAttrs_list PySem.F.slot_list_extend PySem.F.type_list_extend mt_extend (pv 2) (pa_cons (pe_p (p_of2 T) hr5 (passW (takes_of rfl rfl rfl rfl) fun _ _ _ _ z => z) (pa_cons (pv 0) (pa_cons (pv 4) pa_nil))) pa_nil))))))
          (pss_cons (ps_set (i := 5) nd rfl (Or.inl rfl) (pe_p (p_stmt T) hr (passW (takes_of rfl rfl rfl rfl) fun _ _ _ _ z => z) (pa_cons (pv 0) pa_nil))) (pss_cons (ps_expr (pe_bm PySem.F.plainAttrs_list PySem.F.slot_list_append PySem.F.type_list_append mt_append (pv 3) (pa_cons (pv 5) pa_nil)))
            (pss_one (ps_expr (pe_bm PySem.F.plainAttrs_list PySem.F.slot_list_extend PySem.F.type_list_extend mt_extend (pv 2) (pa_cons (pe_p (p_of1 T) hr5 (passW (takes_of rfl rfl rfl rfl) fun _ _ _ _ z => z) (pa_cons (pv 0) (pa_cons (pv 5) pa_nil))) pa_nil))))))))))
      (pss_one (ps_ret (pv 1)))))), ?_⟩
    have A0 : At K c H G H G r := At.refl g u
    have hlen := u.len
    refine ⟨by show 0 ≤ sizeLine; decide, fun bd hbd => ?_⟩
    have A1 := A0.new (o := .lst []) hbd
    have w1 : Own (upd H bd (.lst [])) G bd [] := Own.new A0.g hbd
    unfold pBlock at q
    refine ⟨_, rfl, c, G, r, rfl, A1.g, A1.u, q.seqA A1 fun t0 r1 v1 H1 G1 e1 s1 x1 A2 hx1 q1 => ?_⟩
    have w2 := w1.keep A1.u s1 x1
    refine ⟨_, rfl, (by show 2 ≤ sizeLine; decide), fun t1 ht1 => ⟨by show 1 ≤ sizeLine; decide, fun od hod => ?_⟩⟩
    have A3 := A2.new (o := .tup [.ref bd, .non]) ht1
    have A4 := A3.new (o := .lst [.ref t1]) hod
    have w4 := (w2.add (o := .tup [.ref bd, .non]) ht1).add (o := .lst [.ref t1]) hod
    have o4 : Own (upd (upd H1 t1 (.tup [.ref bd, .non])) od (.lst [.ref t1])) G1 od [.ref t1] := Own.new A3.g hod
    have nob : od ≠ bd := Ne.symm (ne_of_none (w2.add (o := .tup [.ref bd, .non]) ht1).at_ hod)
    have k1 : r.length = r1.length + 1 := take_len e1
    refine ⟨Blk K c H G r.length bd od Q E, ⟨r1.length, ⟨none, none, none, rfl⟩, .inl ⟨G1, r1, [], [], bd, .non, [.ref t1], [], [], r.length, rfl, A4, ?_, o4, w4, by unfold StsR; trivial, ?_, ?_, ?_, ?_, ?_, q1⟩⟩, ?_⟩
    · unfold StkR
      exact ⟨rfl, rfl, ⟨t1, rfl, by rw [upd_ne (ne_of_none upd_same hod)]; exact upd_same⟩, rfl⟩
    · simp [nob]
    · intro a ha
      simp at ha
      rcases ha with rfl | rfl
      · exact A3.free hod
      · exact hbd
    · show 0 + _ ≤ _
      omega
    · show 1 + _ ≤ _
      omega
    · omega
    rintro m σ H2 ⟨⟨x3, x4, x5, rfl⟩, hW⟩
    rcases hW with ⟨G2, r2, stk, cur, b, br, ents, ms, vs, n, rfl, R⟩ | ⟨G2, r2, cur, vs, rfl, R⟩
    · obtain ⟨ents', t, he, ht⟩ := R.z.last
      refine ⟨_, rfl, true, .inl ⟨ents, SqL.of R.o.at_, by rw [ents_ne R.z]; rfl⟩, iteT ⟨_, fun _ _ z => z, ?_⟩⟩
      have get : atI ents (-1) = some (V.ref t) := by rw [he]; exact atI_last _ _
      refine ⟨.ref od, rfl, 1, rfl, od, ents, -1, .ref t, rfl, rfl, SqL.of R.o.at_, get, t, [.ref b, br], rfl, SqT.of ht, rfl, _, _, rfl, _, _, rfl, rfl, ?_⟩
      obtain ⟨tk, rs, hrs⟩ := R.a.u.eo.ne
      have hpos : 1 ≤ r2.length := by rw [hrs]; show 1 ≤ rs.length + 1; omega
      obtain ⟨n, rfl⟩ : ∃ k, n = k + 1 := ⟨n - 1, by have := R.fuel; omega⟩
      have hU := R.q
      have hf := R.fuel
      have hl1 := R.l1
      have hl2 := R.l2
      have hel : ents.length = ents'.length + 1 := by rw [he, List.length_append]; rfl
      unfold pBlk at hU
      refine ⟨.ref c, rfl, c, G2, r2, rfl, R.a.g, R.a.u, rfl, _, rfl, ?_⟩
      by_cases e : ahead r2 = "}"
      · rw [show decide (V.str (ahead r2) = V.str "}") = true from decide_eq_true (by rw [e])]
        rw [if_pos e] at hU
        refine iteT ⟨_, rfl, c, G2, r2, rfl, R.a.g, R.a.u, hU.seqA R.a fun tk r3 v3 H3 G3 e3 s3 x3 A5 hx3 q3 => ?_⟩
        have k3 : r2.length = r3.length + 1 := take_len e3
        have o5 := R.o.keep R.a.u s3 x3
        refine ⟨.ref od, rfl, .inl ⟨rfl, ents, SqL.of o5.at_⟩, od, ents, .ref t, rfl, rfl, o5.at_, by rw [he]; exact get_last _ _, ?_⟩
        rw [show ents.dropLast = ents' from by rw [he]; exact drop_last _ _]
        refine ⟨.ref od, rfl, .inl ⟨rfl, ents', SqL.of upd_same⟩, _, rfl, _, rfl, ?_⟩
        refine Run.close A5 (R.z.mono (by omega) (tup_but s3 R.a.u) x3.le fun a ha us ow => ow.keep R.a.u s3 x3) o5 (R.w.keep R.a.u s3 x3) (R.s.mono x3.le) R.nd R.new (by omega) (by omega) he q3 fun l zs H4 r' hz h1 h2 hr' nx => ?_
        refine ⟨od, l, ents', zs, rfl, rfl, h1, h2, szL (by omega), r'.length, by omega, ⟨_, _, _, rfl⟩, ?_⟩
        rcases nx with ⟨G', stk', cur', b', br', ents2, ms', vs', n', R'⟩ | ⟨G', cur', vs', R'⟩
        · exact .inl ⟨G', r', stk', cur', b', br', ents2, ms', vs', n', rfl, R'⟩
        · exact .inr ⟨G', r', cur', vs', rfl, R'⟩
      · rw [show decide (V.str (ahead r2) = V.str "}") = false from decide_eq_false fun z => e (V.str.inj z)]
        rw [if_neg e] at hU
        refine iteF ⟨_, rfl, c, G2, r2, rfl, R.a.g, R.a.u, hU.seqA R.a fun st r3 v3 H3 G3 e3 s3 x3 A5 hx3 q3 => ?_⟩
        have k3 : r3.length + 1 ≤ r2.length := pStmt_len e3
        have w5 := R.w.keep R.a.u s3 x3
        refine ⟨_, rfl, .inl ⟨rfl, vs, SqL.of w5.at_⟩, _, rfl, b, vs, v3, rfl, rfl, w5.at_, len2 hlen (by omega), ?_⟩
        have nob := nd_not R.nd b (by simp)
        have o5 := (R.o.keep R.a.u s3 x3).put (o := .lst (vs ++ [v3])) (Ne.symm nob)
        refine ⟨.ref od, rfl, .inl ⟨rfl, ents, SqL.of o5.at_⟩, _, rfl, _, rfl, ?_⟩
        refine Run.opened (O := H2) (n := n) (stk := stk) (cur := cur) (st := st) A5 (R.z.mono (by omega) (tup_but s3 R.a.u) x3.le fun a ha us ow => ow.keep R.a.u s3 x3) (R.o.keep R.a.u s3 x3) w5 (R.s.mono x3.le) R.nd R.new (by omega) (by omega) (by omega) hx3 (pStmt_kw e3) ?_ (fun a ha => R.a.free ha) q3 fun l zs H4 r' hz h1 h2 hr' nx => ?_
        · intro a ha
          rcases List.mem_cons.mp ha with rfl | ha
          · rw [R.o.at_]; exact fun z => nomatch z
          · rcases List.mem_cons.mp ha with rfl | ha
            · rw [R.w.at_]; exact fun z => nomatch z
            · obtain ⟨us, ow⟩ := R.z.own a ha
              rw [ow.at_]; exact fun z => nomatch z
        refine ⟨od, l, ents, zs, rfl, rfl, h1, h2, szL (by omega), r'.length, by omega, ⟨_, _, _, rfl⟩, ?_⟩
        rcases nx with ⟨G', stk', cur', b', br', ents2, ms', vs', n', R'⟩ | ⟨G', cur', vs', R'⟩
        · exact .inl ⟨G', r', stk', cur', b', br', ents2, ms', vs', n', rfl, R'⟩
        · exact .inr ⟨G', r', cur', vs', rfl, R'⟩
    · refine ⟨_, rfl, false, .inl ⟨[], SqL.of R.o.at_, rfl⟩, iteF ?_⟩
      refine ⟨_, rfl, ?_⟩
      exact R.q.retA (R.a.fin R.w R.new) ⟨bd, vs, rfl, upd_same, R.s.mono R.w.le⟩
end
end Fs
-- FsY
set_option Elab.async false
set_option linter.all false
set_option maxRecDepth 100000
set_option maxHeartbeats 8000000
namespace Fs
open PySem PySem.Spec PyProof.Rows L2
theorem pBlk_len : ∀ (n : Nat) (stk : List (Fr × List St)) (cur : List St) (r : Toks) (b : List St) (r' : Toks), pBlk n stk cur r = .ok (b, r') → r'.length ≤ r.length
  | 0, stk, cur, r, b, r', h => by
    unfold pBlk at h
    cases h
  | n + 1, stk, cur, r, b, r', h => by
    unfold pBlk at h
    by_cases e : ahead r = "}"
    · rw [if_pos e] at h
      obtain ⟨⟨_, r1⟩, h1, h⟩ := bind_ok h
      have a1 := take_len h1
      match stk, h with
      | [], h => cases h; dsimp only; omega
      | (.if1 kw l c q, par) :: stk, h =>
        dsimp only at h
        by_cases e2 : ahead r1 = "else"
        · rw [if_pos e2] at h
          obtain ⟨⟨_, r2⟩, h2, h⟩ := bind_ok h
          obtain ⟨⟨_, r3⟩, h3, h⟩ := bind_ok h
          have a2 : r1.length = r2.length + 1 := take_len h2
          have a3 : r2.length = r3.length + 1 := take_len h3
          have := pBlk_len n _ _ _ _ _ h
          dsimp only at this
          omega
        · rw [if_neg e2] at h
          have := pBlk_len n _ _ _ _ _ h
          omega
      | (.if2 kw l c q b1, par) :: stk, h =>
        have := pBlk_len n _ _ _ _ _ h
        dsimp only at this
        omega
      | (.lp kw e, par) :: stk, h =>
        have := pBlk_len n _ _ _ _ _ h
        dsimp only at this
        omega
    · rw [if_neg e] at h
      obtain ⟨⟨s, r1⟩, h1, h⟩ := bind_ok h
      have a1 := pStmt_len h1
      match s, h with
      | .ite kw l c q _ _, h =>
        dsimp only at h
        obtain ⟨⟨_, r2⟩, h2, h⟩ := bind_ok h
        have a2 : r1.length = r2.length + 1 := take_len h2
        have := pBlk_len n _ _ _ _ _ h
        dsimp only at this
        omega
      | .loop kw e _, h =>
        dsimp only at h
        obtain ⟨⟨_, r2⟩, h2, h⟩ := bind_ok h
        have a2 : r1.length = r2.length + 1 := take_len h2
        have := pBlk_len n _ _ _ _ _ h
        dsimp only at this
        omega
      | .asg _ _ _, h =>
        have := pBlk_len n _ _ _ _ _ h
        dsimp only at this
        omega
      | .val _ _, h =>
        have := pBlk_len n _ _ _ _ _ h
        dsimp only at this
        omega
      | .call _ _ _ _ _ _ _, h =>
        have := pBlk_len n _ _ _ _ _ h
        dsimp only at this
        omega
theorem pFn_len {r : Toks} {f : Fn} {r' : Toks} (h : pFn r = .ok (f, r')) : r'.length + 1 ≤ r.length := by
  unfold pFn at h
  obtain ⟨⟨_, r1⟩, h1, h⟩ := bind_ok h
  obtain ⟨⟨_, r2⟩, h2, h⟩ := bind_ok h
  obtain ⟨⟨_, r3⟩, h3, h⟩ := bind_ok h
  obtain ⟨⟨_, r4⟩, h4, h⟩ := bind_ok h
  cases h
  have a1 : r.length = r1.length + 1 := take_len h1
  have a2 : r1.length = r2.length + 1 := take_len h2
  have a3 : r3.length ≤ r2.length := pList_len (fun _ _ _ e => by unfold pPar at e; have := take_len e; omega) h3
  have a4 : r4.length ≤ r3.length := by
    unfold pBlock at h4
    obtain ⟨⟨_, r5⟩, h5, h4⟩ := bind_ok h4
    have b1 : r3.length = r5.length + 1 := take_len h5
    have b2 := pBlk_len _ _ _ _ _ _ h4
    dsimp only at b2
    omega
  dsimp only
  omega
section
variable {P : Program} {w : World} {K : PySem.W.Frag} {mg : Str → Option Value} {base h : Heap}
variable {c l p : Addr} {H0 G0 H G H' G' : Hp} {r r' : Toks} {vs ws : List V} {o : HO}
theorem Post.mono {α : Type} {R : Hp → Hp → V → α → Prop} {Q Q' : VK} {E : XK} {m : Res (α × Toks)} (k : ∀ v H, Q v H → Q' v H) (h : Post K H G c R Q E m) : Post K H G c R Q' E m := by
  cases m with
  | error e => exact h
  | ok p =>
    obtain ⟨y, r⟩ := p
    intro v H' G' a b d e f
    exact k _ _ ((show ∀ v H' G', SameBut c H H' → Ext G G' H → Same G' H' → CurAt K H' G' c r → R H' G' v y → Q v H' from h) v H' G' a b d e f)
theorem me_blk {ta : TA} {E : XK} (m : Mono ta) : MonoE (tCall (spCur K pBlock (BlkR K)) [] E ta) := fun σ H Q Q' k z => m σ H _ _ (fun vs H1 q => by
  obtain ⟨c, G, r, h1, h2, h3, h4⟩ := q
  exact ⟨c, G, r, h1, h2, h3, h4.mono k⟩) z
theorem p_fn (T : Txt K w mg h) : Prom P w K mg base "parse_function" 10 (spCur K pFn (FnR K)) := by
  obtain ⟨fd, F⟩ := f_parse_function T
  refine ⟨_, fd, ["cursor"], g_parse_function T, F.kp, F.bindsN fun _ _ _ _ _ _ us hl => match us, hl with | [_], _ => rfl, ?_⟩
  refine F.ok sc_parse_function (fun vs H Q E h => ?_) (fun cdv A outer s H vs Q E hr h => ?_)
  · obtain ⟨c, G, r, rfl, _⟩ := h
    rfl
  · obtain ⟨c, G, r, rfl, g, u, q⟩ := h
    have hr6 : Room 6 _ := hr.mono (by decide)
    have hr4 : Room 4 _ := hr.mono (by decide)
    have hr2 : Room 2 _ := hr.mono (by decide)
    have nd := sc_parse_function.nd
    refine ⟨_, pss_cons (ps_expr (pe_take T hr4 (passW (takes_of rfl rfl rfl rfl) fun _ _ _ _ z => z) (by decide +kernel) me_var (pv 0))) (pss_cons (ps_set (i := 1) nd rfl (Or.inl rfl) (pe_take T hr4 (passW (takes_of rfl rfl rfl rfl) fun _ _ _ _ z => z) (by decide +kernel) me_var (pv 0)))
      (pss_cons (ps_set (i := 2) nd rfl (Or.inl rfl) (pe_p (p_listP T) hr6 (passW (takes_of rfl rfl rfl rfl) fun _ _ _ _ z => z) (pa_cons (pv 0) (pa_cons (pe_glob (v := .ref _) rfl (g_parse_parameter T) rfl) pa_nil))))
      (pss_one (ps_ret (pe_rec (pr_Function T) hr2 (passW (takes_of rfl rfl rfl rfl) fun _ _ _ _ z => z) (pa_cons (pv 1) (pa_cons (pv 2) (pa_cons (pe_p (p_block T) hr (passW (takes_of rfl rfl rfl rfl) fun _ _ _ _ z => z) (pa_cons (pv 0) pa_nil)) pa_nil))) rfl (mo_cons me_var (mo_cons me_var (mo_cons (me_blk (mo_cons me_var mo_nil)) mo_nil)))))))), ?_⟩
    have A0 : At K c H G H G r := At.refl g u
    unfold pFn at q
    refine ⟨_, rfl, c, G, r, rfl, g, u, q.seqA A0 fun t1 r1 v1 H1 G1 e1 s1 x1 A1 hx1 q1 => ?_⟩
    refine ⟨_, rfl, c, G1, r1, rfl, A1.g, A1.u, q1.seqA A1 fun t2 r2 v2 H2 G2 e2 s2 x2 A2 hx2 q2 => ?_⟩
    refine ⟨_, rfl, c, G2, r2, rfl, A2.g, A2.u, q2.seqA A2 fun t3 r3 v3 H3 G3 e3 s3 x3 A3 hx3 q3 => ?_⟩
    refine ⟨_, rfl, _, rfl, _, rfl, c, G3, r3, rfl, A3.g, A3.u, q3.seqA A3 fun t4 r4 v4 H4 G4 e4 s4 x4 A4 hx4 q4 => ?_⟩
    refine ⟨rfl, fun p dx H9 np sm hp => q4.retA (A4.newR np sm hp) ?_⟩
    have y4 := newG (o := .ins (He.ga K "Function") dx [("name", v2), ("parameters", v3), ("body", v4)]) A4.g np
    have y3 := x4.le.trans y4
    have y2 := x3.le.trans y3
    exact ⟨p, dx, v2, v3, v4, rfl, upd_same, hx2.mono y2, hx3.mono y3 fun _ _ => TokR.mono y3, hx4.mono y4⟩
end
end Fs
-- FsZ
set_option Elab.async false
set_option linter.all false
set_option maxRecDepth 100000
set_option maxHeartbeats 8000000
namespace Fs
open PySem PySem.Spec PyProof.Rows L2
section
variable {P : Program} {w : World} {K : PySem.W.Frag} {mg : Str → Option Value} {base h : Heap}
variable {c l p : Addr} {H0 G0 H G H' G' : Hp} {r r' : Toks} {vs ws : List V} {o : HO}
/-- what a reader of a whole leaves: what was stays -/
def Post0 {α : Type} (K : PySem.W.Frag) (H G : Hp) (R : Hp → V → α → Prop) (Q : VK) (E : XK) (m : Res α) : Prop := match m with
  | .ok x => ∀ v H' G', Same H H' → Ext G G' H → Same G' H' → R G' v x → Q v H'
  | .error e => Err0 K H E e
def spToks (K : PySem.W.Frag) : Sp := fun vs H Q E => ∃ tl G ts us, vs = [.ref tl] ∧ Same G H ∧ G tl = some (.lst us) ∧ Paired (TokR K G) us ts ∧ ts.length ≤ 1000000 ∧ EndOk ts ∧ Post0 K H G (fun G v fs => LstR (FnR K G) G v fs) Q E (pProg ts >>= fun a => .ok a.1)
theorem p_toks (T : Txt K w mg h) : Prom P w K mg base "parse_tokens" 11 (spToks K) := by
  obtain ⟨fd, F⟩ := f_parse_tokens T
  refine ⟨_, fd, ["tokens"], g_parse_tokens T, F.kp, F.bindsN fun _ _ _ _ _ _ us hl => match us, hl with | [_], _ => rfl, ?_⟩
  refine F.ok sc_parse_tokens (fun vs H Q E h => ?_) (fun cdv A outer s H vs Q E hr h => ?_)
  · obtain ⟨tl, G, ts, us, rfl, _⟩ := h
    rfl
  · obtain ⟨tl, G, ts, us, rfl, g, htl, pts, hlen, eo, q⟩ := h
    have hr1 : Room 1 _ := hr.mono (by decide)
    have hr2 : Room 2 _ := hr.mono (by decide)
    have nd := sc_parse_tokens.nd
    refine ⟨_, pss_cons (ps_set (i := 1) nd rfl (Or.inl rfl) (pe_rec (pr_Cursor T) hr2 (passW (takes_of rfl rfl rfl rfl) fun _ _ _ _ z => z) (pa_cons (pv 0) pa_nil) rfl (mo_cons me_var mo_nil)))
      (pss_cons (ps_set (i := 2) nd rfl (Or.inl rfl) (pe_lst (pa_cons (pe_p (p_fn T) hr (passW (takes_of rfl rfl rfl rfl) fun _ _ _ _ z => z) (pa_cons (pv 1) pa_nil)) pa_nil)))
      (pss_cons (ps_while (passes_of rfl) (pt_cmpR op_ne (pe_ahead T hr1 (passW (takes_of rfl rfl rfl rfl) fun _ _ _ _ z => z) me_var (pv 1)) pe_str (nomark _))
        (pss_one (ps_expr (pe_bm PySem.F.plainAttrs_list PySem.F.slot_list_append PySem.F.type_list_append mt_append (pv 2) (pa_cons (pe_p (p_fn T) hr (passW (takes_of rfl rfl rfl rfl) fun _ _ _ _ z => z) (pa_cons (pv 1) pa_nil)) pa_nil)))))
      (pss_one (ps_ret (pv 2))))), ?_⟩
    refine ⟨_, rfl, rfl, fun c dx H1 nc sm hc => ?_⟩
    have u : CurAt K H1 G c ts := ⟨⟨dx, tl, us, [], hc, htl, pts, hlen⟩, Same.free g nc, eo⟩
    have s0 : ∀ H', SameBut c H1 H' → Same H H' := fun H' s b o e => s b o (sm b o e) (ne_of_none e nc)
    have q : Post K H1 G c (fun _ G v fs => LstR (FnR K G) G v fs) Q E (pProg ts) := by
      unfold Post
      cases e : pProg ts with
      | error er =>
        rw [e] at q
        exact fun d H' s h' => q d H' (s0 H' s) h'
      | ok pr =>
        obtain ⟨fs, r⟩ := pr
        rw [e] at q
        exact fun v H' G' s x g' u' y => q v H' G' (s0 H' s) ⟨x.le, fun a o e => x.new a o (sm a o e)⟩ g' y
    have A0 : At K c H1 G H1 G ts := At.refl (g.trans sm) u
    unfold pProg at q
    refine ⟨_, rfl, c, G, ts, rfl, A0.g, u, q.seqA A0 fun f1 r1 v1 H2 G2 e1 s1 x1 A1 hx1 q1 => ?_⟩
    refine ⟨by show 1 ≤ sizeLine; decide, fun l hl => ?_⟩
    have w1 : Own (upd H2 l (.lst [v1])) G2 l [v1] := Own.new A1.g hl
    have A2 := A1.new (o := .lst [v1]) hl
    have zl : H1 l = none := A1.free hl
    have k1 := pFn_len e1
    refine ⟨fun m σ H' => ∃ G' r' fs vs, m = r'.length ∧ σ = [some (.ref tl), some (.ref c), some (.ref l)] ∧ At K c H1 G H' G' r' ∧ Own H' G' l vs ∧ Paired (FnR K G') vs fs ∧ fs.length + r'.length ≤ ts.length ∧
      ∃ n, r'.length ≤ n ∧ Post K H1 G c (fun _ G v fs => LstR (FnR K G) G v fs) Q E (pFns n fs r'), ⟨r1.length, G2, r1, [f1], [v1], rfl, rfl, A2, w1, .cons hx1 .nil, by show 1 + _ ≤ _; omega, ts.length, by omega, q1⟩, ?_⟩
    rintro m σ H' ⟨G', r', fs, vs, rfl, rfl, A', o1, pF, b1, n, hn, q'⟩
    obtain ⟨t, rs, rfl⟩ := A'.u.eo.ne
    obtain ⟨n, rfl⟩ : ∃ k, n = k + 1 := ⟨n - 1, by simp at hn; omega⟩
    refine ⟨_, rfl, c, G', _, rfl, A'.g, A'.u, rfl, _, rfl, ?_⟩
    unfold pFns at q'
    by_cases e : ahead (t :: rs) = "end"
    · rw [if_neg (fun z => z e)] at q'
      rw [e]
      refine iteF ?_
      refine ⟨_, rfl, ?_⟩
      exact q'.retA (A'.fin o1 zl) ⟨l, vs, rfl, upd_same, pmono (fun _ _ => FnR.mono o1.le) pF⟩
    · rw [if_pos e] at q'
      rw [show (!decide (V.str (ahead (t :: rs)) = V.str "end")) = true from by rw [show decide (V.str (ahead (t :: rs)) = V.str "end") = false from decide_eq_false fun z => e (V.str.inj z)]; rfl]
      refine iteT ⟨_, fun _ _ z => z, ?_⟩
      refine ⟨_, rfl, .inl ⟨rfl, _, SqL.of o1.at_⟩, _, rfl, c, G', _, rfl, A'.g, A'.u, q'.seqA A' fun f r2 v2 H3 G3 e2 s2 x2 A3 hx2 q2 => ?_⟩
      have k2 := pFn_len e2
      have o2 := o1.keep A'.u s2 x2
      have pl := Paired.length pF
      refine ⟨l, vs, v2, rfl, rfl, o2.at_, len2 hlen (by omega), r2.length, by omega, G3, r2, fs ++ [f], vs ++ [v2], rfl, rfl, A3.put o2 zl, o2.set, paired_snoc (pmono (fun _ _ => FnR.mono x2.le) pF) hx2, by rw [List.length_append]; show fs.length + 1 + _ ≤ _; omega, n, by omega, q2⟩
end
end Fs
-- FsL1
set_option Elab.async false
set_option linter.all false
set_option maxRecDepth 100000
set_option maxHeartbeats 8000000
namespace Fs
open PySem PySem.Spec PyProof.Rows L2
/-! ## tokens -/
theorem in_run {z : Str} {lo n : Nat} (h : z.cps.toList = List.range' lo n) (c : Nat) : decide (c ∈ z.cps.toList) = (Nat.ble lo c && Nat.ble c (lo + n - 1) && decide (0 < n)) := by
  rw [h]
  by_cases hm : c ∈ List.range' lo n
  · rw [decide_eq_true hm]
    have := List.mem_range'_1.mp hm
    rw [Nat.ble_eq_true_of_le this.1, Nat.ble_eq_true_of_le (by omega), decide_eq_true (by omega)]
    rfl
  · rw [decide_eq_false hm]
    symm
    rw [Bool.eq_false_iff]
    intro e
    simp only [Bool.and_eq_true, Nat.ble_eq, decide_eq_true_eq] at e
    exact hm (List.mem_range'_1.mpr ⟨e.1.1, by omega⟩)
theorem in_let (c : Nat) : decide (c ∈ ("abcdefghijklmnopqrstuvwxyz" : Str).cps.toList) = isL c := by
  rw [in_run (lo := 97) (n := 26) (by decide +kernel)]
  simp [isL]
theorem in_dig (c : Nat) : decide (c ∈ ("0123456789" : Str).cps.toList) = isD c := by
  rw [in_run (lo := 48) (n := 10) (by decide +kernel)]
  simp [isD]
theorem in_cel (c : Nat) : decide (c ∈ ("ABCDEFGH" : Str).cps.toList) = isC c := by
  rw [in_run (lo := 65) (n := 8) (by decide +kernel)]
  simp [isC]
/-- what find_end hands out -/
def WordOk (w : List Nat) : Prop := w ≠ [] ∧ (w.all isL = true ∨ w.all isD = true ∨ w.length = 1)
theorem str_eq {a b : Str} (h : a.cps.toList = b.cps.toList) : a = b := TL.ext_tl h
theorem str_one {z : Str} {c : Nat} (h : z.cps.toList = [c]) : z = ⟨#[c]⟩ := str_eq h
theorem found_sub {x y : Str} (h : (!(Builtin.Str.occurrences x y 0 x.length 1).isEmpty) = true) : ∀ c ∈ y.cps.toList, c ∈ x.cps.toList := by
  obtain ⟨i, h1, h2⟩ := (PySem.StrLaws.found_iff x y).mp h
  rw [PySem.StrLaws.subAt_eq] at h2
  have e : (x.cps.toList.drop i).take y.length = y.cps.toList := by simpa using h2
  intro c hc
  rw [← e] at hc
  exact List.mem_of_mem_drop (List.mem_of_mem_take hc)
theorem found_word {x z : Str} (wo : WordOk z.cps.toList) (hL : ∀ c ∈ x.cps.toList, isL c = false) (hD : ∀ c ∈ x.cps.toList, isD c = false) : (!(Builtin.Str.occurrences x z 0 x.length 1).isEmpty) = (match z.cps.toList with | [c] => decide (c ∈ x.cps.toList) | _ => false) := by
  obtain ⟨ne, wo⟩ := wo
  cases e : z.cps.toList with
  | nil => exact (ne e).elim
  | cons c l =>
    cases l with
    | nil =>
      rw [str_one e]
      exact PySem.StrLaws.found_one x c
    | cons d l =>
      show _ = false
      rw [Bool.eq_false_iff]
      intro h
      have s := found_sub h c (by rw [e]; simp)
      rw [e] at wo
      rcases wo with wo | wo | wo
      · simp at wo
        rw [hL c s] at wo
        exact nomatch wo.1
      · simp at wo
        rw [hD c s] at wo
        exact nomatch wo.1
      · simp at wo
theorem all_of {l : List Nat} {p : Nat → Bool} (h : l.all (fun c => !p c) = true) : ∀ c ∈ l, p c = false := fun c hc => by
  have := List.all_eq_true.mp h c hc
  simpa using this
theorem in_signs {z : Str} (wo : WordOk z.cps.toList) : (!(Builtin.Str.occurrences "(){}=;,/<>+-*" z 0 ("(){}=;,/<>+-*" : Str).length 1).isEmpty) = isSign z.cps.toList := by
  rw [found_word wo (all_of (by decide +kernel)) (all_of (by decide +kernel))]
  have e : ("(){}=;,/<>+-*" : Str).cps.toList = signs := by decide +kernel
  rw [e]
  cases z.cps.toList with
  | nil => rfl
  | cons c l =>
    cases l with
    | nil => show decide (c ∈ signs) = signs.contains c; rw [List.contains_eq_mem]
    | cons d l => rfl
theorem in_cells {z : Str} (wo : WordOk z.cps.toList) : (!(Builtin.Str.occurrences "ABCDEFGH" z 0 ("ABCDEFGH" : Str).length 1).isEmpty) = isCell z.cps.toList := by
  rw [found_word wo (all_of (by decide +kernel)) (all_of (by decide +kernel))]
  cases z.cps.toList with
  | nil => rfl
  | cons c l =>
    cases l with
    | nil => exact in_cel c
    | cons d l => rfl
end Fs
-- FsL2
set_option Elab.async false
set_option linter.all false
set_option maxRecDepth 100000
set_option maxHeartbeats 8000000
namespace Fs
open PySem PySem.Spec PyProof.Rows L2
section
variable {P : Program} {w : World} {K : PySem.W.Frag} {mg : Str → Option Value} {base h : Heap}
variable {H G H' G' : Hp}
theorem z_len (z : Str) : z.cps.toList.length = z.length := by simp [Str.length]
theorem atI_head {l : List Nat} (h : l ≠ []) : ∃ c r, l = c :: r ∧ atI l 0 = some c := by
  cases l with
  | nil => exact (h rfl).elim
  | cons c r => exact ⟨c, r, rfl, atI_nat (j := 0) rfl⟩
def spNum : Sp := fun vs H Q _ => ∃ z : Str, vs = [.str z] ∧ z.cps.toList ≠ [] ∧ z.length ≤ 1000000 ∧ Q (.bl (mNum z.cps.toList)) H
theorem p_num (T : Txt K w mg h) : Prom P w K mg base "is_number" 1 spNum := by
  obtain ⟨fd, F⟩ := f_is_number T
  refine ⟨_, fd, ["digits"], g_is_number T, F.kp, F.bindsN fun _ _ _ _ _ _ us hl => match us, hl with | [_], _ => rfl, ?_⟩
  refine F.ok sc_is_number (fun vs H Q E h => ?_) (fun cdv A outer s H vs Q E hr h => ?_)
  · obtain ⟨z, rfl, _⟩ := h
    rfl
  · obtain ⟨z, rfl, ne, hl, q⟩ := h
    obtain ⟨t1, g1⟩ := v_LONGEST_NUMBER T
    refine ⟨_, pss_cons (ps_if (pt_cmpR op_gt (pe_callB call_len_str (by rfl) (b_len T) boot_len (pa_cons (pv 0) pa_nil)) (pe_glob (v := .int 6) rfl g1 ⟨_, rfl⟩) (nomark _)) (pss_one (ps_ret pe_bl)) pss_nil)
      (pss_one (ps_ret (pe_or (pe_cmpR op_eq (pv 0) pe_str (nomark _)) (pe_one (pe_cmpR op_ne (pe_ix ix_str (pv 0) pe_int (fun _ _ => rfl)) pe_str (nomark _)))))), ?_⟩
    obtain ⟨c, r, e, ha⟩ := atI_head ne
    refine ⟨_, rfl, z, rfl, szL (by omega), _, _, rfl, rfl, _, rfl, ?_⟩
    have e1 : decide ((6 : Int) < (z.length : Int)) = decide (6 < z.cps.toList.length) := by rw [z_len]; exact decide_eq_decide.mpr (by omega)
    rw [e1]
    unfold mNum at q
    by_cases h6 : 6 < z.cps.toList.length
    · rw [if_pos h6] at q
      rw [decide_eq_true h6]
      exact iteT q
    · rw [if_neg h6] at q
      rw [decide_eq_false h6]
      refine iteF ⟨_, rfl, rfl, _, rfl, ?_⟩
      by_cases h0 : z.cps.toList = [48]
      · rw [show decide (V.str z = V.str "0") = true from decide_eq_true (congrArg V.str (str_eq (h0.trans (by decide +kernel))))]
        rw [decide_eq_true h0, Bool.true_or] at q
        exact iteT q
      · rw [show decide (V.str z = V.str "0") = false from decide_eq_false fun x => h0 (by rw [V.str.inj x]; decide +kernel)]
        rw [decide_eq_false h0, Bool.false_or, e] at q
        refine iteF ⟨_, rfl, z, 0, c, rfl, rfl, szL (by omega), ha, rfl, ?_⟩
        have e2 : decide (V.str (⟨#[c]⟩ : Str) = V.str "0") = decide ((c :: r).head? = some 48) := by
          refine decide_eq_decide.mpr ⟨fun x => ?_, fun x => ?_⟩
          · have y := congrArg (fun s : Str => s.cps.toList) (V.str.inj x)
            have y2 : [c] = [48] := y.trans (by decide +kernel)
            cases y2; rfl
          · cases x; exact congrArg V.str (str_eq (by decide +kernel))
        rw [e2]
        exact q
end
end Fs
-- FsL3
set_option Elab.async false
set_option linter.all false
set_option maxRecDepth 100000
set_option maxHeartbeats 8000000
namespace Fs
open PySem PySem.Spec PyProof.Rows L2
section
variable {P : Program} {w : World} {K : PySem.W.Frag} {mg : Str → Option Value} {base h : Heap}
variable {H G H' G' : Hp}
def kindV (k : Option Str) : V := match k with
  | some k => .str k
  | none => .non
def spKind : Sp := fun vs H Q _ => ∃ z : Str, vs = [.str z] ∧ WordOk z.cps.toList ∧ z.length ≤ 1000000 ∧ Q (kindV (mKind z.cps.toList)) H
theorem p_kind (T : Txt K w mg h) : Prom P w K mg base "find_kind" 2 spKind := by
  obtain ⟨fd, F⟩ := f_find_kind T
  refine ⟨_, fd, ["word"], g_find_kind T, F.kp, F.bindsN fun _ _ _ _ _ _ us hl => match us, hl with | [_], _ => rfl, ?_⟩
  refine F.ok sc_find_kind (fun vs H Q E h => ?_) (fun cdv A outer s H vs Q E hr h => ?_)
  · obtain ⟨z, rfl, _⟩ := h
    rfl
  · obtain ⟨z, rfl, wo, hl, q⟩ := h
    obtain ⟨t1, g1⟩ := v_SIGNS T
    obtain ⟨t2, g2⟩ := v_CELLS T
    obtain ⟨t3, g3⟩ := v_LETTERS T
    obtain ⟨t4, g4⟩ := v_LONGEST_WORD T
    obtain ⟨t5, g5⟩ := v_DIGITS T
    refine ⟨_, pss_cons (ps_if (PW.pt (pw_or (pt_cmpR op_in_seq (pv 0) (pe_glob (v := .ref _) rfl (v_KEYWORDS T) rfl) (by rfl)) (pw_or1 (pt_cmpR op_in_str (pv 0) (pe_glob (v := .str "(){}=;,/<>+-*") rfl g1 ⟨_, rfl⟩) (by rfl))))) (pss_one (ps_ret (pv 0))) pss_nil)
      (pss_cons (ps_if (pt_cmpR op_in_str (pv 0) (pe_glob (v := .str "ABCDEFGH") rfl g2 ⟨_, rfl⟩) (by rfl)) (pss_one (ps_ret pe_str)) pss_nil)
      (C8.pss_cut (ps_if (PW.pt (pw_and (pt_cmpR op_in_sign (pe_ix ix_str (pv 0) pe_int (fun _ _ => rfl)) (pe_glob (v := .str "abcdefghijklmnopqrstuvwxyz") rfl g3 ⟨_, rfl⟩) (by rfl)) (pw_and1 (pt_cmpR op_le (pe_callB call_len_str (by rfl) (b_len T) boot_len (pa_cons (pv 0) pa_nil)) (pe_glob (v := .int 8) rfl g4 ⟨_, rfl⟩) (nomark _))))) (pss_one (ps_ret pe_str)) pss_nil)
      (pss_cons (ps_if (PW.pt (pw_and (pt_cmpR op_in_sign (pe_ix ix_str (pv 0) pe_int (fun _ _ => rfl)) (pe_glob (v := .str "0123456789") rfl g5 ⟨_, rfl⟩) (by rfl)) (pw_and1 (pt_truth (pe_p (p_num T) hr (passW (takes_of rfl rfl rfl rfl) fun _ _ _ _ z => z) (pa_cons (pv 0) pa_nil)) (by intro _; rfl))))) (pss_one (ps_ret pe_str)) pss_nil)
      (pss_one (ps_ret pe_non))))), ?_⟩
    obtain ⟨c, r, e, ha⟩ := atI_head wo.1
    unfold mKind at q
    rw [show mkS z.cps.toList = z from TL.mk_tl z] at q
    refine ⟨_, rfl, _, _, rfl, .inr (t_KEYWORDS T H), rfl, flat_strs kws, _, rfl, ?_⟩
    rw [show inV (.str z) [V.str "def", V.str "set", V.str "put", V.str "emit", V.str "return", V.str "if", V.str "else", V.str "loop", V.str "call", V.str "share"] = kws.contains z from inV_strs _ kws]
    cases hk : kws.contains z with
    | true =>
      rw [hk, Bool.true_or, if_pos rfl] at q
      exact iteT (iteT ⟨_, rfl, q⟩)
    | false =>
      rw [hk, Bool.false_or] at q
      refine iteF ⟨_, rfl, _, _, rfl, rfl, _, rfl, ?_⟩
      rw [in_signs wo]
      cases hs : isSign z.cps.toList with
      | true =>
        rw [hs, if_pos rfl] at q
        exact iteT ⟨_, rfl, q⟩
      | false =>
        rw [hs, if_neg (by decide)] at q
        refine iteF ⟨_, rfl, _, _, rfl, rfl, _, rfl, ?_⟩
        rw [in_cells wo]
        cases hc : isCell z.cps.toList with
        | true =>
          rw [hc, if_pos rfl] at q
          exact iteT q
        | false =>
          rw [hc, if_neg (by decide)] at q
          have n8 : decide ((z.length : Int) ≤ 8) = Nat.ble z.cps.toList.length 8 := by
            rw [z_len, Bool.eq_iff_iff]
            simp only [decide_eq_true_eq, Nat.ble_eq]
            omega
          have h1 : z.cps.toList.head?.any isL = isL c := by rw [e]; rfl
          have h2 : z.cps.toList.head?.any isD = isD c := by rw [e]; rfl
          rw [h1, h2] at q
          refine iteF ⟨fun σ' H' => σ' = [some (.str z)] ∧ H' = H ∧ Q (kindV (if (isD c && mNum z.cps.toList) = true then some "number" else none)) H, ?_, ?_⟩
          · refine ⟨_, rfl, z, 0, c, rfl, rfl, szL (by omega), ha, c, _, rfl, rfl, _, rfl, ?_⟩
            rw [in_let]
            cases hl1 : isL c with
            | false =>
              rw [hl1, Bool.false_and, if_neg (by decide)] at q
              exact iteF ⟨rfl, rfl, q⟩
            | true =>
              rw [hl1, Bool.true_and] at q
              refine iteT ⟨_, rfl, z, rfl, szL (by omega), _, _, rfl, rfl, _, rfl, ?_⟩
              rw [n8]
              cases h8 : Nat.ble z.cps.toList.length 8 with
              | true =>
                rw [h8, if_pos rfl] at q
                exact iteT q
              | false =>
                rw [h8, if_neg (by decide)] at q
                exact iteF ⟨rfl, rfl, q⟩
          · rintro σ' H' ⟨rfl, rfl, q⟩
            refine ⟨_, rfl, z, 0, c, rfl, rfl, szL (by omega), ha, c, _, rfl, rfl, _, rfl, ?_⟩
            rw [in_dig]
            cases hd : isD c with
            | false =>
              rw [hd, Bool.false_and, if_neg (by decide)] at q
              exact iteF q
            | true =>
              rw [hd, Bool.true_and] at q
              refine iteT ⟨_, rfl, z, rfl, wo.1, hl, mNum z.cps.toList, rfl, ?_⟩
              cases hn : mNum z.cps.toList with
              | true =>
                rw [hn, if_pos rfl] at q
                exact iteT q
              | false =>
                rw [hn, if_neg (by decide)] at q
                exact iteF q
end
end Fs
-- FsL4
set_option Elab.async false
set_option linter.all false
set_option maxRecDepth 100000
set_option maxHeartbeats 8000000
namespace Fs
open PySem PySem.Spec PyProof.Rows L2
theorem tw_step {f : Nat → Bool} : ∀ {s : List Nat} {k : Nat}, k ≤ (s.takeWhile f).length → (∃ c, s[k]? = some c ∧ f c = true ∧ k + 1 ≤ (s.takeWhile f).length) ∨ (k = (s.takeWhile f).length ∧ (s[k]? = none ∨ ∃ c, s[k]? = some c ∧ f c = false))
  | [], 0, _ => .inr ⟨rfl, .inl rfl⟩
  | [], k + 1, h => by simp at h
  | a :: s, 0, h => by
    cases e : f a with
    | true => exact .inl ⟨a, rfl, e, by simp [List.takeWhile, e]⟩
    | false => exact .inr ⟨by simp [List.takeWhile, e], .inr ⟨a, rfl, e⟩⟩
  | a :: s, k + 1, h => by
    cases e : f a with
    | false => simp [List.takeWhile, e] at h
    | true =>
      have h' : k ≤ (s.takeWhile f).length := by simp [List.takeWhile, e] at h; exact h
      have l : ((a :: s).takeWhile f).length = (s.takeWhile f).length + 1 := by simp [List.takeWhile, e]
      rcases tw_step h' with ⟨c, h1, h2, h3⟩ | ⟨h1, h2⟩
      · exact .inl ⟨c, h1, h2, by omega⟩
      · exact .inr ⟨by omega, h2⟩
theorem mEnd_eq (a : Nat) (s : List Nat) : mEnd (a :: s) = if isL a then (s.takeWhile isL).length + 1 else if isD a then (s.takeWhile isD).length + 1 else 1 := rfl
theorem tw_le {f : Nat → Bool} (s : List Nat) : (s.takeWhile f).length ≤ s.length := by
  induction s with
  | nil => exact Nat.le_refl _
  | cons a s ih =>
    simp only [List.takeWhile]
    split
    · simp; exact ih
    · simp
section
variable {P : Program} {w : World} {K : PySem.W.Frag} {mg : Str → Option Value} {base h : Heap}
variable {H G H' G' : Hp}
theorem at_pre {l p t : List Nat} {n k : Nat} {c : Nat} {i : Int} (h : l = p ++ t) (hp : p.length = n) (e : t[k]? = some c) (hi : i = ((n + k : Nat) : Int)) : atI l i = some c := by
  subst hi
  refine atI_nat (j := n + k) ?_
  rw [h, List.getElem?_append_right (by omega), show n + k - p.length = k by omega]
  exact e
def spEnd : Sp := fun vs H Q _ => ∃ (z : Str) (p t : List Nat) (n : Nat), vs = [.str z, .int (n : Int)] ∧ z.cps.toList = p ++ t ∧ p.length = n ∧ t ≠ [] ∧ z.length ≤ 1000000 ∧ ∀ H', Same H H' → Q (.int ((n + mEnd t : Nat) : Int)) H'
theorem p_end (T : Txt K w mg h) : Prom P w K mg base "find_end" 1 spEnd := by
  obtain ⟨fd, F⟩ := f_find_end T
  refine ⟨_, fd, ["text", "start"], g_find_end T, F.kp, F.bindsN fun _ _ _ _ _ _ us hl => match us, hl with | [_, _], _ => rfl, ?_⟩
  refine F.ok sc_find_end (fun vs H Q E h => ?_) (fun cdv A outer s H vs Q E hr h => ?_)
  · obtain ⟨z, p, t, n, rfl, _⟩ := h
    rfl
  · obtain ⟨z, p, t, n, rfl, hz, hp, ne, hl, q⟩ := h
    obtain ⟨t3, g3⟩ := v_LETTERS T
    obtain ⟨t5, g5⟩ := v_DIGITS T
    have nd := sc_find_end.nd
    refine ⟨_, pss_cons (ps_for (passes_of rfl) rfl (pi_tup (pe_tup (pa_cons (pe_glob (v := .str "abcdefghijklmnopqrstuvwxyz") rfl g3 ⟨_, rfl⟩) (pa_cons (pe_glob (v := .str "0123456789") rfl g5 ⟨_, rfl⟩) pa_nil)))) (pg_name (i := 2) nd rfl (.inl rfl))
        (pss_one (ps_if (pt_cmpR op_in_sign (pe_ix ix_str (pv 0) (pv 1) (fun _ _ => rfl)) (pv 2) (by rfl))
          (pss_cons (ps_set (i := 3) nd rfl (.inl rfl) (pe_op op_add (pv 1) pe_int))
          (pss_cons (ps_while (passes_of rfl) (PW.pt (pw_and (pt_cmpR op_lt (pv 3) (pe_callB call_len_str (by rfl) (b_len T) boot_len (pa_cons (pv 0) pa_nil)) (nomark _)) (pw_and1 (pt_cmpR op_in_sign (pe_ix ix_str (pv 0) (pv 3) (fun _ _ => rfl)) (pv 2) (by rfl)))))
            (pss_one (ps_aug (i := 3) nd rfl (.inl rfl) pe_int ip_add)))
          (pss_one (ps_ret (pv 3))))) pss_nil)))
      (pss_one (ps_ret (pe_op op_add (pv 1) pe_int))), ?_⟩
    obtain ⟨a, s, rfl⟩ : ∃ a s, t = a :: s := by
      cases t with
      | nil => exact (ne rfl).elim
      | cons a s => exact ⟨a, s, rfl⟩
    have hzl : z.length = n + s.length + 1 := by rw [← z_len, hz, List.length_append, hp]; rfl
    refine ⟨by show 2 ≤ sizeLine; decide, fun tp htp => ?_⟩
    have sm : Same H (upd H tp (.tup [.str "abcdefghijklmnopqrstuvwxyz", .str "0123456789"])) := same_upd htp
    refine ⟨tp, rfl, ⟨_, SqT.of upd_same⟩, ?_⟩
    refine for_tup (xs := [.str "abcdefghijklmnopqrstuvwxyz", .str "0123456789"]) (fun i σ H' => H' = upd H tp (.tup [.str "abcdefghijklmnopqrstuvwxyz", .str "0123456789"]) ∧ (∃ x, σ = [some (.str z), some (.int (n : Int)), x, none]) ∧ (1 ≤ i → isL a = false) ∧ (2 ≤ i → isD a = false)) ⟨rfl, ⟨none, rfl⟩, fun h => by omega, fun h => by omega⟩ ?_ ?_ ?_
    · rintro i σ H' _ ⟨rfl, _⟩
      exact SqT.of upd_same
    · rintro i x σ H' hx ⟨rfl, ⟨y, rfl⟩, h1, h2⟩
      have key : ∃ (f : Nat → Bool) (zs : Str), x = .str zs ∧ (∀ c, decide (c ∈ zs.cps.toList) = f c) ∧ (f a = true → mEnd (a :: s) = (s.takeWhile f).length + 1) ∧ (f a = false → (1 ≤ i + 1 → isL a = false) ∧ (2 ≤ i + 1 → isD a = false)) := by
        match i, hx, h1 with
        | 0, hx, h1 =>
          refine ⟨isL, "abcdefghijklmnopqrstuvwxyz", (Option.some.inj hx).symm, in_let, fun e => ?_, fun e => ⟨fun _ => e, fun h => by omega⟩⟩
          rw [mEnd_eq]
          rw [if_pos e]
        | 1, hx, h1 =>
          refine ⟨isD, "0123456789", (Option.some.inj hx).symm, in_dig, fun e => ?_, fun e => ⟨fun _ => h1 (by decide), fun _ => e⟩⟩
          rw [mEnd_eq]
          rw [h1 (by decide), if_neg (by decide), if_pos e]
        | i + 2, hx, _ => exact nomatch hx
      obtain ⟨f, zs, rfl, hf, hm, hn⟩ := key
      have ha : atI z.cps.toList (n : Int) = some a := at_pre (k := 0) (t := a :: s) hz hp rfl rfl
      refine ⟨_, rfl, _, rfl, z, _, a, rfl, rfl, szL (by omega), ha, _, rfl, a, zs, rfl, rfl, _, rfl, ?_⟩
      rw [hf]
      cases e : f a with
      | false =>
        exact iteF ⟨rfl, ⟨_, rfl⟩, (hn e).1, (hn e).2⟩
      | true =>
        refine iteT ⟨_, rfl, _, _, rfl, rfl, ?_⟩
        refine ⟨fun m σ H' => ∃ k, m = s.length - k ∧ k ≤ (s.takeWhile f).length ∧ H' = upd H tp (.tup [.str "abcdefghijklmnopqrstuvwxyz", .str "0123456789"]) ∧ σ = [some (.str z), some (.int (n : Int)), some (.str zs), some (.int ((n + 1 + k : Nat) : Int))], ⟨s.length - 0, 0, rfl, Nat.zero_le _, rfl, rfl⟩, ?_⟩
        rintro m σ H' ⟨k, rfl, hk, rfl, rfl⟩
        have tl := tw_le (f := f) s
        refine ⟨_, rfl, _, rfl, z, rfl, szL (by omega), _, _, rfl, rfl, _, rfl, ?_⟩
        have fin : k = (s.takeWhile f).length → Q (.int ((n + 1 + k : Nat) : Int)) (upd H tp (.tup [.str "abcdefghijklmnopqrstuvwxyz", .str "0123456789"])) := fun hk => by
          have qq := q _ sm
          rw [hm e, show n + ((s.takeWhile f).length + 1) = n + 1 + k by omega] at qq
          exact qq
        rcases tw_step hk with ⟨c, h1, h2, h3⟩ | ⟨h1, h2⟩
        · have hks : k < s.length := by omega
          rw [show decide (((n + 1 + k : Nat) : Int) < (z.length : Int)) = true from decide_eq_true (by omega)]
          refine iteT ⟨_, rfl, _, rfl, z, _, c, rfl, rfl, szL (by omega), at_pre (k := k + 1) (t := a :: s) hz hp h1 (by omega), _, rfl, c, zs, rfl, rfl, _, rfl, ?_⟩
          rw [hf, h2]
          refine iteT ⟨_, fun _ _ z => z, ?_⟩
          refine ⟨_, rfl, _, _, rfl, rfl, s.length - (k + 1), by omega, k + 1, rfl, h3, rfl, rfl⟩
        · rcases h2 with h2 | ⟨c, h2, h3⟩
          · have hks : s.length ≤ k := by simpa using h2
            rw [show decide (((n + 1 + k : Nat) : Int) < (z.length : Int)) = false from decide_eq_false (by omega)]
            exact iteF (iteF ⟨_, rfl, fin h1⟩)
          · have hks : k < s.length := (List.getElem?_eq_some_iff.mp h2).1
            rw [show decide (((n + 1 + k : Nat) : Int) < (z.length : Int)) = true from decide_eq_true (by omega)]
            refine iteT ⟨_, rfl, _, rfl, z, _, c, rfl, rfl, szL (by omega), at_pre (k := k + 1) (t := a :: s) hz hp h2 (by omega), _, rfl, c, zs, rfl, rfl, _, rfl, ?_⟩
            rw [hf, h3]
            exact iteF ⟨_, rfl, fin h1⟩
    · rintro σ H' ⟨rfl, ⟨y, rfl⟩, h1, h2⟩
      have e1 := h1 (by decide)
      have e2 := h2 (by decide)
      refine ⟨_, rfl, _, _, rfl, rfl, ?_⟩
      have qq := q _ sm
      rw [mEnd_eq] at qq
      rw [e1, e2] at qq
      exact qq
end
end Fs
-- FsL5
set_option Elab.async false
set_option linter.all false
set_option maxRecDepth 100000
set_option maxHeartbeats 8000000
namespace Fs
open PySem PySem.Spec PyProof.Rows L2
theorem tw_all {f : Nat → Bool} (s : List Nat) : (s.takeWhile f).all f = true := by
  induction s with
  | nil => rfl
  | cons a s ih =>
    simp only [List.takeWhile]
    split
    · rename_i e
      simp only [List.all_cons, e, ih, Bool.and_self]
    · rfl
theorem tw_take {f : Nat → Bool} (s : List Nat) : s.take (s.takeWhile f).length = s.takeWhile f := by
  induction s with
  | nil => rfl
  | cons a s ih =>
    simp only [List.takeWhile]
    split
    · simp only [List.length_cons, List.take_succ_cons, ih]
    · rfl
theorem mEnd_le (a : Nat) (s : List Nat) : mEnd (a :: s) ≤ s.length + 1 ∧ 1 ≤ mEnd (a :: s) := by
  rw [mEnd_eq]
  have h1 := tw_le (f := isL) s
  have h2 := tw_le (f := isD) s
  split
  · omega
  · split <;> omega
theorem word_ok (a : Nat) (s : List Nat) : WordOk ((a :: s).take (mEnd (a :: s))) := by
  rw [mEnd_eq]
  cases e : isL a with
  | true =>
    rw [if_pos rfl, List.take_succ_cons, tw_take]
    exact ⟨List.cons_ne_nil _ _, .inl (by simp only [List.all_cons, e, tw_all, Bool.and_self])⟩
  | false =>
    rw [if_neg (by decide)]
    cases d : isD a with
    | true =>
      rw [if_pos rfl, List.take_succ_cons, tw_take]
      exact ⟨List.cons_ne_nil _ _, .inr (.inl (by simp only [List.all_cons, d, tw_all, Bool.and_self]))⟩
    | false =>
      rw [if_neg (by decide)]
      exact ⟨List.cons_ne_nil _ _, .inr (.inr rfl)⟩
theorem cut_word {z : Str} {p t : List Nat} {n k : Nat} (hz : z.cps.toList = p ++ t) (hp : p.length = n) (hk : k ≤ t.length) : cutS z (some (n : Int)) (some ((n + k : Nat) : Int)) = mkS (t.take k) := by
  have hl : z.length = n + t.length := by rw [← z_len, hz, List.length_append, hp]
  unfold cutS
  rw [HT.sIx_nat, HT.sIx_nat, Nat.min_eq_left (by omega), Nat.min_eq_left (by omega), hz, List.drop_append_of_le_length (by omega), show n + k - n = k by omega, List.drop_of_length_le (by omega), List.nil_append]
theorem mkS_tl (l : List Nat) : (mkS l).cps.toList = l := rfl
section
variable {P : Program} {w : World} {K : PySem.W.Frag} {mg : Str → Option Value} {base h : Heap}
variable {H G H' G' : Hp}
def tokF (t : Tok) : List (Str × V) := [("kind", .str t.kind), ("text", .str t.text), ("line", .int t.line), ("column", .int t.col)]
def spTok (K : PySem.W.Frag) : Sp := fun vs H Q E => ∃ (z : Str) (p t : List Nat) (i n : Nat), vs = [.str z, .int (i : Int), .int (n : Int)] ∧ z.cps.toList = p ++ t ∧ p.length = n ∧ t ≠ [] ∧ z.length ≤ 1000000 ∧ i ≤ 1000000 ∧
  match mKind (t.take (mEnd t)) with
  | none => Err0 K H E (.syn i n)
  | some k => ∀ a dx H', Same H H' → H a = none → H' a = some (.ins (He.ga K "Token") dx (tokF ⟨k, mkS (t.take (mEnd t)), i, n⟩)) → Q (.ref a) H'
theorem p_tok (T : Txt K w mg h) : Prom P w K mg base "read_token" 3 (spTok K) := by
  obtain ⟨fd, F⟩ := f_read_token T
  refine ⟨_, fd, ["text", "line", "column"], g_read_token T, F.kp, F.bindsN fun _ _ _ _ _ _ us hl => match us, hl with | [_, _, _], _ => rfl, ?_⟩
  refine F.ok sc_read_token (fun vs H Q E h => ?_) (fun cdv A outer s H vs Q E hr h => ?_)
  · obtain ⟨z, p, t, i, n, rfl, _⟩ := h
    rfl
  · obtain ⟨z, p, t, i, n, rfl, hz, hp, ne, hl, hi, q⟩ := h
    have nd := sc_read_token.nd
    have hr1 : Room 1 _ := hr.mono (by decide)
    refine ⟨_, pss_cons (ps_set (i := 3) nd rfl (.inl rfl) (pe_slice sl_str (pv 0) (po_some (pv 2)) (po_some (pe_p (p_end T) hr1 (passW (takes_of rfl rfl rfl rfl) fun _ _ _ _ z => z) (pa_cons (pv 0) (pa_cons (pv 2) pa_nil))))))
      (pss_cons (ps_set (i := 4) nd rfl (.inl rfl) (pe_p (p_kind T) hr (passW (takes_of rfl rfl rfl rfl) fun _ _ _ _ z => z) (pa_cons (pv 3) pa_nil)))
      (pss_cons (ps_if (pt_cmpR op_isN (pv 4) pe_non (nomark _)) (pss_one (ps_raise rfl (takes_of rfl rfl rfl rfl) (pmk_syn T hr (passW (takes_of rfl rfl rfl rfl) fun _ _ _ _ z => z.elim) (mo_cons me_var (mo_cons me_var mo_nil)) (pa_cons (pv 1) (pa_cons (pv 2) pa_nil))))) pss_nil)
      (pss_one (ps_ret (pe_rec (pr_Token T) hr (passW (takes_of rfl rfl rfl rfl) fun _ _ _ _ z => z) (pa_cons (pv 4) (pa_cons (pv 3) (pa_cons (pv 1) (pa_cons (pv 2) pa_nil)))) rfl (mo_cons me_var (mo_cons me_var (mo_cons me_var (mo_cons me_var mo_nil))))))))), ?_⟩
    obtain ⟨a, s, rfl⟩ : ∃ a s, t = a :: s := by
      cases t with
      | nil => exact (ne rfl).elim
      | cons a s => exact ⟨a, s, rfl⟩
    have hle := mEnd_le a s
    have hzl : z.length = n + s.length + 1 := by rw [← z_len, hz, List.length_append, hp]; rfl
    refine ⟨_, rfl, _, rfl, n, rfl, _, rfl, _, rfl, z, p, a :: s, n, rfl, hz, hp, ne, hl, fun H1 sm => ?_⟩
    refine ⟨_, rfl, z, rfl, szL (by omega), ?_⟩
    rw [cut_word hz hp (show mEnd (a :: s) ≤ (a :: s).length from hle.1)]
    refine ⟨_, rfl, _, rfl, by rw [mkS_tl]; exact word_ok a s, ?_, ?_⟩
    · rw [← z_len, mkS_tl, List.length_take]
      show min (mEnd (a :: s)) (s.length + 1) ≤ _
      omega
    · rw [mkS_tl]
      refine ⟨_, rfl, rfl, _, rfl, ?_⟩
      cases e : mKind ((a :: s).take (mEnd (a :: s))) with
      | none =>
        rw [e] at q
        refine iteT ⟨_, rfl, _, rfl, _, whoSyn_of (by omega) (by omega), fun d H' s' x => q d H' (sm.trans s') x⟩
      | some k =>
        rw [e] at q
        rw [show decide (kindV (some k) = V.non) = false from decide_eq_false fun z => nomatch z]
        refine iteF ⟨_, rfl, _, rfl, _, rfl, _, rfl, rfl, fun b dx H2 nb s2 hb => ?_⟩
        exact q b dx H2 (sm.trans s2) (Same.free sm nb) hb
end
end Fs
-- FsL6
set_option Elab.async false
set_option linter.all false
set_option maxRecDepth 100000
set_option maxHeartbeats 8000000
namespace Fs
open PySem PySem.Spec PyProof.Rows L2
section
variable {P : Program} {w : World} {K : PySem.W.Frag} {mg : Str → Option Value} {base h : Heap}
variable {l p : Addr} {H0 G0 H G H' G' : Hp} {vs ws : List V} {o : HO}
/-- where a reader without a cursor stands -/
structure At0 (H0 G0 H G : Hp) : Prop where
  sb : Same H0 H
  ex : Ext G0 G H0
  g : Same G H
theorem At0.refl (g : Same G H) : At0 H G H G := ⟨Same.refl H, Ext.refl, g⟩
theorem At0.free (a : At0 H0 G0 H G) (n : H p = none) : H0 p = none := Same.free a.sb n
theorem At0.new (a : At0 H0 G0 H G) (n : H p = none) : At0 H0 G0 (upd H p o) G := ⟨a.sb.trans (same_upd n), a.ex, a.g.trans (same_upd n)⟩
theorem At0.newR (a : At0 H0 G0 H G) (n : H p = none) (s : Same H H') (e : H' p = some o) : At0 H0 G0 H' (upd G p o) := ⟨a.sb.trans s, a.ex.trans0 (Ext.add n a.g) a.sb, same_fin (a.g.trans s) e⟩
theorem At0.more (a : At0 H0 G0 H G) (s : Same H H') : At0 H0 G0 H' G := ⟨a.sb.trans s, a.ex, a.g.trans s⟩
theorem At0.put (a : At0 H0 G0 H G) (w : Own H G l vs) (n : H0 l = none) : At0 H0 G0 (upd H l o) G := ⟨fun b u e => by rw [upd_ne (ne_of_none e n)]; exact a.sb b u e, a.ex, same_mut a.g w.nG⟩
theorem At0.fin (a : At0 H0 G0 H G) (w : Own H G l vs) (n : H0 l = none) : At0 H0 G0 H (upd G l (.lst vs)) :=
  ⟨a.sb, ⟨fun b u e => by
    have e2 := a.ex.le b u e
    rw [upd_ne (ne_of_none e2 w.nG)]
    exact e2, fun b u e => by rw [upd_ne (ne_of_none e n)]; exact a.ex.new b u e⟩, same_fin a.g w.at_⟩
theorem At0.step (a : At0 H0 G0 H G) (s : Same H H') (x : Ext G G' H) (g : Same G' H') : At0 H0 G0 H' G' := ⟨a.sb.trans s, a.ex.trans0 x a.sb, g⟩
theorem Own.newR (w : Own H G l vs) (n : H p = none) (s : Same H H') : Own H' (upd G p o) l vs := ⟨s _ _ w.at_, by rw [upd_ne (ne_of_none w.at_ n)]; exact w.nG⟩
theorem Own.step (w : Own H G l vs) (s : Same H H') (x : Ext G G' H) : Own H' G' l vs := ⟨s _ _ w.at_, by rw [x.new _ _ w.at_]; exact w.nG⟩
theorem Post0.retA {α : Type} {R : Hp → V → α → Prop} {Q : VK} {E : XK} {x : α} {v : V} (h : Post0 K H0 G0 R Q E (.ok x)) (a : At0 H0 G0 H G) (q : R G v x) : Q v H := h v H G a.sb a.ex a.g q
theorem Post0.seqA {α β : Type} {R : Hp → V → β → Prop} {R1 : Hp → V → α → Prop} {Q Q1 : VK} {E : XK} {m : Res α} {f : α → Res β} (h : Post0 K H0 G0 R Q E (m >>= f)) (a : At0 H0 G0 H G)
    (k : ∀ x v H' G', m = .ok x → Same H H' → Ext G G' H → At0 H0 G0 H' G' → R1 G' v x → Post0 K H0 G0 R Q E (f x) → Q1 v H') : Post0 K H G R1 Q1 E m := by
  cases m with
  | error e => exact Err0.later (show Err0 K H0 E e from h) a.sb
  | ok y => exact fun v H' G' s' x' i q => k y v H' G' rfl s' x' (a.step s' x' i) q h
theorem lexL_sp (i n col : Nat) (a : Nat) (s : List Nat) (h : a = 32) : lexL i (n + 1) col (a :: s) = lexL i n (col + 1) s := if_pos h
theorem lexL_tok (i n col : Nat) (a : Nat) (s : List Nat) (h : a ≠ 32) : lexL i (n + 1) col (a :: s) = match mKind ((a :: s).take (mEnd (a :: s))) with
      | none => .error (.syn i col)
      | some k => match lexL i n (col + mEnd (a :: s)) ((a :: s).drop (mEnd (a :: s))) with
        | .ok ts => .ok (⟨k, mkS ((a :: s).take (mEnd (a :: s))), i, col⟩ :: ts)
        | .error e => .error e := if_neg h
theorem is_sp (a : Nat) : decide (V.str (⟨#[a]⟩ : Str) = V.str " ") = decide (a = 32) := by
  refine decide_eq_decide.mpr ⟨fun x => ?_, fun x => ?_⟩
  · have y := congrArg (fun s : Str => s.cps.toList) (V.str.inj x)
    have y2 : [a] = [32] := y.trans (by decide +kernel)
    cases y2; rfl
  · cases x; exact congrArg V.str (str_eq (by decide +kernel))
def spLine (K : PySem.W.Frag) : Sp := fun vs H Q E => ∃ (z : Str) (i : Nat) (G : Hp), vs = [.str z, .int (i : Int)] ∧ Same G H ∧ z.length ≤ 1000000 ∧ i ≤ 1000000 ∧ Post0 K H G (fun G v ts => LstR (TokR K G) G v ts) Q E (lexL i z.cps.toList.length 0 z.cps.toList)
theorem p_line (T : Txt K w mg h) : Prom P w K mg base "read_line" 4 (spLine K) := by
  obtain ⟨fd, F⟩ := f_read_line T
  refine ⟨_, fd, ["text", "line"], g_read_line T, F.kp, F.bindsN fun _ _ _ _ _ _ us hl => match us, hl with | [_, _], _ => rfl, ?_⟩
  refine F.ok sc_read_line (fun vs H Q E h => ?_) (fun cdv A outer s H vs Q E hr h => ?_)
  · obtain ⟨z, i, G, rfl, _⟩ := h
    rfl
  · obtain ⟨z, i, G, rfl, g, hl, hi, q⟩ := h
    have nd := sc_read_line.nd
    refine ⟨_, pss_cons (ps_set (i := 2) nd rfl (.inl rfl) (pe_lst pa_nil)) (pss_cons (ps_set (i := 3) nd rfl (.inl rfl) pe_int)
      (pss_cons (ps_while (passes_of rfl) (pt_cmpR op_lt (pv 3) (pe_callB call_len_str (by rfl) (b_len T) boot_len (pa_cons (pv 0) pa_nil)) (nomark _))
        (pss_one (ps_if (pt_cmpR op_eq (pe_ix ix_str (pv 0) (pv 3) (fun _ _ => rfl)) pe_str (nomark _))
          (pss_one (ps_aug (i := 3) nd rfl (.inl rfl) pe_int ip_add))
          (pss_cons (ps_set (i := 4) nd rfl (.inl rfl) (pe_p (p_tok T) hr (passW (takes_of rfl rfl rfl rfl) fun _ _ _ _ z => z) (pa_cons (pv 0) (pa_cons (pv 1) (pa_cons (pv 3) pa_nil)))))
          (pss_cons (ps_expr (pe_bm PySem.F.plainAttrs_list PySem.F.slot_list_append PySem.F.type_list_append mt_append (pv 2) (pa_cons (pv 4) pa_nil)))
          (pss_one (ps_aug (i := 3) nd rfl (.inl rfl) (pe_callB call_len_str (by rfl) (b_len T) boot_len (pa_cons (pe_fld (pv 4) rfl) pa_nil)) ip_add)))))))
      (pss_one (ps_ret (pv 2))))), ?_⟩
    refine ⟨by show 0 ≤ sizeLine; decide, fun l hl' => ?_⟩
    have A0 : At0 H G H G := At0.refl g
    have A1 := A0.new (o := .lst []) hl'
    have w1 : Own (upd H l (.lst [])) G l [] := Own.new g hl'
    refine ⟨fun m σ H' => ∃ (G' : Hp) (p t : List Nat) (dn : List Tok) (vs : List V) (fuel : Nat) (x : Option V), m = t.length ∧ σ = [some (.str z), some (.int (i : Int)), some (.ref l), some (.int (p.length : Int)), x] ∧ z.cps.toList = p ++ t ∧ At0 H G H' G' ∧ Own H' G' l vs ∧ Paired (TokR K G') vs dn ∧ vs.length ≤ p.length ∧ t.length ≤ fuel ∧
      Post0 K H G (fun G v ts => LstR (TokR K G) G v ts) Q E (lexL i fuel p.length t >>= fun ts => .ok (dn ++ ts)), ⟨_, G, [], z.cps.toList, [], [], _, none, rfl, rfl, rfl, A1, w1, .nil, Nat.le_refl _, Nat.le_refl _, ?_⟩, ?_⟩
    · have e : (lexL i z.cps.toList.length 0 z.cps.toList >>= fun ts => Except.ok (([] : List Tok) ++ ts)) = lexL i z.cps.toList.length 0 z.cps.toList := by
        cases lexL i z.cps.toList.length 0 z.cps.toList <;> rfl
      show Post0 K H G _ Q E (lexL i z.cps.toList.length 0 z.cps.toList >>= fun ts => Except.ok (([] : List Tok) ++ ts))
      rw [e]
      exact q
    rintro m σ H' ⟨G', p, t, dn, vs, fuel, x, rfl, rfl, hz, A', o1, pT, b1, b2, q'⟩
    have hzl : z.length = p.length + t.length := by rw [← z_len, hz, List.length_append]
    refine ⟨_, rfl, _, rfl, z, rfl, szL (by omega), _, _, rfl, rfl, _, rfl, ?_⟩
    cases t with
    | nil =>
      rw [show decide ((p.length : Int) < (z.length : Int)) = false from decide_eq_false (by rw [hzl]; simp)]
      refine iteF ⟨_, rfl, ?_⟩
      have e : lexL i fuel p.length [] = .ok [] := by cases fuel <;> rfl
      rw [e] at q'
      have q2 : Post0 K H G (fun G v ts => LstR (TokR K G) G v ts) Q E (.ok (dn ++ [])) := q'
      rw [List.append_nil] at q2
      exact q2.retA (A'.fin o1 hl') ⟨l, vs, rfl, upd_same, pmono (fun _ _ => TokR.mono o1.le) pT⟩
    | cons a s =>
      obtain ⟨fuel, rfl⟩ : ∃ k, fuel = k + 1 := ⟨fuel - 1, by simp at b2; omega⟩
      have hsl : (a :: s).length = s.length + 1 := rfl
      rw [show decide ((p.length : Int) < (z.length : Int)) = true from decide_eq_true (by rw [hzl]; simp; omega)]
      refine iteT ⟨_, fun _ _ z => z, ?_⟩
      refine ⟨_, rfl, _, rfl, z, _, a, rfl, rfl, szL (by omega), at_pre (k := 0) (t := a :: s) hz rfl rfl rfl, rfl, _, rfl, ?_⟩
      rw [is_sp]
      by_cases e : a = 32
      · rw [decide_eq_true e]
        rw [lexL_sp _ _ _ _ _ e] at q'
        refine iteT ⟨_, rfl, _, _, rfl, rfl, s.length, by omega, G', p ++ [a], s, dn, vs, fuel, x, rfl, ?_, by rw [List.append_assoc]; exact hz, A', o1, pT, by rw [List.length_append]; show _ ≤ p.length + 1; omega, by omega, ?_⟩
        · rw [List.length_append]; rfl
        · rw [List.length_append]; exact q'
      · rw [decide_eq_false e]
        rw [lexL_tok _ _ _ _ _ e] at q'
        have hle := mEnd_le a s
        refine iteF ⟨_, rfl, _, rfl, _, rfl, z, p, a :: s, i, p.length, rfl, hz, rfl, List.cons_ne_nil _ _, hl, hi, ?_⟩
        cases ek : mKind ((a :: s).take (mEnd (a :: s))) with
        | none =>
          rw [ek] at q'
          exact Err0.later q' A'.sb
        | some k =>
          rw [ek] at q'
          intro b dx H2 s2 nb hb
          have A2 := A'.newR nb s2 hb
          have o2 := o1.newR (o := .ins (He.ga K "Token") dx (tokF ⟨k, mkS ((a :: s).take (mEnd (a :: s))), i, p.length⟩)) nb s2
          have gg := newG (o := .ins (He.ga K "Token") dx (tokF ⟨k, mkS ((a :: s).take (mEnd (a :: s))), i, p.length⟩)) A'.g nb
          have wl : (mkS ((a :: s).take (mEnd (a :: s)))).length = mEnd (a :: s) := by rw [← z_len, mkS_tl, List.length_take]; simp; omega
          have nbl : b ≠ l := Ne.symm (ne_of_none o1.at_ nb)
          refine ⟨_, rfl, .inl ⟨rfl, _, SqL.of o2.at_⟩, _, rfl, l, vs, _, rfl, rfl, o2.at_, Nat.lt_of_le_of_lt (show vs.length ≤ 1000000 by omega) (by decide), ?_⟩
          refine ⟨_, rfl, _, rfl, b, _, dx, _, .str (mkS ((a :: s).take (mEnd (a :: s)))), rfl, (upd_ne nbl).trans hb, c_Token T, na_Token_text T, (by kernel_rfl), _, rfl, szL (by rw [wl]; omega), _, _, rfl, rfl, ?_⟩
          rw [wl]
          have dl : ((a :: s).drop (mEnd (a :: s))).length = (a :: s).length - mEnd (a :: s) := List.length_drop
          have tl : ((a :: s).take (mEnd (a :: s))).length = mEnd (a :: s) := by rw [List.length_take]; simp; omega
          refine ⟨((a :: s).drop (mEnd (a :: s))).length, by omega, _, p ++ (a :: s).take (mEnd (a :: s)), (a :: s).drop (mEnd (a :: s)), dn ++ [⟨k, mkS ((a :: s).take (mEnd (a :: s))), i, p.length⟩], vs ++ [.ref b], fuel, some (.ref b), rfl, ?_, ?_, A2.put o2 hl', o2.set, ?_, ?_, by omega, ?_⟩
          · rw [List.length_append, tl]
            rfl
          · rw [List.append_assoc, List.take_append_drop]
            exact hz
          · exact paired_snoc (pmono (fun _ _ => TokR.mono gg) pT) ⟨b, dx, rfl, upd_same, by show i < _; omega, by show p.length < _; omega⟩
          · rw [List.length_append, List.length_append, tl]
            show vs.length + 1 ≤ _
            omega
          · rw [List.length_append, tl]
            dsimp only at q'
            cases el : lexL i fuel (p.length + mEnd (a :: s)) ((a :: s).drop (mEnd (a :: s))) with
            | error er =>
              rw [el] at q'
              exact q'
            | ok ts =>
              rw [el] at q'
              show Post0 K H G _ Q E (.ok ((dn ++ [_]) ++ ts))
              rw [List.append_assoc]
              exact q'
end
end Fs
-- FsL7
set_option Elab.async false
set_option linter.all false
set_option maxRecDepth 100000
set_option maxHeartbeats 8000000
namespace Fs
open PySem PySem.Spec PyProof.Rows L2
def wt (L : List (List Nat)) : Nat := (L.map (·.length + 1)).sum
theorem wt_cons (a : List Nat) (L : List (List Nat)) : wt (a :: L) = a.length + 1 + wt L := by simp [wt]
theorem wt_spl (s : Nat) : ∀ (l acc : List Nat), wt (TL.spl [s] 0 acc l) = acc.length + l.length + 1
  | [], acc => by rw [TL.spl_nil]; simp [wt]
  | c :: r, acc => by
    cases e : TL.pre [s] (c :: r) with
    | true =>
      rw [TL.spl_hit e, wt_cons]
      show acc.length + 1 + wt (TL.spl [s] 0 [] r) = _
      rw [wt_spl s r []]
      simp; omega
    | false =>
      rw [TL.spl_miss e, wt_spl s r (acc ++ [c])]
      simp; omega
theorem wt_len (L : List (List Nat)) : L.length ≤ wt L := by
  induction L with
  | nil => exact Nat.le_refl _
  | cons a L ih => rw [wt_cons]; simp; omega
theorem lexL_len : ∀ (n i col : Nat) (t : List Nat) (ts : List Tok), lexL i n col t = .ok ts → ts.length ≤ t.length
  | 0, i, col, t, ts, h => by cases h; exact Nat.zero_le _
  | n + 1, i, col, [], ts, h => by cases h; exact Nat.zero_le _
  | n + 1, i, col, a :: s, ts, h => by
    by_cases e : a = 32
    · rw [lexL_sp _ _ _ _ _ e] at h
      have := lexL_len n i _ s ts h
      simp; omega
    · rw [lexL_tok _ _ _ _ _ e] at h
      cases ek : mKind ((a :: s).take (mEnd (a :: s))) with
      | none => rw [ek] at h; cases h
      | some k =>
        rw [ek] at h
        dsimp only at h
        cases el : lexL i n (col + mEnd (a :: s)) ((a :: s).drop (mEnd (a :: s))) with
        | error er => rw [el] at h; cases h
        | ok us =>
          rw [el] at h
          have := lexL_len n i _ _ us el
          have hle := mEnd_le a s
          rw [List.length_drop] at this
          have : us.length + 1 ≤ (a :: s).length := by simp at this ⊢; omega
          cases h
          exact this
theorem lexLs_len : ∀ (i : Nat) (L : List (List Nat)) (ts : List Tok), lexLs i L = .ok ts → ts.length ≤ wt L + 1 ∧ EndOk ts
  | i, [], ts, h => by
    unfold lexLs at h
    cases h
    exact ⟨Nat.le_add_left _ _, [], _, rfl, rfl⟩
  | i, t :: L, ts, h => by
    unfold lexLs at h
    cases e1 : lexL i t.length 0 t with
    | error er => rw [e1] at h; cases h
    | ok a =>
      rw [e1] at h
      dsimp only at h
      cases e2 : lexLs (i + 1) L with
      | error er => rw [e2] at h; cases h
      | ok b =>
        rw [e2] at h
        have h1 := lexL_len _ _ _ _ _ e1
        obtain ⟨h2, x, y, h3, h4⟩ := lexLs_len (i + 1) L b e2
        cases h
        refine ⟨?_, a ++ x, y, by rw [h3, List.append_assoc], h4⟩
        rw [List.length_append, wt_cons]
        omega
theorem lexLs_cons (i : Nat) (t : List Nat) (L : List (List Nat)) : lexLs i (t :: L) = (lexL i t.length 0 t >>= fun a => lexLs (i + 1) L >>= fun b => .ok (a ++ b)) := by
  rw [lexLs]
  cases lexL i t.length 0 t with
  | error e => rfl
  | ok a => 
    dsimp only
    cases lexLs (i + 1) L <;> rfl
section
variable {P : Program} {w : World} {K : PySem.W.Frag} {mg : Str → Option Value} {base h : Heap}
variable {l p : Addr} {H0 G0 H G H' G' : Hp} {vs ws : List V} {o : HO}
theorem me_cb {r : List V → Hp → VK → Prop} {t : TA} (m : Mono t) (mr : ∀ xs H (Q Q' : VK), (∀ v H1, Q v H1 → Q' v H1) → r xs H Q → r xs H Q') : MonoE (tCB r t) := fun σ H Q Q' k z => m σ H _ _ (fun vs H1 q => mr vs H1 Q Q' k q) z
def spToksOf (K : PySem.W.Frag) : Sp := fun vs H Q E => ∃ (z : Str) (G : Hp), vs = [.str z] ∧ Same G H ∧ z.length ≤ 900000 ∧ Post0 K H G (fun G v ts => LstR (TokR K G) G v ts) Q E (mLex z.cps.toList)
theorem split_lines (z : Str) : Txt.split z "\n" = (TL.spl [10] 0 [] z.cps.toList).map mkS := by
  have e := SX.split_S (a := z.cps.toList) (b := [10]) (by decide) (by decide)
  have h1 : SX.S z.cps.toList = z := TL.mk_tl z
  have h2 : SX.S [10] = ("\n" : Str) := str_eq (by decide +kernel)
  rw [h1, h2] at e
  exact e
theorem p_rdtoks (T : Txt K w mg h) : Prom P w K mg base "read_tokens" 5 (spToksOf K) := by
  obtain ⟨fd, F⟩ := f_read_tokens T
  refine ⟨_, fd, ["source"], g_read_tokens T, F.kp, F.bindsN fun _ _ _ _ _ _ us hl => match us, hl with | [_], _ => rfl, ?_⟩
  refine F.ok sc_read_tokens (fun vs H Q E h => ?_) (fun cdv A outer s H vs Q E hr h => ?_)
  · obtain ⟨z, G, rfl, _⟩ := h
    rfl
  · obtain ⟨z, G, rfl, g, hl, q⟩ := h
    have nd := sc_read_tokens.nd
    have hr2 : Room 2 _ := hr.mono (by decide)
    refine ⟨_, pss_cons (ps_set (i := 1) nd rfl (.inl rfl) (pe_lst pa_nil)) (pss_cons (ps_set (i := 2) nd rfl (.inl rfl) (pe_split (pv 0) pe_str))
      (pss_cons (ps_for (passes_of rfl) rfl (pi_enum (by rfl) (b_enumerate T) (pa_cons (pv 2) pa_nil)) (pg_tup rfl (pgs_cons (pg_name (i := 3) nd rfl (.inl rfl)) (pgs_cons (pg_name (i := 4) nd rfl (.inl rfl)) pgs_nil)))
        (pss_one (ps_expr (pe_bm PySem.F.plainAttrs_list PySem.F.slot_list_extend PySem.F.type_list_extend mt_extend (pv 1) (pa_cons (pe_p (p_line T) hr (passW (takes_of rfl rfl rfl rfl) fun _ _ _ _ z => z) (pa_cons (pv 4) (pa_cons (pv 3) pa_nil))) pa_nil)))))
      (pss_cons (ps_expr (pe_bm PySem.F.plainAttrs_list PySem.F.slot_list_append PySem.F.type_list_append mt_append (pv 1) (pa_cons (pe_rec (pr_Token T) hr2 (passW (takes_of rfl rfl rfl rfl) fun _ _ _ _ z => z) (pa_cons pe_str (pa_cons pe_str (pa_cons (pe_callB call_len (by rfl) (b_len T) boot_len (pa_cons (pv 2) pa_nil)) (pa_cons pe_int pa_nil)))) rfl (mo_cons me_c (mo_cons me_c (mo_cons (me_cb (mo_cons me_var mo_nil) (fun xs H Q Q' k z => by obtain ⟨x, n, e1, e2, e3⟩ := z; exact ⟨x, n, e1, e2, k _ _ e3⟩)) (mo_cons me_c mo_nil))))) pa_nil)))
      (pss_one (ps_ret (pv 1)))))), ?_⟩
    refine ⟨by show 0 ≤ sizeLine; decide, fun l hl' => ?_⟩
    have A0 : At0 H G H G := At0.refl g
    have A1 := A0.new (o := .lst []) hl'
    have w1 : Own (upd H l (.lst [])) G l [] := Own.new g hl'
    refine ⟨.str z, rfl, ⟨_, rfl⟩, ?_⟩
    refine ⟨z, "\n", rfl, rfl, rfl, szL (by omega), fun ll hll => ?_⟩
    rw [split_lines]
    unfold mLex at q
    have hwt : wt (TL.spl [10] 0 [] z.cps.toList) = z.length + 1 := by rw [wt_spl, z_len]; show 0 + _ + 1 = _; omega
    revert q hwt hll
    generalize TL.spl [10] 0 [] z.cps.toList = L
    intro q hll hwt
    have hLl := wt_len L
    have A2 := A1.newR (o := .lst ((L.map mkS).map V.str)) hll (same_upd hll) upd_same
    have w2 := w1.newR (o := .lst ((L.map mkS).map V.str)) hll (same_upd (o := .lst ((L.map mkS).map V.str)) hll)
    refine ⟨_, rfl, ll, _, rfl, SqL.of upd_same, fun i m σ H' => ∃ (G' : Hp) (dn : List Tok) (vs : List V) (x3 x4 : Option V), m = L.length - i ∧ i ≤ L.length ∧ σ = [some (.str z), some (.ref l), some (.ref ll), x3, x4] ∧ At0 H G H' G' ∧ G' ll = some (.lst ((L.map mkS).map V.str)) ∧ Own H' G' l vs ∧ Paired (TokR K G') vs dn ∧ vs.length + wt (L.drop i) ≤ z.length + 1 ∧
      Post0 K H G (fun G v ts => LstR (TokR K G) G v ts) Q E (lexLs i (L.drop i) >>= fun ts => .ok (dn ++ ts)), ⟨_, _, [], [], none, none, rfl, Nat.zero_le _, rfl, A2, upd_same, w2, .nil, ?_, ?_⟩, ?_⟩
    · show 0 + wt L ≤ _
      omega
    · show Post0 K H G _ Q E (lexLs 0 L >>= fun ts => Except.ok (([] : List Tok) ++ ts))
      have e : (lexLs 0 L >>= fun ts => Except.ok (([] : List Tok) ++ ts)) = lexLs 0 L := by cases lexLs 0 L <;> rfl
      rw [e]
      exact q
    rintro i m σ H' ⟨G', dn, vs, x3, x4, rfl, hi, rfl, A', hlG, o1, pT, b1, q'⟩
    by_cases hlt : i < L.length
    · have hget : ((L.map mkS).map V.str)[i]? = some (.str (mkS L[i])) := by rw [List.getElem?_map, List.getElem?_map, List.getElem?_eq_getElem hlt]; rfl
      have hd : L.drop i = L[i] :: L.drop (i + 1) := List.drop_eq_getElem_cons hlt
      rw [hd, wt_cons] at b1
      rw [hd, lexLs_cons, bindA] at q'
      refine .inr ⟨⟨_, _, SqL.of (A'.g _ _ hlG), hget⟩, _, fun _ _ z => z, ?_⟩
      rintro x H2 ⟨T', xv, rfl, nT, rfl, hx⟩
      have ex : xv = .str (mkS L[i]) := Option.some.inj ((hx _ (SqL.of (A'.g _ _ hlG))).symm.trans hget)
      subst ex
      have A3 := A'.new (o := .tup [.int (i : Nat), .str (mkS L[i])]) nT
      have o3 := o1.add (o := .tup [.int (i : Nat), .str (mkS L[i])]) nT
      refine ⟨T', _, rfl, SqT.of upd_same, rfl, _, _, rfl, _, _, rfl, rfl, ?_⟩
      refine ⟨_, rfl, .inl ⟨rfl, _, SqL.of o3.at_⟩, _, rfl, _, rfl, mkS L[i], i, G', rfl, A3.g, ?_, by omega, ?_⟩
      · rw [← z_len, mkS_tl]; omega
      refine q'.seqA A3 fun ts v H4 G4 e4 s4 x4 A4 hx4 q2 => ?_
      obtain ⟨la, us, rfl, hla, pus⟩ := hx4
      have o4 := o3.step s4 x4
      have l4 := lexL_len _ _ _ _ _ e4
      have lu := Paired.length pus
      refine ⟨l, la, vs, us, rfl, rfl, o4.at_, A4.g _ _ hla, szL (by omega), L.length - (i + 1), by omega, G4, dn ++ ts, vs ++ us, _, _, rfl, hlt, rfl, A4.put o4 hl', x4.le _ _ hlG, o4.set, paired_app (pmono (fun _ _ => TokR.mono x4.le) pT) pus, ?_, ?_⟩
      · rw [List.length_append]; omega
      · have e : ((lexLs (i + 1) (L.drop (i + 1)) >>= fun b => Except.ok (ts ++ b)) >>= fun ts' => Except.ok (dn ++ ts')) = (lexLs (i + 1) (L.drop (i + 1)) >>= fun ts' => (Except.ok ((dn ++ ts) ++ ts') : Res (List Tok))) := by
          cases lexLs (i + 1) (L.drop (i + 1)) with
          | error e => rfl
          | ok b => show (Except.ok (dn ++ (ts ++ b)) : Res (List Tok)) = _; rw [← List.append_assoc]; rfl
        rw [← e]
        exact q2
    · have hi' : i = L.length := by omega
      subst hi'
      refine .inl ⟨⟨_, SqL.of (A'.g _ _ hlG), by simp⟩, ?_⟩
      rw [List.drop_length] at q'
      have q2 : Post0 K H G (fun G v ts => LstR (TokR K G) G v ts) Q E (.ok (dn ++ [⟨"end", "", L.length, 0⟩])) := q'
      refine ⟨_, rfl, .inl ⟨rfl, _, SqL.of o1.at_⟩, _, rfl, _, L.length, rfl, .inl ⟨_, SqL.of (A'.g _ _ hlG), by rw [List.length_map, List.length_map]⟩, rfl, fun p dx H2 np sm hp => ?_⟩
      have o2 := o1.newR (o := .ins (He.ga K "Token") dx (tokF ⟨"end", "", L.length, 0⟩)) np sm
      have A2 := A'.newR (o := .ins (He.ga K "Token") dx (tokF ⟨"end", "", L.length, 0⟩)) np sm hp
      have gg := newG (o := .ins (He.ga K "Token") dx (tokF ⟨"end", "", L.length, 0⟩)) A'.g np
      refine ⟨l, vs, .ref p, rfl, rfl, o2.at_, Nat.lt_of_le_of_lt (show vs.length ≤ 1000000 by omega) (by decide), ?_⟩
      have o3 := o2.set (ws := vs ++ [.ref p])
      refine ⟨_, rfl, q2.retA ((A2.put o2 hl').fin o3 hl') ⟨l, vs ++ [.ref p], rfl, upd_same, pmono (fun _ _ => TokR.mono o3.le) (paired_snoc (pmono (fun _ _ => TokR.mono gg) pT) ⟨p, dx, rfl, upd_same, by show L.length < _; omega, by show 0 < _; decide⟩)⟩⟩
end
end Fs
-- FsW1
set_option Elab.async false
set_option linter.all false
set_option maxRecDepth 100000
set_option maxHeartbeats 8000000
namespace Fs
open PySem PySem.Spec PyProof.Rows L2
/-! ## walks from behind -/
theorem for_rev {K : PySem.W.Frag} {a : Addr} {xs : List V} {g : TG} {tb : TS} {D : Ends} {σ : L2.St} {H : Hp} (Pv : Nat → L2.St → Hp → Prop) (h0 : Pv 0 σ H) (hl : ∀ i σ H, i ≤ xs.length → Pv i σ H → SqL K H a xs)
    (hs : ∀ i x σ H, xs.reverse[i]? = some x → Pv i σ H → g x σ H fun σ2 H2 => tb { D with nx := Pv (i + 1), ct := Pv (i + 1), bk := D.nx } σ2 H2) (hd : ∀ σ H, Pv xs.length σ H → D.nx σ H) :
    ∃ W : Nat → Nat → L2.St → Hp → Prop, (∃ m, W 0 m σ H) ∧ ∀ i m σ H, W i m σ H →
      ((Itv K a xs.length).stop i H ∧ D.nx σ H) ∨ ((Itv K a xs.length).go i H ∧ ∃ N : L2.St → Hp → Prop, (∀ σ' H', N σ' H' → ∃ m', m' < m ∧ W (i + 1) m' σ' H') ∧ ∀ x H', (Itv K a xs.length).yld i H x H' → g x σ H' fun σ2 H2 => tb { D with nx := N, ct := N, bk := D.nx } σ2 H2) := by
  refine ⟨fun i m σ H => m = xs.length - i ∧ i ≤ xs.length ∧ Pv i σ H, ⟨xs.length, by simp, Nat.zero_le _, h0⟩, ?_⟩
  rintro i m σ H ⟨rfl, hi, p⟩
  have q := hl i σ H hi p
  by_cases hlt : i < xs.length
  · have hx : xs[xs.length - 1 - i]? = some (xs[xs.length - 1 - i]'(by omega)) := List.getElem?_eq_getElem (by omega)
    refine .inr ⟨⟨hlt, xs, _, q, hx⟩, Pv (i + 1), fun σ' H' p' => ⟨xs.length - (i + 1), by omega, rfl, hlt, p'⟩, fun x H' y => ?_⟩
    obtain ⟨e, y⟩ := y
    subst e
    refine hs i x σ _ ?_ p
    rw [List.getElem?_reverse hlt]
    exact y xs q
  · have e : i = xs.length := by omega
    subst e
    exact .inl ⟨Nat.le_refl _, hd σ H p⟩
theorem lc_rev {K : PySem.W.Frag} {a : Addr} {xs : List V} {g : TG} {tt : TT} {te : TE} {vs : List Nat} {σ : L2.St} {H1 : Hp} {D : Addr} {Qd : Hp → Prop} (Pv : Nat → Hp → Prop) (h0 : Pv 0 (upd H1 D (.lst []))) (hl : ∀ i H, i ≤ xs.length → Pv i H → SqL K H a xs)
    (hs : ∀ i x H, xs.reverse[i]? = some x → Pv i H → g x (wipe σ vs) H fun σ2 H2 => wipe σ2 vs = wipe σ vs ∧ tt σ2 H2 fun b H3 =>
      if b = true then te σ2 H3 fun y H4 => ∃ acc, H4 D = some (.lst acc) ∧ acc.length < sizeLine ∧ Pv (i + 1) (upd H4 D (.lst (acc ++ [y]))) else Pv (i + 1) H3) (hd : ∀ H, Pv xs.length H → Qd H) :
    ∃ W : Nat → Nat → Hp → Prop, (∃ m, W 0 m (upd H1 D (.lst []))) ∧ ∀ i m H, W i m H →
      ((Itv K a xs.length).stop i H ∧ Qd H) ∨ ((Itv K a xs.length).go i H ∧ ∃ Nx : Hp → Prop, (∀ H', Nx H' → ∃ m', m' < m ∧ W (i + 1) m' H') ∧ ∀ x H', (Itv K a xs.length).yld i H x H' → g x (wipe σ vs) H' fun σ2 H2 => wipe σ2 vs = wipe σ vs ∧ tt σ2 H2 fun b H3 =>
        if b = true then te σ2 H3 fun y H4 => ∃ acc, H4 D = some (.lst acc) ∧ acc.length < sizeLine ∧ Nx (upd H4 D (.lst (acc ++ [y]))) else Nx H3) := by
  refine ⟨fun i m H => m = xs.length - i ∧ i ≤ xs.length ∧ Pv i H, ⟨xs.length, by simp, Nat.zero_le _, h0⟩, ?_⟩
  rintro i m H ⟨rfl, hi, p⟩
  have q := hl i H hi p
  by_cases hlt : i < xs.length
  · have hx : xs[xs.length - 1 - i]? = some (xs[xs.length - 1 - i]'(by omega)) := List.getElem?_eq_getElem (by omega)
    refine .inr ⟨⟨hlt, xs, _, q, hx⟩, Pv (i + 1), fun H' p' => ⟨xs.length - (i + 1), by omega, rfl, hlt, p'⟩, fun x H' y => ?_⟩
    obtain ⟨e, y⟩ := y
    subst e
    refine hs i x _ ?_ p
    rw [List.getElem?_reverse hlt]
    exact y xs q
  · have e : i = xs.length := by omega
    subst e
    exact .inl ⟨Nat.le_refl _, hd H p⟩
section
variable {P : Program} {w : World} {K : PySem.W.Frag} {mg : Str → Option Value} {base h : Heap}
variable {l p : Addr} {H0 G0 H G H' G' : Hp} {vs ws : List V} {o : HO}
/-- an entry of the statements' list -/
def EnR (K : PySem.W.Frag) (G : Hp) (v : V) (e : Nat × St) : Prop := ∃ t sv, v = .ref t ∧ G t = some (.tup [.int (e.1 : Int), .ref sv]) ∧ StR K G (.ref sv) e.2
theorem EnR.mono {v : V} {e : Nat × St} (s : Same G G') (z : EnR K G v e) : EnR K G' v e := let ⟨t, sv, h1, h2, h3⟩ := z; ⟨t, sv, h1, s _ _ h2, h3.mono s⟩
theorem StR.ref {v : V} {s : St} (z : StR K G v s) : ∃ a, v = .ref a := by
  cases s <;> unfold StR at z
  · obtain ⟨a, dx, k', t', e', h1, _⟩ := z; exact ⟨a, h1⟩
  · obtain ⟨a, dx, k', e', h1, _⟩ := z; exact ⟨a, h1⟩
  · obtain ⟨a, dx, k', l', r', f, s, vf, vs, h1, _⟩ := z; exact ⟨a, h1⟩
  · obtain ⟨a, dx, k', e', f, vf, h1, _⟩ := z; exact ⟨a, h1⟩
  · obtain ⟨a, dx, k', t', f', as', s', fb', h1, _⟩ := z; exact ⟨a, h1⟩
/-- blocks() of a statement that is read -/
theorem StR.blocks {a : Addr} {s : St} (z : StR K G (.ref a) s) : ∃ C dx fs sp bvs, G a = some (.ins C dx fs) ∧ fs.lookup ("blocks" : Str) = none ∧ BlT K C sp ∧ Paired (BlkR K G) bvs s.blocks ∧ bvs.length ≤ 2 ∧
    ∀ H Q E, Same G H → (∀ l, H l = none → Q (.ref l) (upd H l (.lst bvs))) → sp [.ref a] H Q E := by
  cases s <;> unfold StR at z
  · obtain ⟨_, dx, k', t', e', e0, h, _⟩ := z
    cases e0
    exact ⟨_, dx, _, _, [], h, (by kernel_rfl), .asg, .nil, by decide, fun H Q E g k => ⟨_, rfl, k⟩⟩
  · obtain ⟨_, dx, k', e', e0, h, _⟩ := z
    cases e0
    exact ⟨_, dx, _, _, [], h, (by kernel_rfl), .val, .nil, by decide, fun H Q E g k => ⟨_, rfl, k⟩⟩
  · obtain ⟨_, dx, k', l', r', f, s, vf, vs, e0, h, h1, h2, h3, h4, h5, h6, h7⟩ := z
    cases e0
    exact ⟨_, dx, _, _, [.ref f, .ref s], h, (by kernel_rfl), .ifs, .cons ⟨f, vf, rfl, h4, h5⟩ (.cons ⟨s, vs, rfl, h6, h7⟩ .nil), Nat.le_refl 2, fun H Q E g k => ⟨_, dx, _, _, _, _, f, s, rfl, g _ _ h, k⟩⟩
  · obtain ⟨_, dx, k', e', f, vf, e0, h, h1, h2, h4, h5⟩ := z
    cases e0
    exact ⟨_, dx, _, _, [.ref f], h, (by kernel_rfl), .loop, .cons ⟨f, vf, rfl, h4, h5⟩ .nil, (by show 1 ≤ 2; decide), fun H Q E g k => ⟨_, dx, _, _, f, rfl, g _ _ h, k⟩⟩
  · obtain ⟨_, dx, k', t', f', as', s', fb', e0, h, _⟩ := z
    cases e0
    exact ⟨_, dx, _, _, [], h, (by kernel_rfl), .call, .nil, by decide, fun H Q E g k => ⟨_, rfl, k⟩⟩
/-- what the pending entries give -/
def fls (ps : List (Nat × St)) : List (Nat × St) := ps.flatMap fun q => flat q.1 q.2
theorem fls_app (a b : List (Nat × St)) : fls (a ++ b) = fls a ++ fls b := List.flatMap_append
theorem fls_map (d : Nat) (ss : List St) : fls (ss.map fun s => (d, s)) = flats d ss := by
  induction ss with
  | nil => rfl
  | cons s ss ih =>
    rw [flats, ← ih]
    rfl
theorem flat_blocks (d : Nat) (s : St) : flat d s = (d, s) :: (s.blocks.flatMap fun b => flats (d + 1) b) := by
  cases s with
  | asg k t e => rw [flat]; rfl
  | val k e => rw [flat]; rfl
  | ite k l c r b1 b2 => rw [flat]; simp [St.blocks]
  | loop k e b => rw [flat]; simp [St.blocks]
  | call k t f as p q fb => rw [flat]; rfl
end
end Fs
-- FsW2
set_option Elab.async false
set_option linter.all false
set_option maxRecDepth 100000
set_option maxHeartbeats 8000000
namespace Fs
open PySem PySem.Spec PyProof.Rows L2
section
variable {P : Program} {w : World} {K : PySem.W.Frag} {mg : Str → Option Value} {base h : Heap}
variable {l p : Addr} {H0 G0 H G H' G' : Hp} {vs ws : List V} {o : HO}
theorem StsR.paired : ∀ {vs : List V} {ts : List St}, StsR K G vs ts → Paired (StR K G) vs ts
  | [], [], _ => .nil
  | v :: vs, t :: ts, h => by
    unfold StsR at h
    exact .cons h.1 (StsR.paired h.2)
  | [], _ :: _, h => by unfold StsR at h; exact h.elim
  | _ :: _, [], h => by unfold StsR at h; exact h.elim
theorem paired_getV {α β : Type} {R : α → β → Prop} : ∀ {vs : List α} {ts : List β} {i : Nat} {v : α}, Paired R vs ts → vs[i]? = some v → ∃ t, ts[i]? = some t ∧ R v t
  | _, _, _, _, .nil, h => by simp at h
  | _, _, 0, t, .cons r p, h => by simp at h; subst h; exact ⟨_, rfl, r⟩
  | _, _, i + 1, t, .cons r p, h => by
    obtain ⟨v, h1, h2⟩ := paired_getV (i := i) (v := t) p (by simpa using h)
    exact ⟨v, by simpa using h1, h2⟩
theorem paired_rev {α β : Type} {R : α → β → Prop} : ∀ {vs : List α} {ts : List β}, Paired R vs ts → Paired R vs.reverse ts.reverse
  | _, _, .nil => .nil
  | _, _, .cons r p => by
    rw [List.reverse_cons, List.reverse_cons]
    exact paired_snoc (paired_rev p) r
theorem fls_len : ∀ ps : List (Nat × St), ps.length ≤ (fls ps).length
  | [] => Nat.le_refl _
  | (d, s) :: ps => by
    have := fls_len ps
    show ps.length + 1 ≤ (flat d s ++ fls ps).length
    rw [List.length_append, flat_blocks]
    simp only [List.length_cons]
    omega
theorem paired_last {α β : Type} {R : α → β → Prop} {vs : List α} {ts : List β} {t : β} (h : Paired R vs (ts ++ [t])) : ∃ vs' v, vs = vs' ++ [v] ∧ Paired R vs' ts ∧ R v t := by
  have h1 := paired_rev h
  rw [List.reverse_append] at h1
  generalize e : vs.reverse = us at h1
  cases h1 with
  | cons r p =>
    rename_i v us'
    refine ⟨us'.reverse, v, ?_, ?_, r⟩
    · rw [← List.reverse_reverse vs, e, List.reverse_cons]
    · have e2 : ts.reverse.reverse = ts := List.reverse_reverse ts
      rw [← e2]
      exact paired_rev p
theorem take_rev_len {α β : Type} {f : α → List β} (l : List α) : ∀ i, ((l.reverse.take i).reverse.flatMap f).length ≤ (l.flatMap f).length := fun i => by
  have e : l.flatMap f = ((l.reverse.drop i).reverse ++ (l.reverse.take i).reverse).flatMap f := by
    rw [← List.reverse_append, List.take_append_drop, List.reverse_reverse]
  rw [e, List.flatMap_append, List.length_append]
  omega
theorem szM {n : Nat} (h : n ≤ 16000000) : n ≤ sizeLine := Nat.le_trans h (by decide)
/-- a comprehension that makes entries from behind -/
def EPv (K : PySem.W.Frag) (Hb Gb : Hp) (D : Addr) (d : Nat) (ss : List St) (i : Nat) (H' : Hp) : Prop := ∃ G' acc, At0 Hb Gb H' G' ∧ Own H' G' D acc ∧ Paired (EnR K G') acc (((ss.map fun s => (d, s)).reverse).take i)
theorem EPv.start {Hb Gb : Hp} {D : Addr} {d : Nat} {ss : List St} (g : Same Gb Hb) (nD : Hb D = none) : EPv K Hb Gb D d ss 0 (upd Hb D (.lst [])) := ⟨Gb, [], (At0.refl g).new nD, Own.new g nD, .nil⟩
theorem EPv.step {Hb Gb : Hp} {D : Addr} {d : Nat} {ss : List St} {xs : List V} {i : Nat} {x : V} (z : EPv K Hb Gb D d ss i H') (nD : Hb D = none) (ps : Paired (StR K Gb) xs ss) (hl : ss.length ≤ 1000000) (hx : xs.reverse[i]? = some x) {t : Addr} (nt : H' t = none) :
    ∃ acc, upd H' t (.tup [.int (d : Int), x]) D = some (.lst acc) ∧ acc.length < sizeLine ∧ EPv K Hb Gb D d ss (i + 1) (upd (upd H' t (.tup [.int (d : Int), x])) D (.lst (acc ++ [.ref t]))) := by
  obtain ⟨G', acc, A', o1, pE⟩ := z
  obtain ⟨s, hs, rs⟩ := paired_getV (paired_rev ps) hx
  obtain ⟨sv, rfl⟩ := rs.ref
  have A2 := A'.newR (o := .tup [.int (d : Int), .ref sv]) nt (same_upd nt) upd_same
  have o2 := o1.newR (o := .tup [.int (d : Int), .ref sv]) nt (same_upd (o := .tup [.int (d : Int), .ref sv]) nt)
  have gg := newG (o := .tup [.int (d : Int), .ref sv]) A'.g nt
  have lE := Paired.length pE
  have lT : ((ss.map fun s => (d, s)).reverse.take i).length ≤ ss.length := by simp; omega
  refine ⟨acc, o2.at_, Nat.lt_of_le_of_lt (show acc.length ≤ 1000000 by omega) (by decide), _, acc ++ [.ref t], A2.put o2 nD, o2.set, ?_⟩
  have e : ((ss.map fun s => (d, s)).reverse)[i]? = some (d, s) := by
    rw [← List.map_reverse, List.getElem?_map, hs]; rfl
  rw [List.take_add_one, e]
  exact paired_snoc (pmono (fun _ _ => EnR.mono gg) pE) ⟨t, sv, rfl, upd_same, rs.mono (A'.ex.le.trans gg)⟩
def spFlat (K : PySem.W.Frag) : Sp := fun vs H Q E => ∃ (G : Hp) (b : V) (ss : List St), vs = [b] ∧ Same G H ∧ BlkR K G b ss ∧ (flats 1 ss).length ≤ 1000000 ∧ Post0 K H G (fun G v es => LstR (EnR K G) G v es) Q E (.ok (flats 1 ss))
theorem p_flat (T : Txt K w mg h) : Prom P w K mg base "list_statements" 2 (spFlat K) := by
  obtain ⟨fd, F⟩ := f_list_statements T
  refine ⟨_, fd, ["block"], g_list_statements T, F.kp, F.bindsN fun _ _ _ _ _ _ us hl => match us, hl with | [_], _ => rfl, ?_⟩
  refine F.ok sc_list_statements (fun vs H Q E h => ?_) (fun cdv A outer s H vs Q E hr h => ?_)
  · obtain ⟨G, b, ss, rfl, _⟩ := h
    rfl
  · obtain ⟨G, b, ss, rfl, g, hb, hz, q⟩ := h
    have nd := sc_list_statements.nd
    have hr1 : Room 1 _ := hr
    refine ⟨_, pss_cons (ps_set (i := 1) nd rfl (.inl rfl) (pe_lst pa_nil))
      (pss_cons (ps_setLc (i := 2) (own := [("statement", 3)]) (g := gName 3) (tt := tYes) rfl nd rfl rfl (sw_true rfl rfl rfl (by decide +kernel)) (pi_reversed (by rfl) (b_reversed T) (pa_cons (pv 0) pa_nil)) (blkOk_by (N := n_list_statements) (sc := defScope s_list_statements) (by decide +kernel)) (fun _ _ _ _ _ => pg_name (i := 3) nd rfl (Or.inl rfl)) (fun _ _ _ _ _ => pts_nil) (fun _ _ _ _ _ => pe_tup (pa_cons pe_int (pa_cons (pv 3) pa_nil))))
      (pss_cons (ps_while (passes_of rfl) (pt_truth (pv 2) (by intro _; rfl))
        (pss_cons (ps_asg (pe_bm0 PySem.F.plainAttrs_list PySem.F.slot_list_pop PySem.F.type_list_pop mt_pop (pv 2)) (pg_tup rfl (pgs_cons (pg_name (i := 4) nd rfl (.inr rfl)) (pgs_cons (pg_name (i := 3) nd rfl (.inl rfl)) pgs_nil))))
        (pss_cons (ps_expr (pe_bm PySem.F.plainAttrs_list PySem.F.slot_list_append PySem.F.type_list_append mt_append (pv 1) (pa_cons (pe_tup (pa_cons (pv 4) (pa_cons (pv 3) pa_nil))) pa_nil)))
        (pss_one (ps_for (passes_of rfl) rfl (pi_reversed (by rfl) (b_reversed T) (pa_cons (pe_methT (blT_at T) hr1 (passW (takes_of rfl rfl rfl rfl) fun _ _ _ _ z => z) (pv 3)) pa_nil)) (pg_name (i := 5) nd rfl (Or.inl rfl))
          (pss_one (ps_expr (pe_bm PySem.F.plainAttrs_list PySem.F.slot_list_extend PySem.F.type_list_extend mt_extend (pv 2) (pa_cons (pe_lc (own := [("nested", 6)]) (g := gName 6) (tt := tYes) rfl nd (pi_reversed (by rfl) (b_reversed T) (pa_cons (pv 5) pa_nil)) (blkOk_by (N := n_list_statements) (sc := defScope s_list_statements) (by decide +kernel)) (fun _ _ _ _ _ => pg_name (i := 6) nd rfl (Or.inl rfl)) (fun _ _ _ _ _ => pts_nil) (fun _ _ _ _ _ => pe_tup (pa_cons (pe_op op_add (pv 4) pe_int) (pa_cons (pv 6) pa_nil)))) pa_nil)))))))))
      (pss_one (ps_ret (pv 1))))), ?_⟩
    obtain ⟨ba, xs, rfl, hba, hxs⟩ := hb
    have A0 : At0 H G H G := At0.refl g
    have hss : ss.length ≤ 1000000 := by
      have := fls_len (ss.map fun s => (1, s))
      rw [fls_map, List.length_map] at this
      omega
    refine ⟨by show 0 ≤ sizeLine; decide, fun l1 nl1 => ?_⟩
    have A1 := A0.new (o := .lst []) nl1
    have o1 : Own (upd H l1 (.lst [])) G l1 [] := Own.new g nl1
    refine ⟨_, rfl, ba, xs, rfl, SqL.of (A1.g _ _ hba), fun l2 nl2 => ?_⟩
    refine lc_rev (EPv K (upd H l1 (.lst [])) G l2 1 ss) (EPv.start A1.g nl2) (fun i H' hi z => by obtain ⟨G', acc, A', _⟩ := z; exact SqL.of (A'.g _ _ (A'.ex.le _ _ hba))) (fun i x H' hx z => ?_) (fun H' z => ?_)
    · exact ⟨rfl, ⟨_, rfl, by show 2 ≤ sizeLine; decide, fun t nt => EPv.step z nl2 hxs.paired hss hx nt⟩⟩
    have z2 : H l2 = none := A1.free nl2
    obtain ⟨G', acc, A', o2, pE⟩ := z
    have lxs := hxs.len
    rw [lxs, List.take_of_length_le (by simp)] at pE
    refine ⟨fun m σ H' => ∃ (G' : Hp) (dn : List (Nat × St)) (fv : List V) (pend : List (Nat × St)) (wv : List V) (x3 x4 x5 x6 : Option V), m = (flats 1 ss).length - dn.length ∧ σ = [some (.ref ba), some (.ref l1), some (.ref l2), x3, x4, x5, x6] ∧ At0 H G H' G' ∧ Own H' G' l1 fv ∧ Own H' G' l2 wv ∧ Paired (EnR K G') fv dn ∧ Paired (EnR K G') wv pend ∧ dn ++ fls pend.reverse = flats 1 ss,
      ⟨_, G', [], [], _, acc, none, none, none, none, rfl, rfl, ⟨A1.sb.trans A'.sb, A1.ex.trans0 A'.ex A1.sb, A'.g⟩, o1.step A'.sb A'.ex, o2, .nil, pE, by rw [List.reverse_reverse, fls_map]; rfl⟩, ?_⟩
    rintro m σ H2 ⟨G2, dn, fv, pend, wv, x3, x4, x5, x6, rfl, rfl, A2, p1, p2, pF, pW, ee⟩
    have n12 : l1 ≠ l2 := ne_of_none (show upd H l1 (.lst []) l1 = some (.lst []) from upd_same) nl2
    rcases List.eq_nil_or_concat pend with hpe | ⟨pend', en, hpe⟩
    · subst hpe
      cases pW
      refine ⟨_, rfl, false, .inl ⟨[], SqL.of p2.at_, rfl⟩, iteF ?_⟩
      have e2 : dn = flats 1 ss := by rw [← ee]; simp [fls]
      subst e2
      exact ⟨_, rfl, q.retA (A2.fin p1 nl1) ⟨l1, fv, rfl, upd_same, pmono (fun _ _ => EnR.mono p1.le) pF⟩⟩
    · obtain ⟨d, s⟩ := en
      subst hpe
      obtain ⟨wv', v, rfl, pW', hv⟩ := paired_last (ts := pend') (t := (d, s)) (by simpa using pW)
      obtain ⟨t, sv, rfl, ht, hsv⟩ := hv
      have e2 : dn ++ ((d, s) :: ((s.blocks.flatMap fun b => flats (d + 1) b) ++ fls pend'.reverse)) = flats 1 ss := by
        rw [← ee]
        simp only [List.concat_eq_append, List.reverse_append, List.reverse_cons, List.reverse_nil, List.nil_append, List.singleton_append]
        show _ = dn ++ (flat d s ++ fls pend'.reverse)
        rw [flat_blocks]
        rfl
      have len2 : dn.length + (1 + ((s.blocks.flatMap fun b => flats (d + 1) b).length + (fls pend'.reverse).length)) = (flats 1 ss).length := by
        rw [← e2]; simp only [List.length_append, List.length_cons]; omega
      have lF := Paired.length pF
      have lW := Paired.length pW'
      have lp := fls_len pend'.reverse
      rw [List.length_reverse] at lp
      refine ⟨_, rfl, true, .inl ⟨_, SqL.of p2.at_, by cases wv' <;> rfl⟩, iteT ⟨_, fun _ _ z => z, ?_⟩⟩
      have A3 := A2.put (o := .lst wv') p2 z2
      have p1' := p1.put (o := .lst wv') n12
      have p2' := p2.set (ws := wv')
      refine ⟨_, rfl, .inl ⟨rfl, _, SqL.of p2.at_⟩, l2, _, .ref t, rfl, rfl, p2.at_, get_last _ _, ?_⟩
      rw [drop_last]
      refine ⟨t, [.int (d : Int), .ref sv], rfl, SqT.of (A3.g _ _ ht), rfl, _, _, rfl, _, _, rfl, rfl, ?_⟩
      refine ⟨_, rfl, .inl ⟨rfl, _, SqL.of p1'.at_⟩, _, rfl, _, rfl, by show 2 ≤ sizeLine; decide, fun tt ntt => ?_⟩
      have A4 := A3.newR (o := .tup [.int (d : Int), .ref sv]) ntt (same_upd ntt) upd_same
      have q1 := p1'.newR (o := .tup [.int (d : Int), .ref sv]) ntt (same_upd (o := .tup [.int (d : Int), .ref sv]) ntt)
      have q2 := p2'.newR (o := .tup [.int (d : Int), .ref sv]) ntt (same_upd (o := .tup [.int (d : Int), .ref sv]) ntt)
      have gg := newG (o := .tup [.int (d : Int), .ref sv]) A3.g ntt
      refine ⟨l1, fv, .ref tt, rfl, rfl, q1.at_, Nat.lt_of_le_of_lt (show fv.length ≤ 1000000 by omega) (by decide), ?_⟩
      have A5 := A4.put (o := .lst (fv ++ [.ref tt])) q1 nl1
      have q1' := q1.set (ws := fv ++ [.ref tt])
      have q2' := q2.put (o := .lst (fv ++ [.ref tt])) (Ne.symm n12)
      obtain ⟨C, cdx, cfs, sp, bvs, hC, hlk, hB, pB, hb2, hsp⟩ := (hsv.mono gg).blocks
      refine ⟨_, rfl, sv, C, cdx, cfs, sp, rfl, A5.g _ _ hC, hlk, hB, hsp _ _ _ A5.g fun bl nbl => ?_⟩
      have A6 := A5.newR (o := .lst bvs) nbl (same_upd nbl) upd_same
      have q1'' := q1'.newR (o := .lst bvs) nbl (same_upd (o := .lst bvs) nbl)
      have q2'' := q2'.newR (o := .lst bvs) nbl (same_upd (o := .lst bvs) nbl)
      have gb := newG (o := .lst bvs) A5.g nbl
      have pF' := paired_snoc (pmono (fun _ _ => EnR.mono (gg.trans gb)) pF) (show EnR K _ (.ref tt) (d, s) from ⟨tt, sv, rfl, gb _ _ upd_same, hsv.mono (gg.trans gb)⟩)
      have lB := Paired.length pB
      refine ⟨bl, bvs, rfl, SqL.of upd_same, for_rev (fun i σ H' => ∃ (G' : Hp) (wv : List V) (pend : List (Nat × St)) (x5 x6 : Option V), σ = [some (.ref ba), some (.ref l1), some (.ref l2), some (.ref sv), some (.int (d : Int)), x5, x6] ∧ At0 H G H' G' ∧ Own H' G' l1 (fv ++ [.ref tt]) ∧ Own H' G' l2 wv ∧ Paired (EnR K G') (fv ++ [.ref tt]) (dn ++ [(d, s)]) ∧ Paired (EnR K G') wv pend ∧ G' bl = some (.lst bvs) ∧ Paired (BlkR K G') bvs s.blocks ∧ wv.length ≤ 1000000 * (i + 1) ∧ fls pend.reverse = ((s.blocks.reverse.take i).reverse.flatMap fun b => flats (d + 1) b) ++ fls pend'.reverse)
        ⟨_, wv', pend', x5, x6, rfl, A6, q1'', q2'', pF', pmono (fun _ _ => EnR.mono (gg.trans gb)) pW', upd_same, pmono (fun _ _ => BlkR.mono gb) pB, by omega, rfl⟩ (fun i σ H' hi z => by
          obtain ⟨G', wv, pend, x5, x6, rfl, A', a1, a2, a3, a4, a5, a6, a7, a8⟩ := z
          exact SqL.of (A'.g _ _ a5)) (fun i x σ H' hx z => ?_) (fun σ H' z => ?_)⟩
      · obtain ⟨G', wv, pend, x5, x6, rfl, A', a1, a2, a3, a4, a5, a6, a7, a8⟩ := z
        obtain ⟨bb, hbb, xa, ys, rfl, hxa, hys⟩ := paired_getV (paired_rev a6) hx
        have hi : i < 2 := by
          have := (List.getElem?_eq_some_iff.mp hx).1
          rw [List.length_reverse] at this
          omega
        have htk : (s.blocks.reverse.take (i + 1)).reverse = bb :: (s.blocks.reverse.take i).reverse := by
          rw [List.take_add_one, hbb, List.reverse_append]; rfl
        have hfl : (flats (d + 1) bb).length ≤ 1000000 := by
          have h1 := take_rev_len (f := fun b => flats (d + 1) b) s.blocks (i + 1)
          rw [htk, List.flatMap_cons, List.length_append] at h1
          omega
        have hbl : bb.length ≤ 1000000 := by
          have h1 := fls_len (bb.map fun s => (d + 1, s))
          rw [fls_map, List.length_map] at h1
          omega
        refine ⟨_, rfl, .inl ⟨rfl, _, SqL.of a2.at_⟩, _, rfl, xa, ys, rfl, SqL.of (A'.g _ _ hxa), fun D nD => ?_⟩
        refine lc_rev (EPv K H' G' D (d + 1) bb) (EPv.start A'.g nD) (fun i H' hi z => by obtain ⟨G', acc, A', _⟩ := z; exact SqL.of (A'.g _ _ (A'.ex.le _ _ hxa))) (fun j x H3 hx z => ?_) (fun H3 z => ?_)
        · exact ⟨rfl, ⟨_, rfl, _, _, rfl, rfl, _, rfl, by show 2 ≤ sizeLine; decide, fun t nt => EPv.step z nD hys.paired hbl hx nt⟩⟩
        · obtain ⟨G3, acc, A3', o3, pE3⟩ := z
          rw [hys.len, List.take_of_length_le (by simp)] at pE3
          have zD : H D = none := A'.free nD
          have lE := Paired.length pE3
          rw [List.length_reverse, List.length_map] at lE
          have a2' := a2.step A3'.sb A3'.ex
          refine ⟨l2, D, wv, acc, rfl, rfl, a2'.at_, o3.at_, szM (by omega), ?_⟩
          have A7 : At0 H G H3 G3 := ⟨A'.sb.trans A3'.sb, A'.ex.trans0 A3'.ex A'.sb, A3'.g⟩
          refine ⟨G3, wv ++ acc, pend ++ (bb.map fun s => (d + 1, s)).reverse, _, _, rfl, A7.put a2' z2, (a1.step A3'.sb A3'.ex).put n12, a2'.set, pmono (fun _ _ => EnR.mono A3'.ex.le) a3, paired_app (pmono (fun _ _ => EnR.mono A3'.ex.le) a4) pE3, A3'.ex.le _ _ a5, pmono (fun _ _ => BlkR.mono A3'.ex.le) a6, ?_, ?_⟩
          · rw [List.length_append]; omega
          · rw [List.reverse_append, List.reverse_reverse, fls_app, fls_map, a8, htk, List.flatMap_cons, List.append_assoc]
      · obtain ⟨G', wv, pend, x5, x6, rfl, A', a1, a2, a3, a4, a5, a6, a7, a8⟩ := z
        rw [lB, List.take_of_length_le (by simp), List.reverse_reverse] at a8
        refine ⟨(flats 1 ss).length - (dn ++ [(d, s)]).length, ?_, G', dn ++ [(d, s)], _, pend, wv, _, _, x5, x6, rfl, rfl, A', a1, a2, a3, a4, ?_⟩
        · rw [List.length_append]; show _ - (dn.length + 1) < _; omega
        · rw [a8, ← e2, List.append_assoc]; rfl
end
end Fs
-- FsX1
set_option Elab.async false
set_option linter.all false
set_option maxRecDepth 100000
set_option maxHeartbeats 8000000
namespace Fs
open PySem PySem.Spec PyProof.Rows L2
section
variable {X : Cx}
/-- name = {k: v for ..} on one line, the name a local -/
theorem ps_setDc {i : Nat} {y : Str} {py : Pos} {kx vx tg iter : Expr} {ifs : List Expr} {scope : Scope} {own : List (Str × Nat)} {pos spos : Pos} {wi : TI} {g : TG} {tt : TT} {tk tv : TE} (hc : X.calm = true) (hN : X.N.Nodup) (hy : X.N[i]? = some y) (hyl : X.env.scope.names.lookup y = some .local)
    (hsw : swapsWith (.DictComp kx vx [⟨tg, iter, ifs, 0⟩] scope pos) (some (.Name y py)) spos.line X.env = pure true) (hi : PI X tg iter wi) (ok : BlkOk X.N X.env.scope scope own)
    (hg : ∀ (s : Shared) (H : Hp) (C : Addr) (cl : List (Str × Addr)) (fp : List Addr), PG (X.blk s H scope (compEnvC scope cl C X.env) fp) tg g) (ht : ∀ (s : Shared) (H : Hp) (C : Addr) (cl : List (Str × Addr)) (fp : List Addr), PTs (X.blk s H scope (compEnvC scope cl C X.env) fp) ifs tt)
    (hk : ∀ (s : Shared) (H : Hp) (C : Addr) (cl : List (Str × Addr)) (fp : List Addr), PE (X.blk s H scope (compEnvC scope cl C X.env) fp) kx tk)
    (he : ∀ (s : Shared) (H : Hp) (C : Addr) (cl : List (Str × Addr)) (fp : List Addr), PE (X.blk s H scope (compEnvC scope cl C X.env) fp) vx tv) (hs : ∀ x, foldedSetIterable iter X.env x = pure x := by intro _; rfl) :
    PS X (.Assign [.Name y py] (.DictComp kx vx [⟨tg, iter, ifs, 0⟩] scope pos) spos) (tAsg (tDc wi g tt tk tv (own.map (·.2))) (gName i)) := by
  refine ⟨fun pins s σ H D I h => ?_⟩
  rw [exec_Assign_Name_used _ _ _ _ hsw]
  refine wpAny_bind (wpAny_standAt (wpAny_bind ?_))
  show wpAny _ X.A (do let _ ← comprehension (.DictComp kx vx [⟨tg, iter, ifs, 0⟩] scope pos) scope X.env (firstIterPos [⟨tg, iter, ifs, 0⟩] pos) newDict false (eval iter X.env) (some (assign (.Name y py) X.env))) _ _ s
  have h : tDc wi g tt tk tv (own.map (·.2)) σ H (fun x H1 => gName i x σ H1 D.nx) := h
  refine wpAny_bind (thn (dc_core (Qf := fun _ s' => SP X pins D .next s') hc hN I hi ok hg ht hk he hs h fun L C s' m H' I' q hn f => ?_) fun _ s' hq => wpAny_pure (wpAny_pure hq))
  show wpAny _ _ (assign (.Name y py) X.env (.ref L)) _ _ _
  refine wpAny_assign_Name (store_ok2 (v := V.ref L) I' hN hy (.inl hyl) rfl (fun s2 I2 ⟨a, sb, ha⟩ => ?_) (.inr hyl))
  obtain ⟨f0, f1, f2, f3, f4, f5⟩ := f
  have haC : C ≠ a := by
    rcases ha with z | z
    · rw [z]; exact f1
    · exact fun e => f4 y a z e.symm
  refine ⟨m, hn.sameBut sb haC, fun h3 sb3 => ?_⟩
  exact ⟨_, H', I2.turned (t' := s2.toks) (fun b o hb e => (sb3.2 b hb).trans e) f0 f1 f3 f4 f5, q⟩
theorem sw_trueD {kx vx : Expr} {gs : List Comprehension} {scope : Scope} {pos py : Pos} {y : Str} {l : Nat} {env : Env} (hk : env.scope.kind = .function) (hy : env.scope.names.lookup y = some .local) (hl : (py.line == pos.line) = true)
    (ha : (scope.names.any fun (n, k) => n == y && (k == .local || k == .cell)) = false) : swapsWith (.DictComp kx vx gs scope pos) (some (.Name y py)) l env = pure true := by
  have ky : env.kindOf y = some .local := hy
  have hb : env.blockKind = .function := by unfold Env.blockKind; rw [hk]; rfl
  unfold swapsWith
  simp only [hb, ky, ha, Expr.pos, hl]
  rfl
end
/-! ## the checks -/
/-- a dict whose keys are the texts xs -/
structure KeysD (kvs : List (Key × V)) (xs : List Str) : Prop where
  has : ∀ x, (valV kvs (.inr x)).isSome = xs.contains x
  le : kvs.length ≤ xs.length
theorem KeysD.nil : KeysD [] [] := ⟨fun x => rfl, Nat.le_refl _⟩
theorem KeysD.put {kvs : List (Key × V)} {xs : List Str} (z : KeysD kvs xs) (x : Str) (v : V) : KeysD (putK kvs (.inr x) v) (xs ++ [x]) := by
  refine ⟨fun y => ?_, ?_⟩
  · rw [valV_put]
    by_cases e : (Sum.inr y : Key) = .inr x
    · rw [if_pos e]
      cases e
      simp
    · rw [if_neg e, z.has y]
      have : y ≠ x := fun h => e (by rw [h])
      simp [this]
  · have := length_putK kvs (.inr x) v
    have := z.le
    rw [List.length_append]
    show _ ≤ xs.length + 1
    omega
section
variable {P : Program} {w : World} {K : PySem.W.Frag} {mg : Str → Option Value} {base h : Heap}
variable {l p : Addr} {H0 G0 H G H' G' : Hp} {vs ws : List V} {o : HO}
def spFail (K : PySem.W.Frag) : Sp := fun vs H Q E => ∃ (G : Hp) (r : Str) (v : V) (t : Tok), vs = [.str r, v] ∧ Same G H ∧ TokR K G v t ∧ r.length ≤ 100 ∧ Err0 K H E (.chk r t.line t.col)
theorem p_fail (T : Txt K w mg h) : Prom P w K mg base "fail" 3 (spFail K) := by
  obtain ⟨fd, F⟩ := f_fail T
  refine ⟨_, fd, ["reason", "token"], g_fail T, F.kp, F.bindsN fun _ _ _ _ _ _ us hl => match us, hl with | [_, _], _ => rfl, ?_⟩
  refine F.ok sc_fail (fun vs H Q E h => ?_) (fun cdv A outer s H vs Q E hr h => ?_)
  · obtain ⟨G, r, v, t, rfl, _⟩ := h
    rfl
  · obtain ⟨G, r, v, t, rfl, g, ht, hr', q⟩ := h
    refine ⟨_, pss_one (ps_raise rfl (takes_of rfl rfl rfl rfl) (pmk_chk T hr (passW (takes_of rfl rfl rfl rfl) fun _ _ _ _ z => z.elim) (mo_cons me_var (mo_cons (me_fld me_var) (mo_cons (me_fld me_var) mo_nil))) (pa_cons (pv 0) (pa_cons (pe_fld (pv 1) rfl) (pa_cons (pe_fld (pv 1) rfl) pa_nil))))), ?_⟩
    obtain ⟨a, dx, rfl, e2, lt1, lt2⟩ := ht
    exact ⟨_, rfl, _, rfl, a, _, dx, _, _, rfl, g _ _ e2, c_Token T, na_Token_line T, (by kernel_rfl), _, rfl, a, _, dx, _, _, rfl, g _ _ e2, c_Token T, na_Token_column T, (by kernel_rfl), _, whoChk_of hr' lt1 lt2, q⟩
end
end Fs
-- FsX2
set_option Elab.async false
set_option linter.all false
set_option maxRecDepth 100000
set_option maxHeartbeats 8000000
namespace Fs
open PySem PySem.Spec PyProof.Rows L2
section
variable {P : Program} {w : World} {K : PySem.W.Frag} {mg : Str → Option Value} {base h : Heap}
variable {l p : Addr} {H0 G0 H G H' G' : Hp} {vs ws : List V} {o : HO}
/-- a dict that counts what came -/
structure CntD (H G : Hp) (d : Addr) (seen : List Str) : Prop where
  ex : ∃ kvs, H d = some (.dK kvs) ∧ KeysD kvs seen ∧ kvs.length = seen.length
  nG : G d = none
def spHW (K : PySem.W.Frag) : Sp := fun vs H Q E => ∃ (G : Hp) (v : V) (t : Tok) (d : Addr) (seen : List Str) (most : Nat) (why : Str), vs = [v, .ref d, .int (most : Int), .str why] ∧ Same G H ∧ TokR K G v t ∧ CntD H G d seen ∧ seen.length ≤ most ∧ most ≤ 1000 ∧ why.length ≤ 100 ∧
  match chk1 t seen most why with
  | .error e => Err0 K H E e
  | .ok seen' => ∀ kvs, CntD (upd H d (.dK kvs)) G d seen' → Q .non (upd H d (.dK kvs))
theorem p_hw (T : Txt K w mg h) : Prom P w K mg base "check_header_word" 4 (spHW K) := by
  obtain ⟨fd, F⟩ := f_check_header_word T
  refine ⟨_, fd, ["token", "earlier", "most", "reason"], g_check_header_word T, F.kp, F.bindsN fun _ _ _ _ _ _ us hl => match us, hl with | [_, _, _, _], _ => rfl, ?_⟩
  refine F.ok sc_check_header_word (fun vs H Q E h => ?_) (fun cdv A outer s H vs Q E hr h => ?_)
  · obtain ⟨G, v, t, d, seen, most, why, rfl, _⟩ := h
    rfl
  · obtain ⟨G, v, t, d, seen, most, why, rfl, g, ht, cd, hm, hm2, hwl, q⟩ := h
    have hu := hu_of hr
    refine ⟨_, pss_cons (ps_if (pt_cmpR op_eq (pe_callB call_lenD (by rfl) (b_len T) boot_len (pa_cons (pv 1) pa_nil)) (pv 2) (nomark _)) (pss_one (ps_expr (pe_p (p_fail T) hr (passW (takes_of rfl rfl rfl rfl) fun _ _ _ _ z => z) (pa_cons (pv 3) (pa_cons (pv 0) pa_nil))))) pss_nil)
      (pss_cons (ps_if (pt_cmp (pc_din hu (pe_fld (pv 0) rfl) (pv 1))) (pss_one (ps_expr (pe_p (p_fail T) hr (passW (takes_of rfl rfl rfl rfl) fun _ _ _ _ z => z) (pa_cons pe_str (pa_cons (pv 0) pa_nil))))) pss_nil)
      (pss_one (ps_dput hu (pv 1) (pe_fld (pv 0) rfl) pe_bl rfl))), ?_⟩
    obtain ⟨kvs, hd, kd, hl⟩ := cd.ex
    refine ⟨_, rfl, d, kvs, rfl, hd, _, rfl, rfl, _, rfl, ?_⟩
    unfold chk1 at q
    by_cases e : seen.length = most
    · rw [if_pos e] at q
      rw [show decide (V.int (kvs.length : Int) = V.int (most : Int)) = true from decide_eq_true (by rw [hl, e])]
      exact iteT ⟨_, rfl, _, rfl, G, why, v, t, rfl, g, ht, hwl, q⟩
    · rw [if_neg e] at q
      rw [show decide (V.int (kvs.length : Int) = V.int (most : Int)) = false from decide_eq_false fun z => e (by have := V.int.inj z; omega)]
      obtain ⟨a, dx, rfl, e2, lt1, lt2⟩ := id ht
      refine iteF ⟨_, rfl, a, _, dx, _, .str t.text, rfl, g _ _ e2, c_Token T, na_Token_text T, (by kernel_rfl), _, rfl, d, _, rfl, DGet.k (k := Sum.inr t.text) hd, _, rfl, ?_⟩
      rw [kd.has]
      cases ec : seen.contains t.text with
      | true =>
        rw [ec, if_pos rfl] at q
        exact iteT ⟨_, rfl, G, _, _, t, rfl, g, ht, (by decide), q⟩
      | false =>
        rw [ec, if_neg (by decide)] at q
        refine iteF ⟨_, rfl, _, rfl, a, _, dx, _, .str t.text, rfl, g _ _ e2, c_Token T, na_Token_text T, (by kernel_rfl), d, _, rfl, DPut.k (k := Sum.inr t.text) hd (Nat.lt_of_le_of_lt (show kvs.length ≤ 1000 by omega) (by decide)), ?_⟩
        have hv : valV kvs (Sum.inr t.text) = none := by
          have := kd.has t.text
          rw [ec] at this
          simpa using this
        refine q _ ⟨⟨_, upd_same, kd.put _ _, ?_⟩, cd.nG⟩
        rw [putK_new _ hv, List.length_append, List.length_append, hl]
        rfl
end
end Fs
-- FsX3
set_option Elab.async false
set_option linter.all false
set_option maxRecDepth 100000
set_option maxHeartbeats 8000000
namespace Fs
open PySem PySem.Spec PyProof.Rows L2
theorem chk1_ok {t : Tok} {seen : List Str} {most : Nat} {why : Str} {s : List Str} (h : chk1 t seen most why = .ok s) (hm : seen.length ≤ most) : s.length ≤ most := by
  unfold chk1 at h
  by_cases e : seen.length = most
  · rw [if_pos e] at h; cases h
  · rw [if_neg e] at h
    cases ec : seen.contains t.text with
    | true => rw [ec, if_pos rfl] at h; cases h
    | false =>
      rw [ec, if_neg (by decide)] at h
      cases h
      rw [List.length_append]
      show seen.length + 1 ≤ most
      omega
section
variable {P : Program} {w : World} {K : PySem.W.Frag} {mg : Str → Option Value} {base h : Heap}
variable {l p : Addr} {H0 G0 H G H' G' : Hp} {vs ws : List V} {o : HO}
theorem CntD.put {d : Addr} {seen : List Str} (z : CntD H G d seen) {p : Addr} (n : d ≠ p) : CntD (upd H p o) G d seen := by
  obtain ⟨⟨kvs, h1, h2, h3⟩, h4⟩ := z
  exact ⟨⟨kvs, by rw [upd_ne n]; exact h1, h2, h3⟩, h4⟩
theorem At0.putD (a : At0 H0 G0 H G) {d : Addr} (hG : G d = none) (n : H0 d = none) : At0 H0 G0 (upd H d o) G := ⟨fun b u e => by rw [upd_ne (ne_of_none e n)]; exact a.sb b u e, a.ex, same_mut a.g hG⟩
def spHeads (K : PySem.W.Frag) : Sp := fun vs H Q E => ∃ (G : Hp) (fl : Addr) (us : List V) (fs : List Fn), vs = [.ref fl] ∧ Same G H ∧ G fl = some (.lst us) ∧ Paired (FnR K G) us fs ∧ Post0 K H G (fun _ v _ => v = .non) Q E (chkHeads [] fs)
theorem p_heads (T : Txt K w mg h) : Prom P w K mg base "check_headers" 5 (spHeads K) := by
  obtain ⟨fd, F⟩ := f_check_headers T
  refine ⟨_, fd, ["functions"], g_check_headers T, F.kp, F.bindsN fun _ _ _ _ _ _ us hl => match us, hl with | [_], _ => rfl, ?_⟩
  refine F.ok sc_check_headers (fun vs H Q E h => ?_) (fun cdv A outer s H vs Q E hr h => ?_)
  · obtain ⟨G, fl, us, fs, rfl, _⟩ := h
    rfl
  · obtain ⟨G, fl, us, fs, rfl, g, hfl, pf, q⟩ := h
    have nd := sc_check_headers.nd
    obtain ⟨t1, g1⟩ := v_MOST_FUNCTIONS T
    obtain ⟨t2, g2⟩ := v_MOST_PARAMETERS T
    refine ⟨_, pss_cons (ps_set (i := 1) nd rfl (.inl rfl) pe_dnewK)
      (pss_one (ps_for (passes_of rfl) rfl (pi_list (pv 0)) (pg_name (i := 2) nd rfl (.inl rfl))
        (pss_cons (ps_expr (pe_p (p_hw T) hr (passW (takes_of rfl rfl rfl rfl) fun _ _ _ _ z => z) (pa_cons (pe_fld (pv 2) rfl) (pa_cons (pv 1) (pa_cons (pe_glob (v := .int 12) rfl g1 ⟨_, rfl⟩) (pa_cons pe_str pa_nil))))))
        (pss_cons (ps_set (i := 3) nd rfl (.inl rfl) pe_dnewK)
        (pss_one (ps_for (passes_of rfl) rfl (pi_list (pe_fld (pv 2) rfl)) (pg_name (i := 4) nd rfl (.inl rfl))
          (pss_one (ps_expr (pe_p (p_hw T) hr (passW (takes_of rfl rfl rfl rfl) fun _ _ _ _ z => z) (pa_cons (pv 4) (pa_cons (pv 3) (pa_cons (pe_glob (v := .int 4) rfl g2 ⟨_, rfl⟩) (pa_cons pe_str pa_nil))))))))))))), ?_⟩
    intro d nd'
    have A0 : At0 H G H G := At0.refl g
    refine ⟨_, rfl, fl, rfl, ⟨_, SqL.of ((A0.new (o := .dK []) nd').g _ _ hfl)⟩, ?_⟩
    refine for_list (xs := us) (fun i σ H' => ∃ (seen : List Str) (x2 x3 x4 : Option V), σ = [some (.ref fl), some (.ref d), x2, x3, x4] ∧ At0 H G H' G ∧ CntD H' G d seen ∧ seen.length ≤ 12 ∧ Post0 K H G (fun _ v _ => v = .non) Q E (chkHeads seen (fs.drop i)))
      ⟨[], none, none, none, rfl, A0.new nd', ⟨⟨[], upd_same, KeysD.nil, rfl⟩, nf g nd'⟩, by decide, q⟩ (fun i σ H' _ z => by
        obtain ⟨seen, x2, x3, x4, _, A', _⟩ := z
        exact SqL.of (A'.g _ _ hfl)) (fun i x σ H' hx z => ?_) (fun σ H' z => ?_)
    · obtain ⟨seen, x2, x3, x4, rfl, A', cd, hs, q'⟩ := z
      obtain ⟨f, hf, a, dx, n, pp, b, rfl, ha, hn, hp, hb⟩ := paired_getV pf hx
      have hlt : i < fs.length := (List.getElem?_eq_some_iff.mp hf).1
      have hd : fs.drop i = f :: fs.drop (i + 1) := by
        rw [List.drop_eq_getElem_cons hlt]
        congr 1
        exact (List.getElem?_eq_some_iff.mp hf).2
      rw [hd] at q'
      unfold chkHeads at q'
      refine ⟨_, rfl, a, _, dx, _, n, rfl, A'.g _ _ ha, c_Function T, na_Function_name T, (by kernel_rfl), _, rfl, ?_⟩
      refine ⟨G, n, f.name, d, seen, 12, "functions", rfl, A'.g, hn, cd, hs, by decide, by decide, ?_⟩
      cases e1 : chk1 f.name seen 12 "functions" with
      | error er =>
        rw [e1] at q'
        exact Err0.later q' A'.sb
      | ok seen2 =>
        rw [e1] at q'
        have hs2 := chk1_ok e1 hs
        have q2 : Post0 K H G (fun _ v _ => v = .non) Q E (chkAll 4 "parameters" [] f.pars >>= fun _ => chkHeads seen2 (fs.drop (i + 1))) := q'
        intro kvs cd2
        have zd : H d = none := nd'
        have A2 := A'.putD (o := .dK kvs) cd.nG zd
        intro d2 nd2
        have A3 := A2.new (o := .dK []) nd2
        have nd12 : d ≠ d2 := by
          obtain ⟨⟨kk, h1, _⟩, _⟩ := cd2
          exact ne_of_none h1 nd2
        have zd2 : H d2 = none := A2.free nd2
        obtain ⟨pa, pvs, rfl, hpa, ppv⟩ := hp
        refine ⟨_, rfl, a, _, dx, _, .ref pa, rfl, A3.g _ _ ha, c_Function T, na_Function_parameters T, (by kernel_rfl), pa, rfl, ⟨_, SqL.of (A3.g _ _ hpa)⟩, ?_⟩
        refine for_list (xs := pvs) (fun j σ H' => ∃ (s2 : List Str) (x4 : Option V), σ = [some (.ref fl), some (.ref d), some (.ref a), some (.ref d2), x4] ∧ At0 H G H' G ∧ CntD H' G d seen2 ∧ CntD H' G d2 s2 ∧ s2.length ≤ 4 ∧ Post0 K H G (fun _ v _ => v = .non) Q E (chkAll 4 "parameters" s2 (f.pars.drop j) >>= fun _ => chkHeads seen2 (fs.drop (i + 1))))
          ⟨[], x4, rfl, A3, cd2.put nd12, ⟨⟨[], upd_same, KeysD.nil, rfl⟩, nf A2.g nd2⟩, by decide, q2⟩ (fun j σ H' _ z => by
            obtain ⟨s2, x4, _, A', _⟩ := z
            exact SqL.of (A'.g _ _ hpa)) (fun j y σ H' hy z => ?_) (fun σ H' z => ?_)
        · obtain ⟨s2, x4, rfl, A4, c1, c2, hs4, q4⟩ := z
          obtain ⟨t, ht, rt⟩ := paired_getV ppv hy
          have hlt2 : j < f.pars.length := (List.getElem?_eq_some_iff.mp ht).1
          have hd2 : f.pars.drop j = t :: f.pars.drop (j + 1) := by
            rw [List.drop_eq_getElem_cons hlt2]
            congr 1
            exact (List.getElem?_eq_some_iff.mp ht).2
          rw [hd2] at q4
          unfold chkAll at q4
          refine ⟨_, rfl, _, rfl, G, y, t, d2, s2, 4, "parameters", rfl, A4.g, rt, c2, hs4, by decide, by decide, ?_⟩
          cases e2 : chk1 t s2 4 "parameters" with
          | error er =>
            rw [e2] at q4
            exact Err0.later q4 A4.sb
          | ok s3 =>
            rw [e2] at q4
            exact fun kvs c3 => ⟨s3, _, rfl, A4.putD c2.nG zd2, c1.put nd12, c3, chk1_ok e2 hs4, q4⟩
        · obtain ⟨s2, x4, rfl, A4, c1, c2, hs4, q4⟩ := z
          rw [Paired.length ppv, List.drop_length] at q4
          exact ⟨seen2, _, _, _, rfl, A4, c1, hs2, q4⟩
    · obtain ⟨seen, x2, x3, x4, rfl, A', cd, hs, q'⟩ := z
      rw [Paired.length pf, List.drop_length] at q'
      exact Post0.retA (x := ()) q' A' rfl
end
end Fs
-- FsX4
set_option Elab.async false
set_option linter.all false
set_option maxRecDepth 100000
set_option maxHeartbeats 8000000
namespace Fs
open PySem PySem.Spec PyProof.Rows L2
theorem dc_list {K : PySem.W.Frag} {a : Addr} {xs : List V} {g : TG} {tt : TT} {tk tv : TE} {vs : List Nat} {σ : L2.St} {H1 : Hp} {D : Addr} {Qd : Hp → Prop} (Pv : Nat → Hp → Prop) (h0 : Pv 0 (upd H1 D (.dK []))) (hl : ∀ i H, i ≤ xs.length → Pv i H → SqL K H a xs)
    (hs : ∀ i x H, xs[i]? = some x → Pv i H → g x (wipe σ vs) H fun σ2 H2 => wipe σ2 vs = wipe σ vs ∧ tt σ2 H2 fun b H3 =>
      if b = true then tk σ2 H3 fun y H4 => tv σ2 H4 fun z H5 => ∃ kvs k, y = kV k ∧ H5 D = some (.dK kvs) ∧ kvs.length < sizeLine ∧ Pv (i + 1) (upd H5 D (.dK (putK kvs k z))) else Pv (i + 1) H3) (hd : ∀ H, Pv xs.length H → Qd H) :
    ∃ W : Nat → Nat → Hp → Prop, (∃ m, W 0 m (upd H1 D (.dK []))) ∧ ∀ i m H, W i m H →
      ((Itl K a).stop i H ∧ Qd H) ∨ ((Itl K a).go i H ∧ ∃ Nx : Hp → Prop, (∀ H', Nx H' → ∃ m', m' < m ∧ W (i + 1) m' H') ∧ ∀ x H', (Itl K a).yld i H x H' → g x (wipe σ vs) H' fun σ2 H2 => wipe σ2 vs = wipe σ vs ∧ tt σ2 H2 fun b H3 =>
        if b = true then tk σ2 H3 fun y H4 => tv σ2 H4 fun z H5 => ∃ kvs k, y = kV k ∧ H5 D = some (.dK kvs) ∧ kvs.length < sizeLine ∧ Nx (upd H5 D (.dK (putK kvs k z))) else Nx H3) := by
  refine ⟨fun i m H => m = xs.length - i ∧ i ≤ xs.length ∧ Pv i H, ⟨xs.length, by simp, Nat.zero_le _, h0⟩, ?_⟩
  rintro i m H ⟨rfl, hi, p⟩
  have q := hl i H hi p
  by_cases hlt : i < xs.length
  · refine .inr ⟨⟨xs, xs[i], q, by simp [hlt]⟩, Pv (i + 1), fun H' p' => ⟨xs.length - (i + 1), by omega, rfl, hlt, p'⟩, fun x H' y => ?_⟩
    obtain ⟨e, y⟩ := y
    subst e
    exact hs i x _ (y xs q) p
  · have e : i = xs.length := by omega
    subst e
    exact .inl ⟨⟨xs, q, Nat.le_refl _⟩, hd H p⟩
section
variable {P : Program} {w : World} {K : PySem.W.Frag} {mg : Str → Option Value} {base h : Heap}
variable {l p : Addr} {H0 G0 H G H' G' : Hp} {vs ws : List V} {o : HO}
/-! ### assigned(), expressions() -/
def AsR (K : PySem.W.Frag) (G : Hp) (v : V) (t : Option Tok) : Prop := match t with
  | none => v = .non
  | some t => TokR K G v t
def spAs0 : Sp := fun vs H Q _ => ∃ p, vs = [.ref p] ∧ Q .non H
def spAsA (K : PySem.W.Frag) : Sp := fun vs H Q _ => ∃ p dx k' t' e' G t, vs = [.ref p] ∧ Same G H ∧ G p = some (.ins (He.ga K "AssignStatement") dx [("keyword", k'), ("target", t'), ("expression", e')]) ∧ TokR K G t' t ∧ Q (if t.kind = ("word" : Str) then t' else .non) H
def spAsC (K : PySem.W.Frag) : Sp := fun vs H Q _ => ∃ p dx k' t' f' as' s' fb', vs = [.ref p] ∧ H p = some (.ins (He.ga K "CallStatement") dx [("keyword", k'), ("target", t'), ("function", f'), ("arguments", as'), ("share", s'), ("fallback", fb')]) ∧ Q t' H
inductive AsT (K : PySem.W.Frag) : Addr → Sp → Prop where
  | asg : AsT K (He.ga K "AssignStatement") (spAsA K)
  | val : AsT K (He.ga K "ValueStatement") spAs0
  | call : AsT K (He.ga K "CallStatement") (spAsC K)
  | ifs : AsT K (He.ga K "IfStatement") spAs0
  | loop : AsT K (He.ga K "LoopStatement") spAs0
theorem as0_ok {f : Addr} {fd : FuncData} (F : FunD K "assigned" "Statement.assigned" (defArgs s_Statement_assigned) (defBody s_Statement_assigned) (defScope s_Statement_assigned) [] [] f fd) : Binds K fd ["self"] [] ∧ FnOk P w K mg base (L2.CX P w) 1 f fd ["self"] spAs0 := by
  refine ⟨F.bindsN fun _ _ _ _ _ _ us hl => match us, hl with | [_], _ => rfl, F.ok sc_Statement_assigned (fun vs H Q E h => ?_) (fun cdv A outer s H vs Q E hr h => ?_)⟩
  · obtain ⟨p, rfl, _⟩ := h
    rfl
  · obtain ⟨p, rfl, k⟩ := h
    exact ⟨_, pss_one (ps_ret pe_non), k⟩
theorem asT_at (T : Txt K w mg h) : ∀ C sp, AsT K C sp → PromM P w K mg base C "assigned" 1 sp := fun C sp z => by
  cases z with
  | val =>
    obtain ⟨fd, F⟩ := f_ValueStatement_assigned T
    exact ⟨c_ValueStatement T, _, fd, _, me_ValueStatement_assigned T, (as0_ok (P := P) (w := w) (base := base) (mg := mg) F).1, (as0_ok F).2⟩
  | ifs =>
    obtain ⟨fd, F⟩ := f_IfStatement_assigned T
    exact ⟨c_IfStatement T, _, fd, _, me_IfStatement_assigned T, (as0_ok (P := P) (w := w) (base := base) (mg := mg) F).1, (as0_ok F).2⟩
  | loop =>
    obtain ⟨fd, F⟩ := f_LoopStatement_assigned T
    exact ⟨c_LoopStatement T, _, fd, _, me_LoopStatement_assigned T, (as0_ok (P := P) (w := w) (base := base) (mg := mg) F).1, (as0_ok F).2⟩
  | call =>
    obtain ⟨fd, F⟩ := f_CallStatement_assigned T
    refine ⟨c_CallStatement T, _, fd, ["self"], me_CallStatement_assigned T, F.bindsN fun _ _ _ _ _ _ us hl => match us, hl with | [_], _ => rfl, F.ok sc_CallStatement_assigned (fun vs H Q E h => ?_) (fun cdv A outer s H vs Q E hr h => ?_)⟩
    · obtain ⟨p, dx, a, b, c, d, e, f, rfl, _⟩ := h
      rfl
    · obtain ⟨p, dx, a, b, c, d, e, f, rfl, hp, k⟩ := h
      exact ⟨_, pss_one (ps_ret (pe_fld (pv 0) rfl)), _, rfl, p, _, dx, _, b, rfl, hp, c_CallStatement T, na_CallStatement_target T, (by kernel_rfl), k⟩
  | asg =>
    obtain ⟨fd, F⟩ := f_AssignStatement_assigned T
    refine ⟨c_AssignStatement T, _, fd, ["self"], me_AssignStatement_assigned T, F.bindsN fun _ _ _ _ _ _ us hl => match us, hl with | [_], _ => rfl, F.ok sc_AssignStatement_assigned (fun vs H Q E h => ?_) (fun cdv A outer s H vs Q E hr h => ?_)⟩
    · obtain ⟨p, dx, a, b, c, d, e, rfl, _⟩ := h
      rfl
    · obtain ⟨p, dx, a, b, c, G, t, rfl, g, hp, ht, k⟩ := h
      refine ⟨_, pss_one (ps_ret (pe_ifExp (pt_cmpR op_eq (pe_fld (pe_fld (pv 0) rfl) rfl) pe_str (nomark _)) (pe_fld (pv 0) rfl) pe_non)), ?_⟩
      obtain ⟨ta, tdx, rfl, th, _⟩ := ht
      refine ⟨_, rfl, p, _, dx, _, .ref ta, rfl, g _ _ hp, c_AssignStatement T, na_AssignStatement_target T, (by kernel_rfl), ta, _, tdx, _, .str t.kind, rfl, g _ _ th, c_Token T, na_Token_kind T, (by kernel_rfl), rfl, _, rfl, ?_⟩
      by_cases e : t.kind = "word"
      · rw [if_pos e] at k
        rw [show decide (V.str t.kind = V.str "word") = true from decide_eq_true (by rw [e])]
        exact iteT ⟨_, rfl, p, _, dx, _, .ref ta, rfl, g _ _ hp, c_AssignStatement T, na_AssignStatement_target T, (by kernel_rfl), k⟩
      · rw [if_neg e] at k
        rw [show decide (V.str t.kind = V.str "word") = false from decide_eq_false fun z => e (V.str.inj z)]
        exact iteF k
theorem StR.asg {a : Addr} {s : St} (z : StR K G (.ref a) s) : ∃ C dx fs sp, G a = some (.ins C dx fs) ∧ fs.lookup ("assigned" : Str) = none ∧ AsT K C sp ∧
    ∀ H (Q : VK) E, Same G H → (∀ v, AsR K G v s.assigned → Q v H) → sp [.ref a] H Q E := by
  cases s <;> unfold StR at z
  · rename_i kw tg e
    obtain ⟨_, dx, k', t', e', e0, h, h1, h2, h3⟩ := z
    cases e0
    refine ⟨_, dx, _, _, h, (by kernel_rfl), .asg, fun H Q E g k => ⟨_, dx, k', t', e', G, tg, rfl, g, h, h2, k _ ?_⟩⟩
    show AsR K G _ (if tg.kind = ("word" : Str) then some tg else none)
    by_cases e : tg.kind = "word"
    · rw [if_pos e, if_pos e]; exact h2
    · rw [if_neg e, if_neg e]; rfl
  · obtain ⟨_, dx, k', e', e0, h, _⟩ := z
    cases e0
    exact ⟨_, dx, _, _, h, (by kernel_rfl), .val, fun H Q E g k => ⟨_, rfl, k _ rfl⟩⟩
  · obtain ⟨_, dx, k', l', r', f, s, vf, vs, e0, h, h1, h2, h3, h4, h5, h6, h7⟩ := z
    cases e0
    exact ⟨_, dx, _, _, h, (by kernel_rfl), .ifs, fun H Q E g k => ⟨_, rfl, k _ rfl⟩⟩
  · obtain ⟨_, dx, k', e', f, vf, e0, h, h1, h2, h4, h5⟩ := z
    cases e0
    exact ⟨_, dx, _, _, h, (by kernel_rfl), .loop, fun H Q E g k => ⟨_, rfl, k _ rfl⟩⟩
  · obtain ⟨_, dx, k', t', f', as', s', fb', e0, h, h1, h2, _⟩ := z
    cases e0
    exact ⟨_, dx, _, _, h, (by kernel_rfl), .call, fun H Q E g k => ⟨_, dx, k', t', f', as', s', fb', rfl, g _ _ h, k _ h2⟩⟩
/-- expressions() -/
def spEx1 (C : Addr) (n1 : Str) : Sp := fun vs H Q _ => ∃ p dx fs v, vs = [.ref p] ∧ H p = some (.ins C dx fs) ∧ fs.lookup n1 = some v ∧ ∀ l, H l = none → Q (.ref l) (upd H l (.lst [v]))
def spEx2 (C : Addr) (n1 n2 : Str) : Sp := fun vs H Q _ => ∃ p dx fs v v2, vs = [.ref p] ∧ H p = some (.ins C dx fs) ∧ fs.lookup n1 = some v ∧ fs.lookup n2 = some v2 ∧ ∀ l, H l = none → Q (.ref l) (upd H l (.lst [v, v2]))
def spExC (K : PySem.W.Frag) : Sp := fun vs H Q _ => ∃ p dx fs la us v, vs = [.ref p] ∧ H p = some (.ins (He.ga K "CallStatement") dx fs) ∧ fs.lookup ("arguments" : Str) = some (.ref la) ∧ H la = some (.lst us) ∧ fs.lookup ("fallback" : Str) = some v ∧ us.length ≤ 1000000 ∧ ∀ l H', Same H H' → H l = none → H' l = some (.lst (us ++ [v])) → Q (.ref l) H'
inductive ExT (K : PySem.W.Frag) : Addr → Sp → Prop where
  | asg : ExT K (He.ga K "AssignStatement") (spEx1 (He.ga K "AssignStatement") "expression")
  | val : ExT K (He.ga K "ValueStatement") (spEx1 (He.ga K "ValueStatement") "expression")
  | call : ExT K (He.ga K "CallStatement") (spExC K)
  | ifs : ExT K (He.ga K "IfStatement") (spEx2 (He.ga K "IfStatement") "left" "right")
  | loop : ExT K (He.ga K "LoopStatement") (spEx1 (He.ga K "LoopStatement") "times")
theorem exT_at (T : Txt K w mg h) : ∀ C sp, ExT K C sp → PromM P w K mg base C "expressions" 1 sp := fun C sp z => by
  cases z with
  | asg =>
    obtain ⟨fd, F⟩ := f_AssignStatement_expressions T
    refine ⟨c_AssignStatement T, _, fd, ["self"], me_AssignStatement_expressions T, F.bindsN fun _ _ _ _ _ _ us hl => match us, hl with | [_], _ => rfl, F.ok sc_AssignStatement_expressions (fun vs H Q E h => ?_) (fun cdv A outer s H vs Q E hr h => ?_)⟩
    · obtain ⟨p, dx, a, b, rfl, _⟩ := h
      rfl
    · obtain ⟨p, dx, fs, v, rfl, hp, hv, k⟩ := h
      exact ⟨_, pss_one (ps_ret (pe_lst (pa_cons (pe_fld (pv 0) rfl) pa_nil))), _, rfl, p, _, dx, _, v, rfl, hp, c_AssignStatement T, na_AssignStatement_expression T, hv, (by show 1 ≤ sizeLine; decide), fun l hl => k l hl⟩
  | val =>
    obtain ⟨fd, F⟩ := f_ValueStatement_expressions T
    refine ⟨c_ValueStatement T, _, fd, ["self"], me_ValueStatement_expressions T, F.bindsN fun _ _ _ _ _ _ us hl => match us, hl with | [_], _ => rfl, F.ok sc_ValueStatement_expressions (fun vs H Q E h => ?_) (fun cdv A outer s H vs Q E hr h => ?_)⟩
    · obtain ⟨p, dx, a, b, rfl, _⟩ := h
      rfl
    · obtain ⟨p, dx, fs, v, rfl, hp, hv, k⟩ := h
      exact ⟨_, pss_one (ps_ret (pe_lst (pa_cons (pe_fld (pv 0) rfl) pa_nil))), _, rfl, p, _, dx, _, v, rfl, hp, c_ValueStatement T, na_ValueStatement_expression T, hv, (by show 1 ≤ sizeLine; decide), fun l hl => k l hl⟩
  | loop =>
    obtain ⟨fd, F⟩ := f_LoopStatement_expressions T
    refine ⟨c_LoopStatement T, _, fd, ["self"], me_LoopStatement_expressions T, F.bindsN fun _ _ _ _ _ _ us hl => match us, hl with | [_], _ => rfl, F.ok sc_LoopStatement_expressions (fun vs H Q E h => ?_) (fun cdv A outer s H vs Q E hr h => ?_)⟩
    · obtain ⟨p, dx, a, b, rfl, _⟩ := h
      rfl
    · obtain ⟨p, dx, fs, v, rfl, hp, hv, k⟩ := h
      exact ⟨_, pss_one (ps_ret (pe_lst (pa_cons (pe_fld (pv 0) rfl) pa_nil))), _, rfl, p, _, dx, _, v, rfl, hp, c_LoopStatement T, na_LoopStatement_times T, hv, (by show 1 ≤ sizeLine; decide), fun l hl => k l hl⟩
  | ifs =>
    obtain ⟨fd, F⟩ := f_IfStatement_expressions T
    refine ⟨c_IfStatement T, _, fd, ["self"], me_IfStatement_expressions T, F.bindsN fun _ _ _ _ _ _ us hl => match us, hl with | [_], _ => rfl, F.ok sc_IfStatement_expressions (fun vs H Q E h => ?_) (fun cdv A outer s H vs Q E hr h => ?_)⟩
    · obtain ⟨p, dx, a, b, c, rfl, _⟩ := h
      rfl
    · obtain ⟨p, dx, fs, v, v2, rfl, hp, hv, hv2, k⟩ := h
      exact ⟨_, pss_one (ps_ret (pe_lst (pa_cons (pe_fld (pv 0) rfl) (pa_cons (pe_fld (pv 0) rfl) pa_nil)))), _, rfl, p, _, dx, _, v, rfl, hp, c_IfStatement T, na_IfStatement_left T, hv, _, rfl, p, _, dx, _, v2, rfl, hp, c_IfStatement T, na_IfStatement_right T, hv2, (by show 2 ≤ sizeLine; decide), fun l hl => k l hl⟩
  | call =>
    obtain ⟨fd, F⟩ := f_CallStatement_expressions T
    refine ⟨c_CallStatement T, _, fd, ["self"], me_CallStatement_expressions T, F.bindsN fun _ _ _ _ _ _ us hl => match us, hl with | [_], _ => rfl, F.ok sc_CallStatement_expressions (fun vs H Q E h => ?_) (fun cdv A outer s H vs Q E hr h => ?_)⟩
    · obtain ⟨p, dx, a, b, c, d, rfl, _⟩ := h
      rfl
    · obtain ⟨p, dx, fs, la, us, v, rfl, hp, ha, hla, hv, hl, k⟩ := h
      refine ⟨_, pss_one (ps_ret (pe_op op_cat (pe_fld (pv 0) rfl) (pe_lst (pa_cons (pe_fld (pv 0) rfl) pa_nil)))), _, rfl, p, _, dx, _, .ref la, rfl, hp, c_CallStatement T, na_CallStatement_arguments T, ha, _, rfl, p, _, dx, _, v, rfl, hp, c_CallStatement T, na_CallStatement_fallback T, hv, (by show 1 ≤ sizeLine; decide), fun l1 n1 => ?_⟩
      refine ⟨la, l1, us, [v], rfl, rfl, by rw [upd_ne (ne_of_none hla n1)]; exact hla, upd_same, szL (by show us.length + 1 ≤ _; omega), fun l2 n2 => ?_⟩
      exact k l2 _ ((same_upd n1).trans (same_upd n2)) (Same.free (same_upd n1) n2) upd_same
theorem StR.exprs {a : Addr} {s : St} (z : StR K G (.ref a) s) (hz : s.exprs.length ≤ 1000001) : ∃ C dx fs sp, G a = some (.ins C dx fs) ∧ fs.lookup ("expressions" : Str) = none ∧ ExT K C sp ∧
    ∃ us, Paired (ExR K G) us s.exprs ∧ ∀ H (Q : VK) E, Same G H → (∀ l H', Same H H' → H l = none → H' l = some (.lst us) → Q (.ref l) H') → sp [.ref a] H Q E := by
  cases s <;> unfold StR at z
  · obtain ⟨_, dx, k', t', e', e0, h, h1, h2, h3⟩ := z
    cases e0
    exact ⟨_, dx, _, _, h, (by kernel_rfl), .asg, [e'], .cons h3 .nil, fun H Q E g k => ⟨_, dx, _, e', rfl, g _ _ h, (by kernel_rfl), fun l hl => k l _ (same_upd hl) hl upd_same⟩⟩
  · obtain ⟨_, dx, k', e', e0, h, h1, h2⟩ := z
    cases e0
    exact ⟨_, dx, _, _, h, (by kernel_rfl), .val, [e'], .cons h2 .nil, fun H Q E g k => ⟨_, dx, _, e', rfl, g _ _ h, (by kernel_rfl), fun l hl => k l _ (same_upd hl) hl upd_same⟩⟩
  · obtain ⟨_, dx, k', l', r', f, s, vf, vs, e0, h, h1, h2, h3, h4, h5, h6, h7⟩ := z
    cases e0
    exact ⟨_, dx, _, _, h, (by kernel_rfl), .ifs, [l', r'], .cons h2 (.cons h3 .nil), fun H Q E g k => ⟨_, dx, _, l', r', rfl, g _ _ h, (by kernel_rfl), (by kernel_rfl), fun l hl => k l _ (same_upd hl) hl upd_same⟩⟩
  · obtain ⟨_, dx, k', e', f, vf, e0, h, h1, h2, h4, h5⟩ := z
    cases e0
    exact ⟨_, dx, _, _, h, (by kernel_rfl), .loop, [e'], .cons h2 .nil, fun H Q E g k => ⟨_, dx, _, e', rfl, g _ _ h, (by kernel_rfl), fun l hl => k l _ (same_upd hl) hl upd_same⟩⟩
  · rename_i kw tg f args p q fb
    obtain ⟨_, dx, k', t', f', as', s', fb', e0, h, h1, h2, h3, ⟨la, us, rfl, hla, pu⟩, h5, h6⟩ := z
    cases e0
    have lu := Paired.length pu
    have hz' : (args ++ [fb]).length ≤ 1000001 := hz
    rw [List.length_append] at hz'
    have hz2 : args.length + 1 ≤ 1000001 := hz'
    exact ⟨_, dx, _, _, h, (by kernel_rfl), .call, us ++ [fb'], paired_snoc pu h6, fun H Q E g k => ⟨_, dx, _, la, us, fb', rfl, g _ _ h, (by kernel_rfl), g _ _ hla, (by kernel_rfl), by omega, k⟩⟩
end
end Fs
-- FsX5
set_option Elab.async false
set_option linter.all false
set_option maxRecDepth 100000
set_option maxHeartbeats 8000000
namespace Fs
open PySem PySem.Spec PyProof.Rows L2
section
variable {P : Program} {w : World} {K : PySem.W.Frag} {mg : Str → Option Value} {base h : Heap}
variable {l p : Addr} {H0 G0 H G H' G' : Hp} {vs ws : List V} {o : HO}
def asgs (es : List (Nat × St)) : List Str := es.filterMap fun q => q.2.assigned.map (·.text)
def spLoc (K : PySem.W.Frag) : Sp := fun vs H Q E => ∃ (G : Hp) (v sl : V) (f : Fn) (es : List (Nat × St)), vs = [v, sl] ∧ Same G H ∧ FnR K G v f ∧ LstR (EnR K G) G sl es ∧ f.pars.length ≤ 1000000 ∧ es.length ≤ 1000000 ∧
  ∀ d H' kvs, Same H H' → H d = none → H' d = some (.dK kvs) → KeysD kvs (f.pars.map (·.text) ++ asgs es) → Q (.ref d) H'
theorem drop_get {α : Type} {xs : List α} {i : Nat} {x : α} (h : xs[i]? = some x) : xs.drop i = x :: xs.drop (i + 1) := by
  have hlt := (List.getElem?_eq_some_iff.mp h).1
  rw [List.drop_eq_getElem_cons hlt]
  exact congrArg (· :: _) (List.getElem?_eq_some_iff.mp h).2
theorem take_get {α : Type} {xs : List α} {i : Nat} {x : α} (h : xs[i]? = some x) : xs.take (i + 1) = xs.take i ++ [x] := by
  rw [List.take_add_one, h]; rfl
theorem asgs_snoc (es : List (Nat × St)) (e : Nat × St) : asgs (es ++ [e]) = asgs es ++ (e.2.assigned.map (·.text)).toList := by
  unfold asgs
  rw [List.filterMap_append]
  cases h : e.2.assigned <;> simp [h]
theorem p_locals (T : Txt K w mg h) : Prom P w K mg base "list_locals" 2 (spLoc K) := by
  obtain ⟨fd, F⟩ := f_list_locals T
  refine ⟨_, fd, ["function", "statements"], g_list_locals T, F.kp, F.bindsN fun _ _ _ _ _ _ us hl => match us, hl with | [_, _], _ => rfl, ?_⟩
  refine F.ok sc_list_locals (fun vs H Q E h => ?_) (fun cdv A outer s H vs Q E hr h => ?_)
  · obtain ⟨G, v, sl, f, es, rfl, _⟩ := h
    rfl
  · obtain ⟨G, v, sl, f, es, rfl, g, hf, hes, hpl, hel, q⟩ := h
    have nd := sc_list_locals.nd
    have hu := hu_of hr
    refine ⟨_, pss_cons (ps_setDc (i := 2) (own := [("parameter", 3)]) (g := gName 3) (tt := tYes) (tk := tFld K (tVar 3) "text") rfl nd rfl rfl (sw_trueD rfl rfl rfl (by decide +kernel)) (pi_list (pe_fld (pv 0) rfl)) (blkOk_by (N := n_list_locals) (sc := defScope s_list_locals) (by decide +kernel)) (fun _ _ _ _ _ => pg_name (i := 3) nd rfl (Or.inl rfl)) (fun _ _ _ _ _ => pts_nil) (fun _ _ _ _ _ => by exact pe_fld (pv 3) rfl) (fun _ _ _ _ _ => pe_bl))
      (pss_cons (ps_for (passes_of rfl) rfl (pi_list (pv 1)) (pg_tup rfl (pgs_cons (pg_name (i := 4) nd rfl (.inl rfl)) (pgs_cons (pg_name (i := 5) nd rfl (.inl rfl)) pgs_nil)))
        (pss_cons (ps_set (i := 6) nd rfl (.inl rfl) (pe_methT (asT_at T) hr (passW (takes_of rfl rfl rfl rfl) fun _ _ _ _ z => z) (pv 5)))
        (pss_one (ps_if (pt_cmpR op_notN (pv 6) pe_non (nomark _)) (pss_one (ps_dput hu (pv 2) (pe_fld (pv 6) rfl) pe_bl rfl)) pss_nil))))
      (pss_one (ps_ret (pv 2)))), ?_⟩
    obtain ⟨a, dx, n, pp, b, rfl, ha, hn, ⟨pa, pvs, rfl, hpa, ppv⟩, hb⟩ := hf
    obtain ⟨ea, evs, rfl, hea, pev⟩ := hes
    refine ⟨_, rfl, a, _, dx, _, .ref pa, rfl, g _ _ ha, c_Function T, na_Function_parameters T, (by kernel_rfl), pa, rfl, ⟨_, SqL.of (g _ _ hpa)⟩, fun d nd' => ?_⟩
    have A0 : At0 H G H G := At0.refl g
    have gd : G d = none := nf g nd'
    refine dc_list (xs := pvs) (fun i H' => ∃ kvs, At0 H G H' G ∧ H' d = some (.dK kvs) ∧ KeysD kvs ((f.pars.take i).map (·.text))) ⟨[], A0.new nd', upd_same, KeysD.nil⟩ (fun i H' _ z => by
      obtain ⟨kvs, A', _⟩ := z
      exact SqL.of (A'.g _ _ hpa)) (fun i x H' hx z => ?_) (fun H' z => ?_)
    · obtain ⟨kvs, A', h1, h2⟩ := z
      obtain ⟨t, ht, rt⟩ := paired_getV ppv hx
      obtain ⟨ta, tdx, rfl, th, _⟩ := rt
      have hle := h2.le
      rw [List.length_map, List.length_take] at hle
      refine ⟨rfl, _, rfl, ta, _, tdx, _, .str t.text, rfl, A'.g _ _ th, c_Token T, na_Token_text T, (by kernel_rfl), kvs, .inr t.text, rfl, h1, Nat.lt_of_le_of_lt (show kvs.length ≤ 1000000 by omega) (by decide), _, A'.putD gd nd', upd_same, ?_⟩
      rw [take_get ht, List.map_append]
      exact h2.put _ _
    · obtain ⟨kvs, A', h1, h2⟩ := z
      rw [Paired.length ppv, List.take_length] at h2
      refine ⟨_, rfl, ea, rfl, ⟨_, SqL.of (A'.g _ _ hea)⟩, ?_⟩
      refine for_list (xs := evs) (fun i σ H' => ∃ (kvs : List (Key × V)) (x3 x4 x5 x6 : Option V), σ = [some (.ref a), some (.ref ea), some (.ref d), x3, x4, x5, x6] ∧ At0 H G H' G ∧ H' d = some (.dK kvs) ∧ KeysD kvs (f.pars.map (·.text) ++ asgs (es.take i))) ⟨kvs, _, none, none, none, rfl, A', h1, by rw [show asgs (es.take 0) = [] from rfl, List.append_nil]; exact h2⟩ (fun i σ H' _ z => by
        obtain ⟨kvs, x3, x4, x5, x6, _, A', _⟩ := z
        exact SqL.of (A'.g _ _ hea)) (fun i x σ H' hx z => ?_) (fun σ H' z => ?_)
      · obtain ⟨kvs, x3, x4, x5, x6, rfl, A', h1, h2⟩ := z
        obtain ⟨e, he, t, sv, rfl, ht, hs⟩ := paired_getV pev hx
        have hle := h2.le
        have hfl : (asgs (es.take i)).length ≤ 1000000 := by
          have : (asgs (es.take i)).length ≤ (es.take i).length := List.length_filterMap_le _ _
          rw [List.length_take] at this
          omega
        rw [List.length_append, List.length_map] at hle
        refine ⟨t, _, rfl, SqT.of (A'.g _ _ ht), rfl, _, _, rfl, _, _, rfl, rfl, ?_⟩
        obtain ⟨C, cdx, cfs, sp, hC, hlk, hB, hsp⟩ := hs.asg
        refine ⟨_, rfl, sv, C, cdx, cfs, sp, rfl, A'.g _ _ hC, hlk, hB, hsp _ _ _ A'.g fun v hv => ?_⟩
        refine ⟨_, rfl, rfl, _, rfl, ?_⟩
        rw [take_get he, asgs_snoc]
        cases hass : e.2.assigned with
        | none =>
          rw [hass] at hv
          cases hv
          refine iteF ⟨kvs, _, _, _, _, rfl, A', h1, ?_⟩
          simpa using h2
        | some tk =>
          rw [hass] at hv
          obtain ⟨ta, tdx, rfl, th, _⟩ := hv
          rw [show (!decide (V.ref ta = V.non)) = true from rfl]
          refine iteT ⟨_, rfl, _, rfl, ta, _, tdx, _, .str tk.text, rfl, A'.g _ _ th, c_Token T, na_Token_text T, (by kernel_rfl), d, _, rfl, DPut.k (k := Sum.inr tk.text) h1 (Nat.lt_of_le_of_lt (show kvs.length ≤ 2000000 by omega) (by decide)), _, _, _, _, _, rfl, A'.putD gd nd', upd_same, ?_⟩
          rw [← List.append_assoc]
          exact h2.put _ _
      · obtain ⟨kvs, x3, x4, x5, x6, rfl, A', h1, h2⟩ := z
        rw [Paired.length pev, List.take_length] at h2
        exact ⟨_, rfl, q d _ kvs A'.sb nd' h1 h2⟩
end
end Fs
-- FsX6
set_option Elab.async false
set_option linter.all false
set_option maxRecDepth 100000
set_option maxHeartbeats 8000000
namespace Fs
open PySem PySem.Spec PyProof.Rows L2
section
variable {X : Cx} {a b c d : Expr} {ta tb tc td : TE} {pos : Pos}
/-- a <= b <= c <= d, whole numbers -/
def tLe3 (ta tb tc td : TE) : TT := fun σ H Q => ta σ H fun x H1 => tb σ H1 fun y H2 => ∃ i j : Int, x = .int i ∧ y = .int j ∧
  if decide (i ≤ j) = true then tc σ H2 fun z H3 => ∃ k : Int, z = .int k ∧ (if decide (j ≤ k) = true then td σ H3 fun u H4 => ∃ m : Int, u = .int m ∧ Q (decide (k ≤ m)) H4 else Q false H3) else Q false H2
theorem pt_le3 (ha : PE X a ta) (hb : PE X b tb) (hc : PE X c tc) (hd : PE X d td)
    (hm : lastMarks [.LtE, .LtE, .LtE] [b, c, d] = false := by with_unfolding_all rfl) : PT X (.Compare a [.LtE, .LtE, .LtE] [b, c, d] pos) (tLe3 ta tb tc td) := by
  refine ⟨fun pins s σ H Q I h => ?_⟩
  refine isTrue_chain (thn (ha.run pins s σ H _ I h) fun v s1 ⟨x, H1, I1, r1, q1⟩ => test_link (thn (hb.run pins s1 σ H1 _ I1 q1) fun u s2 ⟨y, H2, I2, r2, q2⟩ => ?_)) hm
  obtain ⟨i, j, rfl, rfl, q2⟩ := q2
  refine thn (op_le (X := X) pins s2 σ H2 (.int i) (.int j) v u (fun z H3 => z = .bl (decide (i ≤ j)) ∧ H3 = H2) I2 r1 r2 ⟨i, j, rfl, rfl, rfl, rfl⟩) fun e s3 ⟨z, H3, I3, r3, ez, eh⟩ => ?_
  subst ez; subst eh
  cases r3
  refine wpAny_truthy_bool ?_
  by_cases hij : i ≤ j
  · rw [decide_eq_true hij] at q2 ⊢
    rw [if_pos rfl] at q2
    refine ite_tt (test_link (thn (hc.run pins s3 σ _ _ I3 q2) fun w s4 ⟨z, H4, I4, r4, q4⟩ => ?_))
    obtain ⟨k, rfl, q4⟩ := q4
    refine thn (op_le (X := X) pins s4 σ H4 (.int j) (.int k) u w (fun z H5 => z = .bl (decide (j ≤ k)) ∧ H5 = H4) I4 r2 r4 ⟨j, k, rfl, rfl, rfl, rfl⟩) fun e s5 ⟨z, H5, I5, r5, ez, eh⟩ => ?_
    subst ez; subst eh
    cases r5
    refine wpAny_truthy_bool ?_
    by_cases hjk : j ≤ k
    · rw [decide_eq_true hjk] at q4 ⊢
      rw [if_pos rfl] at q4
      refine ite_tt (test_last (thn (hd.run pins s5 σ _ _ I5 q4) fun w' s6 ⟨z, H6, I6, r6, q6⟩ => ?_))
      obtain ⟨m, rfl, q6⟩ := q6
      refine thn (op_le (X := X) pins s6 σ H6 (.int k) (.int m) w w' (fun z H7 => z = .bl (decide (k ≤ m)) ∧ H7 = H6) I6 r4 r6 ⟨k, m, rfl, rfl, rfl, rfl⟩) fun e s7 ⟨z, H7, I7, r7, ez, eh⟩ => ?_
      subst ez; subst eh
      cases r7
      exact wpAny_truthy_bool ⟨_, I7, q6⟩
    · rw [decide_eq_false hjk] at q4 ⊢
      rw [if_neg (by decide)] at q4
      exact ite_ff ⟨_, I5, q4⟩
  · rw [decide_eq_false hij] at q2 ⊢
    rw [if_neg (by decide)] at q2
    exact ite_ff ⟨_, I3, q2⟩
end
/-! ## what a statement must be, for the checks to be read -/
def isNum (t : Str) : Bool := t.cps.toList.all (fun c => decide (48 ≤ c) && decide (c ≤ 57)) && (decide (t.cps.toList ≠ []) && decide (t.cps.toList.length ≤ 6))
def fitS (s : St) : Bool := decide (s.exprs.length ≤ 1000001) && (match s with
  | .call k _ _ _ p q _ => decide (k.kind = "call") && (isNum p.text && isNum q.text)
  | s => !decide (s.kw.kind = "call"))
def fitF (f : Fn) : Bool := decide (f.pars.length ≤ 1000000) && (decide ((flats 1 f.body).length ≤ 1000000) && (flats 1 f.body).all fun q => fitS q.2)
theorem num_of {t : Str} (h : isNum t = true) : intText? t = some ((numOf t : Nat) : Int) ∧ t.length ≤ 640 := by
  unfold isNum at h
  simp only [Bool.and_eq_true, decide_eq_true_eq] at h
  obtain ⟨h1, h2, h3⟩ := h
  have e := SX.int_S (a := t.cps.toList) h1 h2 (by omega)
  rw [show SX.S t.cps.toList = t from TL.mk_tl t] at e
  refine ⟨?_, by rw [← z_len]; omega⟩
  rw [e]
  rfl
end Fs
-- FsX7
set_option Elab.async false
set_option linter.all false
set_option maxRecDepth 100000
set_option maxHeartbeats 8000000
namespace Fs
open PySem PySem.Spec PyProof.Rows L2
section
variable {P : Program} {w : World} {K : PySem.W.Frag} {mg : Str → Option Value} {base h : Heap}
variable {l p : Addr} {H0 G0 H G H' G' : Hp} {vs ws : List V} {o : HO}
theorem StR.kwd (T : Txt K w mg h) {a : Addr} {s : St} (z : StR K G (.ref a) s) : ∃ C dx fs k', G a = some (.ins C dx fs) ∧ Cls K C ∧ NoAttr K C "keyword" ∧ fs.lookup ("keyword" : Str) = some k' ∧ TokR K G k' s.kw := by
  cases s <;> unfold StR at z
  · obtain ⟨_, dx, k', t', e', e0, h, h1, h2, h3⟩ := z
    cases e0
    exact ⟨_, dx, _, k', h, c_AssignStatement T, na_AssignStatement_keyword T, (by kernel_rfl), h1⟩
  · obtain ⟨_, dx, k', e', e0, h, h1, h2⟩ := z
    cases e0
    exact ⟨_, dx, _, k', h, c_ValueStatement T, na_ValueStatement_keyword T, (by kernel_rfl), h1⟩
  · obtain ⟨_, dx, k', l', r', f, s, vf, vs, e0, h, h1, _⟩ := z
    cases e0
    exact ⟨_, dx, _, k', h, c_IfStatement T, na_IfStatement_keyword T, (by kernel_rfl), h1⟩
  · obtain ⟨_, dx, k', e', f, vf, e0, h, h1, _⟩ := z
    cases e0
    exact ⟨_, dx, _, k', h, c_LoopStatement T, na_LoopStatement_keyword T, (by kernel_rfl), h1⟩
  · obtain ⟨_, dx, k', t', f', as', s', fb', e0, h, h1, _⟩ := z
    cases e0
    exact ⟨_, dx, _, k', h, c_CallStatement T, na_CallStatement_keyword T, (by kernel_rfl), h1⟩
def spLim (K : PySem.W.Frag) : Sp := fun vs H Q E => ∃ (G : Hp) (sv : Addr) (s : St) (num d : Nat), vs = [.ref sv, .int (num : Int), .int (d : Int)] ∧ Same G H ∧ StR K G (.ref sv) s ∧ Post0 K H G (fun _ v _ => v = .non) Q E (chkLim s num d)
theorem p_lim (T : Txt K w mg h) : Prom P w K mg base "check_limits" 4 (spLim K) := by
  obtain ⟨fd, F⟩ := f_check_limits T
  refine ⟨_, fd, ["statement", "number", "depth"], g_check_limits T, F.kp, F.bindsN fun _ _ _ _ _ _ us hl => match us, hl with | [_, _, _], _ => rfl, ?_⟩
  refine F.ok sc_check_limits (fun vs H Q E h => ?_) (fun cdv A outer s H vs Q E hr h => ?_)
  · obtain ⟨G, sv, s, num, d, rfl, _⟩ := h
    rfl
  · obtain ⟨G, sv, s, num, d, rfl, g, hs, q⟩ := h
    obtain ⟨t1, g1⟩ := v_MOST_STATEMENTS T
    obtain ⟨t2, g2⟩ := v_MOST_BLOCKS T
    refine ⟨_, pss_cons (ps_if (pt_cmpR op_gt (pv 1) (pe_glob (v := .int 60) rfl g1 ⟨_, rfl⟩) (nomark _)) (pss_one (ps_expr (pe_p (p_fail T) hr (passW (takes_of rfl rfl rfl rfl) fun _ _ _ _ z => z) (pa_cons pe_str (pa_cons (pe_fld (pv 0) rfl) pa_nil))))) pss_nil)
      (pss_one (ps_if (pt_cmpR op_gt (pv 2) (pe_glob (v := .int 8) rfl g2 ⟨_, rfl⟩) (nomark _)) (pss_one (ps_expr (pe_p (p_fail T) hr (passW (takes_of rfl rfl rfl rfl) fun _ _ _ _ z => z) (pa_cons pe_str (pa_cons (pe_fld (pv 0) rfl) pa_nil))))) pss_nil)), ?_⟩
    obtain ⟨C, dx, fs, k', hC, hc, hn, hl, hk⟩ := hs.kwd T
    unfold chkLim at q
    refine ⟨_, rfl, _, _, rfl, rfl, _, rfl, ?_⟩
    by_cases h6 : 60 < num
    · rw [if_pos h6] at q
      rw [show decide ((60 : Int) < (num : Int)) = true from decide_eq_true (by omega)]
      exact iteT ⟨_, rfl, sv, C, dx, fs, k', rfl, g _ _ hC, hc, hn, hl, G, _, k', s.kw, rfl, g, hk, (by decide), q⟩
    · rw [if_neg h6] at q
      rw [show decide ((60 : Int) < (num : Int)) = false from decide_eq_false (by omega)]
      refine iteF ⟨_, rfl, _, _, rfl, rfl, _, rfl, ?_⟩
      by_cases h8 : 8 < d
      · rw [if_pos h8] at q
        rw [show decide ((8 : Int) < (d : Int)) = true from decide_eq_true (by omega)]
        exact iteT ⟨_, rfl, sv, C, dx, fs, k', rfl, g _ _ hC, hc, hn, hl, G, _, k', s.kw, rfl, g, hk, (by decide), q⟩
      · rw [if_neg h8] at q
        rw [show decide ((8 : Int) < (d : Int)) = false from decide_eq_false (by omega)]
        exact iteF (Post0.retA (x := ()) q (At0.refl g) rfl)
theorem chkCall_eq (ar : List (Str × Nat)) (k t f : Tok) (as : List Ex) (p q : Tok) (fb : Ex) : chkCall ar (.call k t f as p q fb) = match ar.lookup f.text with
    | none => .error (.chk "undefined" f.line f.col)
    | some n => if as.length ≠ n then .error (.chk "arguments" f.line f.col)
      else if (Nat.ble 1 (numOf p.text) && Nat.ble (numOf p.text) (numOf q.text) && Nat.ble (numOf q.text) 9) = true then .ok () else .error (.chk "share" p.line p.col) := rfl
/-- fraction() -/
def spFrac (K : PySem.W.Frag) : Sp := fun vs H Q _ => ∃ (G : Hp) (sv : Addr) (k t f : Tok) (as : List Ex) (pp qq : Tok) (fb : Ex), vs = [.ref sv] ∧ Same G H ∧ StR K G (.ref sv) (.call k t f as pp qq fb) ∧ isNum pp.text = true ∧ isNum qq.text = true ∧
  ∀ r, H r = none → Q (.ref r) (upd H r (.tup [.int (numOf pp.text : Int), .int (numOf qq.text : Int)]))
theorem pm_frac (T : Txt K w mg h) : PromM P w K mg base (He.ga K "CallStatement") "fraction" 1 (spFrac K) := by
  obtain ⟨fd, F⟩ := f_CallStatement_fraction T
  refine ⟨c_CallStatement T, _, fd, ["self"], me_CallStatement_fraction T, F.bindsN fun _ _ _ _ _ _ us hl => match us, hl with | [_], _ => rfl, F.ok sc_CallStatement_fraction (fun vs H Q E h => ?_) (fun cdv A outer s H vs Q E hr h => ?_)⟩
  · obtain ⟨G, sv, k, t, f, as, pp, qq, fb, rfl, _⟩ := h
    rfl
  · obtain ⟨G, sv, k, t, f, as, pp, qq, fb, rfl, g, hs, np, nq, q⟩ := h
    have nd := sc_CallStatement_fraction.nd
    unfold StR at hs
    obtain ⟨_, dx, k', t', f', as', s', fb', e0, hh, h1, h2, h3, ⟨la, us, rfl, hla, pu⟩, ⟨sa, p', q', rfl, hsa, hp, hq⟩, h6⟩ := hs
    cases e0
    obtain ⟨pa, pdx, rfl, hpa, pl1, pl2⟩ := id hp
    obtain ⟨qa, qdx, rfl, hqa, ql1, ql2⟩ := id hq
    obtain ⟨i1, i2⟩ := num_of np
    obtain ⟨j1, j2⟩ := num_of nq
    refine ⟨_, pss_cons (ps_asg (pe_fld (pv 0) rfl) (pg_tup rfl (pgs_cons (pg_name (i := 1) nd rfl (.inl rfl)) (pgs_cons (pg_name (i := 2) nd rfl (.inl rfl)) pgs_nil))))
      (pss_one (ps_ret (pe_tup (pa_cons (pe_callTy call_int_str (by rfl) (b_int T) boot_int (pa_cons (pe_fld (pv 1) rfl) pa_nil)) (pa_cons (pe_callTy call_int_str (by rfl) (b_int T) boot_int (pa_cons (pe_fld (pv 2) rfl) pa_nil)) pa_nil))))), ?_⟩
    refine ⟨_, rfl, sv, _, dx, _, .ref sa, rfl, g _ _ hh, c_CallStatement T, na_CallStatement_share T, (by kernel_rfl), sa, _, rfl, SqT.of (g _ _ hsa), rfl, _, _, rfl, _, _, rfl, rfl, ?_⟩
    refine ⟨_, rfl, pa, _, pdx, _, .str pp.text, rfl, g _ _ hpa, c_Token T, na_Token_text T, (by kernel_rfl), _, _, rfl, i1, i2, ?_⟩
    refine ⟨_, rfl, qa, _, qdx, _, .str qq.text, rfl, g _ _ hqa, c_Token T, na_Token_text T, (by kernel_rfl), _, _, rfl, j1, j2, ?_⟩
    exact ⟨by show 2 ≤ sizeLine; decide, fun r hr => q r hr⟩
def ArD (kvs : List (Key × V)) (ar : List (Str × Nat)) : Prop := ∀ x, valV kvs (.inr x) = (ar.lookup x).map fun n => .int (n : Int)
def spCC (K : PySem.W.Frag) : Sp := fun vs H Q E => ∃ (G : Hp) (sv d : Addr) (k t f : Tok) (as : List Ex) (pp qq : Tok) (fb : Ex) (ar : List (Str × Nat)) (kvs : List (Key × V)), vs = [.ref sv, .ref d] ∧ Same G H ∧ StR K G (.ref sv) (.call k t f as pp qq fb) ∧ H d = some (.dK kvs) ∧ ArD kvs ar ∧ isNum pp.text = true ∧ isNum qq.text = true ∧
  Post0 K H G (fun _ v _ => v = .non) Q E (chkCall ar (.call k t f as pp qq fb))
theorem p_cc (T : Txt K w mg h) : Prom P w K mg base "check_call" 4 (spCC K) := by
  obtain ⟨fd, F⟩ := f_check_call T
  refine ⟨_, fd, ["statement", "arities"], g_check_call T, F.kp, F.bindsN fun _ _ _ _ _ _ us hl => match us, hl with | [_, _], _ => rfl, ?_⟩
  refine F.ok sc_check_call (fun vs H Q E h => ?_) (fun cdv A outer s H vs Q E hr h => ?_)
  · obtain ⟨G, sv, d, k, t, f, as, pp, qq, fb, ar, kvs, rfl, _⟩ := h
    rfl
  · obtain ⟨G, sv, d, k, t, f, as, pp, qq, fb, ar, kvs, rfl, g, hs, hd, har, np, nq, q⟩ := h
    have nd := sc_check_call.nd
    have hu := hu_of hr
    obtain ⟨t1, g1⟩ := v_LARGEST_SHARE T
    refine ⟨_, pss_cons (ps_set (i := 2) nd rfl (.inl rfl) (pe_fld (pv 0) rfl))
      (pss_cons (ps_if (pt_cmp (pc_dnotin hu (pe_fld (pv 2) rfl) (pv 1))) (pss_one (ps_expr (pe_p (p_fail T) hr (passW (takes_of rfl rfl rfl rfl) fun _ _ _ _ z => z) (pa_cons pe_str (pa_cons (pv 2) pa_nil))))) pss_nil)
      (pss_cons (ps_if (pt_cmpR op_ne (pe_callB call_len (by rfl) (b_len T) boot_len (pa_cons (pe_fld (pv 0) rfl) pa_nil)) (pe_dget hu (pv 1) (pe_fld (pv 2) rfl) (fun _ _ => rfl)) (by rfl)) (pss_one (ps_expr (pe_p (p_fail T) hr (passW (takes_of rfl rfl rfl rfl) fun _ _ _ _ z => z) (pa_cons pe_str (pa_cons (pv 2) pa_nil))))) pss_nil)
      (pss_cons (ps_asg (pe_pm0 (pm_frac T) (hr.mono (by decide)) (passW (takes_of rfl rfl rfl rfl) fun _ _ _ _ z => z) (pv 0)) (pg_tup rfl (pgs_cons (pg_name (i := 3) nd rfl (.inl rfl)) (pgs_cons (pg_name (i := 4) nd rfl (.inl rfl)) pgs_nil))))
      (pss_one (ps_if (pt_not (pt_le3 pe_int (pv 3) (pv 4) (pe_glob (v := .int 9) rfl g1 ⟨_, rfl⟩))) (pss_one (ps_expr (pe_p (p_fail T) hr (passW (takes_of rfl rfl rfl rfl) fun _ _ _ _ z => z) (pa_cons pe_str (pa_cons (pe_ix ix_tup (pe_fld (pv 0) rfl) pe_int (fun _ _ => rfl)) pa_nil))))) pss_nil))))), ?_⟩
    have hs0 := hs
    unfold StR at hs
    obtain ⟨_, dx, k', t', f', as', s', fb', e0, hh, h1, h2, h3, ⟨la, us, rfl, hla, pu⟩, ⟨sa, p', q', rfl, hsa, hp, hq⟩, h6⟩ := hs
    cases e0
    obtain ⟨fa, fdx, rfl, hfa, fl1, fl2⟩ := id h3
    refine ⟨_, rfl, sv, _, dx, _, .ref fa, rfl, g _ _ hh, c_CallStatement T, na_CallStatement_function T, (by kernel_rfl), ?_⟩
    refine ⟨_, rfl, fa, _, fdx, _, .str f.text, rfl, g _ _ hfa, c_Token T, na_Token_text T, (by kernel_rfl), _, rfl, d, _, rfl, DGet.k (k := Sum.inr f.text) hd, _, rfl, ?_⟩
    rw [har f.text]
    rw [chkCall_eq] at q
    cases el : ar.lookup f.text with
    | none =>
      rw [el] at q
      exact iteT ⟨_, rfl, G, _, _, f, rfl, g, h3, (by decide), q⟩
    | some n =>
      rw [el] at q
      dsimp only at q
      refine iteF ⟨_, rfl, sv, _, dx, _, .ref la, rfl, g _ _ hh, c_CallStatement T, na_CallStatement_arguments T, (by kernel_rfl), _, us.length, rfl, .inl ⟨_, SqL.of (g _ _ hla), rfl⟩, _, rfl, _, rfl, fa, _, fdx, _, .str f.text, rfl, g _ _ hfa, c_Token T, na_Token_text T, (by kernel_rfl), d, .int (n : Int), rfl, ?_, rfl, _, rfl, ?_⟩
      · have := DGet.k (k := Sum.inr f.text) hd
        rw [har f.text, el] at this
        exact this
      have lu := Paired.length pu
      by_cases en : as.length ≠ n
      · rw [if_pos en] at q
        rw [show (!decide (V.int (us.length : Int) = V.int (n : Int))) = true from by rw [decide_eq_false fun z => en (by have := V.int.inj z; omega)]; rfl]
        exact iteT ⟨_, rfl, G, _, _, f, rfl, g, h3, (by decide), q⟩
      · rw [if_neg en] at q
        rw [show (!decide (V.int (us.length : Int) = V.int (n : Int))) = false from by rw [decide_eq_true (congrArg (fun m : Nat => V.int (m : Int)) (show us.length = n by omega))]; rfl]
        refine iteF ⟨_, rfl, sv, dx, _, rfl, g _ _ hh, (by kernel_rfl), ⟨G, sv, k, t, f, as, pp, qq, fb, rfl, g, hs0, np, nq, fun r nr => ?_⟩⟩
        have sr := same_upd (o := .tup [.int (numOf pp.text : Int), .int (numOf qq.text : Int)]) nr
        have g2 := g.trans sr
        refine ⟨r, _, rfl, SqT.of upd_same, rfl, _, _, rfl, _, _, rfl, rfl, ?_⟩
        refine ⟨_, rfl, 1, _, rfl, rfl, ?_⟩
        have done : ∀ bb : Bool, (Nat.ble 1 (numOf pp.text) && Nat.ble (numOf pp.text) (numOf qq.text) && Nat.ble (numOf qq.text) 9) = bb → Post0 K H G (fun _ v _ => v = .non) Q E (if bb = true then .ok () else .error (.chk "share" pp.line pp.col)) := fun bb hb => by
          rw [hb] at q
          exact q
        have late : ∀ bb : Bool, bb = false → (Nat.ble 1 (numOf pp.text) && Nat.ble (numOf pp.text) (numOf qq.text) && Nat.ble (numOf qq.text) 9) = bb → Post0 (α := Unit) K (upd H r (.tup [.int (numOf pp.text : Int), .int (numOf qq.text : Int)])) G (fun _ v _ => v = .non) Q E (.error (.chk "share" pp.line pp.col)) := fun bb h0 hb => by
          have := done bb hb
          rw [h0] at this
          exact Err0.later (show Err0 K H E _ from this) sr
        by_cases c1 : 1 ≤ numOf pp.text
        · rw [show decide ((1 : Int) ≤ (numOf pp.text : Int)) = true from decide_eq_true (by omega)]
          refine iteT ⟨_, rfl, _, rfl, ?_⟩
          by_cases c2 : numOf pp.text ≤ numOf qq.text
          · rw [show decide ((numOf pp.text : Int) ≤ (numOf qq.text : Int)) = true from decide_eq_true (by omega)]
            refine iteT ⟨9, rfl, ?_⟩
            by_cases c3 : numOf qq.text ≤ 9
            · rw [show decide ((numOf qq.text : Int) ≤ (9 : Int)) = true from decide_eq_true (by omega)]
              have := done true (by rw [Nat.ble_eq_true_of_le c1, Nat.ble_eq_true_of_le c2, Nat.ble_eq_true_of_le c3]; rfl)
              exact iteF (Post0.retA (x := ()) this ((At0.refl g).new nr) rfl)
            · rw [show decide ((numOf qq.text : Int) ≤ (9 : Int)) = false from decide_eq_false (by omega)]
              have := late false rfl (by rw [show Nat.ble (numOf qq.text) 9 = false from Bool.eq_false_iff.mpr fun e => c3 (Nat.le_of_ble_eq_true e), Bool.and_false])
              exact iteT ⟨_, rfl, sv, _, dx, _, .ref sa, rfl, g2 _ _ hh, c_CallStatement T, na_CallStatement_share T, (by kernel_rfl), sa, _, 0, _, rfl, rfl, SqT.of (g2 _ _ hsa), rfl, ⟨G, _, _, pp, rfl, g2, hp, (by decide), this⟩⟩
          · rw [show decide ((numOf pp.text : Int) ≤ (numOf qq.text : Int)) = false from decide_eq_false (by omega)]
            have := late false rfl (by rw [show Nat.ble (numOf pp.text) (numOf qq.text) = false from Bool.eq_false_iff.mpr fun e => c2 (Nat.le_of_ble_eq_true e), Bool.and_false, Bool.false_and])
            exact iteF (iteT ⟨_, rfl, sv, _, dx, _, .ref sa, rfl, g2 _ _ hh, c_CallStatement T, na_CallStatement_share T, (by kernel_rfl), sa, _, 0, _, rfl, rfl, SqT.of (g2 _ _ hsa), rfl, ⟨G, _, _, pp, rfl, g2, hp, (by decide), this⟩⟩)
        · rw [show decide ((1 : Int) ≤ (numOf pp.text : Int)) = false from decide_eq_false (by omega)]
          have := late false rfl (by rw [show Nat.ble 1 (numOf pp.text) = false from Bool.eq_false_iff.mpr fun e => c1 (Nat.le_of_ble_eq_true e), Bool.false_and, Bool.false_and])
          exact iteF (iteT ⟨_, rfl, sv, _, dx, _, .ref sa, rfl, g2 _ _ hh, c_CallStatement T, na_CallStatement_share T, (by kernel_rfl), sa, _, 0, _, rfl, rfl, SqT.of (g2 _ _ hsa), rfl, ⟨G, _, _, pp, rfl, g2, hp, (by decide), this⟩⟩)
end
end Fs
-- FsX8
set_option Elab.async false
set_option linter.all false
set_option maxRecDepth 100000
set_option maxHeartbeats 8000000
namespace Fs
open PySem PySem.Spec PyProof.Rows L2
theorem chkTerms_cons (known : List Str) (t : Tok) (ts : List Tok) : chkTerms known (t :: ts) = if t.kind = "word" ∧ known.contains t.text = false then .error (.chk "undefined" t.line t.col) else chkTerms known ts := by rw [chkTerms]
theorem chkExs_cons (known : List Str) (e : Ex) (es : List Ex) : chkExs known (e :: es) = (chkTerms known e.terms >>= fun _ => chkExs known es) := by rw [chkExs]
section
variable {P : Program} {w : World} {K : PySem.W.Frag} {mg : Str → Option Value} {base h : Heap}
variable {l p : Addr} {H0 G0 H G H' G' : Hp} {vs ws : List V} {o : HO}
def spCS (K : PySem.W.Frag) : Sp := fun vs H Q E => ∃ (G : Hp) (sv d kn : Addr) (s : St) (ar : List (Str × Nat)) (kvs kk : List (Key × V)) (known : List Str), vs = [.ref sv, .ref d, .ref kn] ∧ Same G H ∧ StR K G (.ref sv) s ∧ H d = some (.dK kvs) ∧ ArD kvs ar ∧ H kn = some (.dK kk) ∧ KeysD kk known ∧ fitS s = true ∧
  Post0 K H G (fun _ v _ => v = .non) Q E (chkCall ar s >>= fun _ => chkExs known s.exprs)
theorem p_cs (T : Txt K w mg h) : Prom P w K mg base "check_statement" 5 (spCS K) := by
  obtain ⟨fd, F⟩ := f_check_statement T
  refine ⟨_, fd, ["statement", "arities", "known"], g_check_statement T, F.kp, F.bindsN fun _ _ _ _ _ _ us hl => match us, hl with | [_, _, _], _ => rfl, ?_⟩
  refine F.ok sc_check_statement (fun vs H Q E h => ?_) (fun cdv A outer s H vs Q E hr h => ?_)
  · obtain ⟨G, sv, d, kn, s, ar, kvs, kk, known, rfl, _⟩ := h
    rfl
  · obtain ⟨G, sv, d, kn, s, ar, kvs, kk, known, rfl, g, hs, hd, har, hkn, hkk, hfit, q⟩ := h
    have nd := sc_check_statement.nd
    have hu := hu_of hr
    have hr1 : Room 1 _ := hr.mono (by decide)
    have hr3 : Room 3 _ := hr.mono (by decide)
    refine ⟨_, C8.pss_cut (ps_if (pt_cmpR op_eq (pe_fld (pe_fld (pv 0) rfl) rfl) pe_str (nomark _)) (pss_one (ps_expr (pe_p (p_cc T) hr (passW (takes_of rfl rfl rfl rfl) fun _ _ _ _ z => z) (pa_cons (pv 0) (pa_cons (pv 1) pa_nil))))) pss_nil)
      (pss_one (ps_for (passes_of rfl) rfl (pi_list (pe_methT (exT_at T) hr1 (passW (takes_of rfl rfl rfl rfl) fun _ _ _ _ z => z) (pv 0))) (pg_name (i := 3) nd rfl (.inl rfl))
        (pss_one (ps_for (passes_of rfl) rfl (pi_list (pe_fld (pv 3) rfl)) (pg_name (i := 4) nd rfl (.inl rfl))
          (pss_one (ps_if (PW.pt (pw_and (pt_cmpR op_eq (pe_fld (pv 4) rfl) pe_str (nomark _)) (pw_and1 (pt_cmp (pc_dnotin hu (pe_fld (pv 4) rfl) (pv 2)))))) (pss_one (ps_expr (pe_p (p_fail T) hr3 (passW (takes_of rfl rfl rfl rfl) fun _ _ _ _ z => z) (pa_cons pe_str (pa_cons (pv 4) pa_nil))))) pss_nil)))))), ?_⟩
    obtain ⟨C, dx, fs, k', hC, hc, hn, hl, hk⟩ := hs.kwd T
    obtain ⟨ka, kdx, rfl, hka, _⟩ := hk
    have hexp : s.exprs.length ≤ 1000001 := by
      unfold fitS at hfit
      simp only [Bool.and_eq_true, decide_eq_true_eq] at hfit
      exact hfit.1
    refine ⟨fun σ' H' => σ' = [some (.ref sv), some (.ref d), some (.ref kn), none, none] ∧ At0 H G H' G ∧ Post0 K H G (fun _ v _ => v = .non) Q E (chkExs known s.exprs), ?_, ?_⟩
    · refine ⟨_, rfl, sv, C, dx, fs, .ref ka, rfl, g _ _ hC, hc, hn, hl, ka, _, kdx, _, .str s.kw.kind, rfl, g _ _ hka, c_Token T, na_Token_kind T, (by kernel_rfl), rfl, _, rfl, ?_⟩
      by_cases ek : s.kw.kind = "call"
      · rw [show decide (V.str s.kw.kind = V.str "call") = true from decide_eq_true (by rw [ek])]
        refine iteT ?_
        unfold fitS at hfit
        simp only [Bool.and_eq_true, decide_eq_true_eq] at hfit
        have hf2 := hfit.2
        cases s with
        | call kq t f as pp qq fb =>
          simp only [Bool.and_eq_true, decide_eq_true_eq] at hf2
          refine ⟨_, rfl, _, rfl, G, sv, d, kq, t, f, as, pp, qq, fb, ar, kvs, rfl, g, hs, hd, har, hf2.2.1, hf2.2.2, ?_⟩
          cases e1 : chkCall ar (.call kq t f as pp qq fb) with
          | error er => rw [e1] at q; exact q
          | ok u =>
            rw [e1] at q
            intro v H' G' s1 x1 g1 ev
            exact ⟨rfl, ⟨s1, Ext.refl, g.trans s1⟩, q⟩
        | asg kq t e =>
          have hf3 : (!decide (kq.kind = ("call" : Str))) = true := hf2
          simp at hf3
          exact (hf3 ek).elim
        | val kq e =>
          have hf3 : (!decide (kq.kind = ("call" : Str))) = true := hf2
          simp at hf3
          exact (hf3 ek).elim
        | ite kq l c r b1 b2 =>
          have hf3 : (!decide (kq.kind = ("call" : Str))) = true := hf2
          simp at hf3
          exact (hf3 ek).elim
        | loop kq e b =>
          have hf3 : (!decide (kq.kind = ("call" : Str))) = true := hf2
          simp at hf3
          exact (hf3 ek).elim
      · rw [show decide (V.str s.kw.kind = V.str "call") = false from decide_eq_false fun z => ek (V.str.inj z)]
        refine iteF ⟨rfl, At0.refl g, ?_⟩
        cases s with
        | call kq t f as pp qq fb =>
          unfold fitS at hfit
          simp only [Bool.and_eq_true, decide_eq_true_eq] at hfit
          exact (ek hfit.2.1).elim
        | asg kq t e => exact q
        | val kq e => exact q
        | ite kq l c r b1 b2 => exact q
        | loop kq e b => exact q
    · rintro σ' H1 ⟨rfl, A1, q⟩
      obtain ⟨C, cdx, cfs, sp, hC2, hlk, hB, us, pus, hsp⟩ := hs.exprs hexp
      refine ⟨_, rfl, sv, C, cdx, cfs, sp, rfl, A1.g _ _ hC2, hlk, hB, hsp _ _ _ A1.g fun l H2 s2 nl hl => ⟨l, rfl, ⟨_, SqL.of hl⟩, ?_⟩⟩
      have A2 := A1.more s2
      have hkn2 := A2.sb _ _ hkn
      refine for_list (xs := us) (fun i σ H' => H' = H2 ∧ ∃ x3 x4 : Option V, σ = [some (.ref sv), some (.ref d), some (.ref kn), x3, x4] ∧ Post0 K H G (fun _ v _ => v = .non) Q E (chkExs known (s.exprs.drop i))) ⟨rfl, none, none, rfl, q⟩ (fun i σ H' _ z => by
        obtain ⟨rfl, _⟩ := z
        exact SqL.of hl) (fun i x σ H' hx z => ?_) (fun σ H' z => ?_)
      · obtain ⟨rfl, x3, x4, rfl, q2⟩ := z
        obtain ⟨e, he, ea, edx, tv, ov, rfl, hea, ⟨ta, tvs, rfl, hta, pts⟩, _⟩ := paired_getV pus hx
        rw [drop_get he, chkExs_cons] at q2
        refine ⟨_, rfl, ea, _, edx, _, .ref ta, rfl, A2.g _ _ hea, c_Expression T, na_Expression_terms T, (by kernel_rfl), ta, rfl, ⟨_, SqL.of (A2.g _ _ hta)⟩, ?_⟩
        refine for_list (xs := tvs) (fun j σ H3 => H3 = H' ∧ ∃ x4 : Option V, σ = [some (.ref sv), some (.ref d), some (.ref kn), some (.ref ea), x4] ∧ Post0 K H G (fun _ v _ => v = .non) Q E (chkTerms known (e.terms.drop j) >>= fun _ => chkExs known (s.exprs.drop (i + 1)))) ⟨rfl, _, rfl, q2⟩ (fun j σ H3 _ z => by
          obtain ⟨rfl, _⟩ := z
          exact SqL.of (A2.g _ _ hta)) (fun j y σ H3 hy z => ?_) (fun σ H3 z => ?_)
        · obtain ⟨rfl, x4, rfl, q3⟩ := z
          obtain ⟨t, ht, rt⟩ := paired_getV pts hy
          obtain ⟨tk, tdx, rfl, htk, _⟩ := id rt
          rw [drop_get ht, chkTerms_cons] at q3
          refine ⟨_, rfl, tk, _, tdx, _, .str t.kind, rfl, A2.g _ _ htk, c_Token T, na_Token_kind T, (by kernel_rfl), rfl, _, rfl, ?_⟩
          by_cases ew : t.kind = "word"
          · rw [show decide (V.str t.kind = V.str "word") = true from decide_eq_true (by rw [ew])]
            refine iteT ⟨_, rfl, tk, _, tdx, _, .str t.text, rfl, A2.g _ _ htk, c_Token T, na_Token_text T, (by kernel_rfl), _, rfl, kn, _, rfl, DGet.k (k := Sum.inr t.text) hkn2, _, rfl, ?_⟩
            rw [hkk.has]
            cases ec : known.contains t.text with
            | true =>
              rw [if_neg (by rw [ec]; exact fun z => nomatch z.2)] at q3
              exact iteF ⟨rfl, _, rfl, q3⟩
            | false =>
              rw [if_pos ⟨ew, ec⟩] at q3
              exact iteT ⟨_, rfl, G, _, _, t, rfl, A2.g, rt, (by decide), Err0.later q3 A2.sb⟩
          · rw [if_neg (fun z => ew z.1)] at q3
            rw [show decide (V.str t.kind = V.str "word") = false from decide_eq_false fun z => ew (V.str.inj z)]
            exact iteF (iteF ⟨rfl, _, rfl, q3⟩)
        · obtain ⟨rfl, x4, rfl, q3⟩ := z
          rw [Paired.length pts, List.drop_length] at q3
          exact ⟨rfl, _, _, rfl, q3⟩
      · obtain ⟨rfl, x3, x4, rfl, q2⟩ := z
        rw [Paired.length pus, List.drop_length] at q2
        exact Post0.retA (x := ()) q2 A2 rfl
end
end Fs
-- FsX9
set_option Elab.async false
set_option linter.all false
set_option maxRecDepth 100000
set_option maxHeartbeats 8000000
namespace Fs
open PySem PySem.Spec PyProof.Rows L2
theorem lookup_snoc {α : Type} (xs : List (Str × α)) (k j : Str) (v : α) : (xs ++ [(k, v)]).lookup j = match xs.lookup j with
    | some y => some y
    | none => if j == k then some v else none := by
  induction xs with
  | nil =>
    show (match j == k with | true => some v | false => none) = _
    cases j == k <;> rfl
  | cons a l ih =>
    obtain ⟨b, c⟩ := a
    show (match j == b with | true => some c | false => (l ++ [(k, v)]).lookup j) = match (match j == b with | true => some c | false => l.lookup j) with | some y => some y | none => _
    cases j == b with
    | true => rfl
    | false => exact ih
theorem lookup_none {α : Type} {xs : List (Str × α)} {k : Str} (h : (xs.map (·.1)).contains k = false) : xs.lookup k = none := by
  induction xs with
  | nil => rfl
  | cons a l ih =>
    obtain ⟨b, c⟩ := a
    rw [List.map_cons, List.contains_cons] at h
    simp only [Bool.or_eq_false_iff] at h
    show (match k == b with | true => some c | false => l.lookup k) = none
    rw [h.1]
    exact ih h.2
theorem chk1_new {t : Tok} {seen : List Str} {most : Nat} {why : Str} {s : List Str} (h : chk1 t seen most why = .ok s) : s = seen ++ [t.text] ∧ seen.contains t.text = false := by
  unfold chk1 at h
  by_cases e : seen.length = most
  · rw [if_pos e] at h; cases h
  · rw [if_neg e] at h
    cases ec : seen.contains t.text with
    | true => rw [ec, if_pos rfl] at h; cases h
    | false =>
      rw [ec, if_neg (by decide)] at h
      cases h
      exact ⟨rfl, rfl⟩
theorem heads_new : ∀ {fs : List Fn} {seen : List Str} {u : Unit}, chkHeads seen fs = .ok u → ∀ i f, fs[i]? = some f → (seen ++ (fs.take i).map fun f => f.name.text).contains f.name.text = false
  | [], _, _, _, i, f, hf => by simp at hf
  | g :: fs, seen, u, h, i, f, hf => by
    unfold chkHeads at h
    cases e : chk1 g.name seen 12 "functions" with
    | error er => rw [e] at h; cases h
    | ok s =>
      rw [e] at h
      obtain ⟨hs, hc⟩ := chk1_new e
      have h2 : (chkAll 4 "parameters" [] g.pars >>= fun _ => chkHeads s fs) = .ok u := h
      obtain ⟨_, _, h3⟩ := bind_ok h2
      cases i with
      | zero =>
        cases hf
        rw [List.take_zero, List.map_nil, List.append_nil]
        exact hc
      | succ i =>
        have := heads_new h3 i f (by simpa using hf)
        rw [hs, List.append_assoc] at this
        exact this
theorem ArD.nil : ArD [] [] := fun x => rfl
theorem ArD.put {kvs : List (Key × V)} {ar : List (Str × Nat)} (z : ArD kvs ar) (k : Str) (n : Nat) (h : ar.lookup k = none) : ArD (putK kvs (.inr k) (.int (n : Int))) (ar ++ [(k, n)]) := fun x => by
  rw [valV_put, lookup_snoc, z x]
  by_cases e : x = k
  · subst e
    rw [if_pos rfl, h]
    simp
  · rw [if_neg (fun y => e (Sum.inr.inj y))]
    have : (x == k) = false := by simpa using e
    rw [this]
    cases ar.lookup x <;> rfl
theorem chkSts_cons (ar : List (Str × Nat)) (known : List Str) (n d : Nat) (s : St) (r : List (Nat × St)) : chkSts ar known n ((d, s) :: r) = (chkLim s (n + 1) d >>= fun _ => (chkCall ar s >>= fun _ => chkExs known s.exprs) >>= fun _ => chkSts ar known (n + 1) r) := by
  rw [chkSts]
  simp only [bindA]
theorem chkFns_cons (ar : List (Str × Nat)) (n : Nat) (f : Fn) (fs : List Fn) : chkFns ar n (f :: fs) = (chkSts ar (locals f) n (flats 1 f.body) >>= fun _ => chkFns ar (n + (flats 1 f.body).length) fs) := by rw [chkFns]
section
variable {P : Program} {w : World} {K : PySem.W.Frag} {mg : Str → Option Value} {base h : Heap}
variable {l p : Addr} {H0 G0 H G H' G' : Hp} {vs ws : List V} {o : HO}
def spChk (K : PySem.W.Frag) : Sp := fun vs H Q E => ∃ (G : Hp) (fl : Addr) (us : List V) (fs : List Fn), vs = [.ref fl] ∧ Same G H ∧ G fl = some (.lst us) ∧ Paired (FnR K G) us fs ∧ fs.length ≤ 1000000 ∧ (∀ f ∈ fs, fitF f = true) ∧ Post0 K H G (fun _ v _ => v = .non) Q E (mCheck fs)
theorem p_check (T : Txt K w mg h) : Prom P w K mg base "check_functions" 6 (spChk K) := by
  obtain ⟨fd, F⟩ := f_check_functions T
  refine ⟨_, fd, ["functions"], g_check_functions T, F.kp, F.bindsN fun _ _ _ _ _ _ us hl => match us, hl with | [_], _ => rfl, ?_⟩
  refine F.ok sc_check_functions (fun vs H Q E h => ?_) (fun cdv A outer s H vs Q E hr h => ?_)
  · obtain ⟨G, fl, us, fs, rfl, _⟩ := h
    rfl
  · obtain ⟨G, fl, us, fs, rfl, g, hfl, pf, hfl2, hfit, q⟩ := h
    have nd := sc_check_functions.nd
    have hr2 : Room 2 _ := hr.mono (by decide)
    have hr4 : Room 4 _ := hr.mono (by decide)
    refine ⟨_, pss_cons (ps_expr (pe_p (p_heads T) hr (passW (takes_of rfl rfl rfl rfl) fun _ _ _ _ z => z) (pa_cons (pv 0) pa_nil)))
      (pss_cons (ps_setDc (i := 1) (own := [("function", 2)]) (g := gName 2) (tt := tYes) (tk := tFld K (tFld K (tVar 2) "name") "text") (tv := tCB (fun xs H Q => ∃ x n, xs = [x] ∧ LenV K x H n ∧ Q (.int n) H) (tCons (tFld K (tVar 2) "parameters") tNil)) rfl nd rfl rfl (sw_trueD rfl rfl rfl (by decide +kernel)) (pi_list (pv 0)) (blkOk_by (N := n_check_functions) (sc := defScope s_check_functions) (by decide +kernel)) (fun _ _ _ _ _ => pg_name (i := 2) nd rfl (Or.inl rfl)) (fun _ _ _ _ _ => pts_nil) (fun _ _ _ _ _ => by exact pe_fld (pe_fld (pv 2) rfl) rfl) (fun _ _ _ _ _ => by exact pe_callB call_len (by rfl) (b_len T) boot_len (pa_cons (pe_fld (pv 2) rfl) pa_nil)))
      (pss_cons (ps_set (i := 3) nd rfl (.inl rfl) pe_int)
      (pss_one (ps_for (passes_of rfl) rfl (pi_list (pv 0)) (pg_name (i := 2) nd rfl (.inl rfl))
        (pss_cons (ps_set (i := 4) nd rfl (.inl rfl) (pe_p (p_flat T) hr2 (passW (takes_of rfl rfl rfl rfl) fun _ _ _ _ z => z) (pa_cons (pe_fld (pv 2) rfl) pa_nil)))
        (pss_cons (ps_set (i := 5) nd rfl (.inl rfl) (pe_p (p_locals T) hr2 (passW (takes_of rfl rfl rfl rfl) fun _ _ _ _ z => z) (pa_cons (pv 2) (pa_cons (pv 4) pa_nil))))
        (pss_cons (ps_for (passes_of rfl) rfl (pi_enum (by rfl) (b_enumerate T) (pa_cons (pv 4) pa_nil)) (pg_tup rfl (pgs_cons (pg_name (i := 6) nd rfl (.inl rfl)) (pgs_cons (pg_tup rfl (pgs_cons (pg_name (i := 7) nd rfl (.inl rfl)) (pgs_cons (pg_name (i := 8) nd rfl (.inl rfl)) pgs_nil))) pgs_nil)))
          (pss_cons (ps_expr (pe_p (p_lim T) hr4 (passW (takes_of rfl rfl rfl rfl) fun _ _ _ _ z => z) (pa_cons (pv 8) (pa_cons (pe_op op_add (pe_op op_add (pv 3) (pv 6)) pe_int) (pa_cons (pv 7) pa_nil)))))
          (pss_one (ps_expr (pe_p (p_cs T) hr (passW (takes_of rfl rfl rfl rfl) fun _ _ _ _ z => z) (pa_cons (pv 8) (pa_cons (pv 1) (pa_cons (pv 5) pa_nil))))))))
        (pss_one (ps_aug (i := 3) nd rfl (.inl rfl) (pe_callB call_len (by rfl) (b_len T) boot_len (pa_cons (pv 4) pa_nil)) ip_add))))))))), ?_⟩
    unfold mCheck at q
    refine ⟨_, rfl, G, fl, us, fs, rfl, g, hfl, pf, q.seqA (At0.refl g) fun u v H1 G1 e1 s1 x1 A1 hv q1 => ?_⟩
    have hfl1 := x1.le _ _ hfl
    have pf1 := pmono (fun _ _ => FnR.mono x1.le) pf
    have lf := Paired.length pf
    refine ⟨_, rfl, fl, rfl, ⟨_, SqL.of (A1.g _ _ hfl1)⟩, fun d nd' => ?_⟩
    have gd : G1 d = none := nf A1.g nd'
    have zd : H d = none := A1.free nd'
    refine dc_list (xs := us) (fun i H' => ∃ kvs, At0 H G H' G1 ∧ H' d = some (.dK kvs) ∧ ArD kvs (arities (fs.take i)) ∧ kvs.length ≤ i) ⟨[], A1.new nd', upd_same, ArD.nil, Nat.le_refl _⟩ (fun i H' _ z => by
      obtain ⟨kvs, A', _⟩ := z
      exact SqL.of (A'.g _ _ hfl1)) (fun i x H' hx z => ?_) (fun H' z => ?_)
    · obtain ⟨kvs, A', h1, h2, h3⟩ := z
      obtain ⟨f, hf, a, dx, n, pp, b, rfl, ha, hn, ⟨pa, pvs, rfl, hpa, ppv⟩, hb⟩ := paired_getV pf1 hx
      obtain ⟨ta, tdx, rfl, th, _⟩ := hn
      have hlt : i < us.length := (List.getElem?_eq_some_iff.mp hx).1
      have hnew := heads_new e1 i f hf
      rw [List.nil_append] at hnew
      have hlk : (arities (fs.take i)).lookup f.name.text = none := lookup_none (by
        unfold arities
        rw [List.map_map]
        exact hnew)
      refine ⟨rfl, _, rfl, a, _, dx, _, .ref ta, rfl, A'.g _ _ ha, c_Function T, na_Function_name T, (by kernel_rfl), ta, _, tdx, _, .str f.name.text, rfl, A'.g _ _ th, c_Token T, na_Token_text T, (by kernel_rfl), _, rfl, a, _, dx, _, .ref pa, rfl, A'.g _ _ ha, c_Function T, na_Function_parameters T, (by kernel_rfl), _, f.pars.length, rfl, .inl ⟨_, SqL.of (A'.g _ _ hpa), (Paired.length ppv).symm⟩, kvs, .inr f.name.text, rfl, h1, Nat.lt_of_le_of_lt (show kvs.length ≤ 1000000 by omega) (by decide), _, A'.putD gd zd, upd_same, ?_, ?_⟩
      · rw [take_get hf]
        unfold arities
        rw [List.map_append]
        exact h2.put _ _ hlk
      · have := length_putK kvs (.inr f.name.text) (.int (f.pars.length : Int))
        omega
    obtain ⟨kvs, A2, h1, h2, _⟩ := z
    rw [lf, List.take_length] at h2
    refine ⟨_, rfl, fl, rfl, ⟨_, SqL.of (A2.g _ _ hfl1)⟩, ?_⟩
    refine for_list (xs := us) (fun i σ H' => ∃ (G' : Hp) (n : Nat) (x2 x4 x5 x6 x7 x8 : Option V), σ = [some (.ref fl), some (.ref d), x2, some (.int (n : Int)), x4, x5, x6, x7, x8] ∧ At0 H G H' G' ∧ Same G1 G' ∧ H' d = some (.dK kvs) ∧ G' d = none ∧ Post0 K H G (fun _ v _ => v = .non) Q E (chkFns (arities fs) n (fs.drop i))) ⟨G1, 0, none, none, none, none, none, none, rfl, A2, Same.refl _, h1, gd, q1⟩ (fun i σ H' _ z => by
      obtain ⟨G', n, x2, x4, x5, x6, x7, x8, _, A', s', _⟩ := z
      exact SqL.of (A'.g _ _ (s' _ _ hfl1))) (fun i x σ H' hx z => ?_) (fun σ H' z => ?_)
    · obtain ⟨G', n, x2, x4, x5, x6, x7, x8, rfl, A', s', h1', gd', q2⟩ := z
      obtain ⟨f, hf, hfr⟩ := paired_getV pf1 hx
      have hff := hfit f (List.mem_of_getElem? hf)
      unfold fitF at hff
      simp only [Bool.and_eq_true, decide_eq_true_eq] at hff
      obtain ⟨hp1, hp2, hp3⟩ := hff
      rw [drop_get hf, chkFns_cons] at q2
      have hfr' := hfr.mono s'
      obtain ⟨a, dx, nn, pp, b, rfl, ha, hn, hpp, hb⟩ := id hfr'
      refine ⟨_, rfl, a, _, dx, _, b, rfl, A'.g _ _ ha, c_Function T, na_Function_body T, (by kernel_rfl), ?_⟩
      refine ⟨G', b, f.body, rfl, A'.g, hb, hp2, fun v H3 G3 s3 x3 g3 hv3 => ?_⟩
      obtain ⟨sl, evs, rfl, hsl, pev⟩ := hv3
      have A3 : At0 H G H3 G3 := A'.step s3 x3 g3
      have d3 := s3 _ _ h1'
      have gd3 : G3 d = none := by rw [x3.new _ _ h1']; exact gd'
      refine ⟨_, rfl, _, rfl, G3, .ref a, .ref sl, f, flats 1 f.body, rfl, g3, hfr'.mono x3.le, ⟨sl, evs, rfl, hsl, pev⟩, hp1, hp2, fun kn H4 kk s4 nkn hkn hkk => ?_⟩
      have A4 := A3.more s4
      have d4 := s4 _ _ d3
      refine ⟨_, rfl, sl, evs, rfl, SqL.of (A4.g _ _ hsl), fun j m σ H5 => ∃ (G5 : Hp) (x6 x7 x8 : Option V), m = evs.length - j ∧ j ≤ evs.length ∧ σ = [some (.ref fl), some (.ref d), some (.ref a), some (.int (n : Int)), some (.ref sl), some (.ref kn), x6, x7, x8] ∧ At0 H G H5 G5 ∧ Same G3 G5 ∧ H5 d = some (.dK kvs) ∧ H5 kn = some (.dK kk) ∧ G5 d = none ∧ Post0 K H G (fun _ v _ => v = .non) Q E (chkSts (arities fs) (locals f) (n + j) ((flats 1 f.body).drop j) >>= fun _ => chkFns (arities fs) (n + (flats 1 f.body).length) (fs.drop (i + 1))),
        ⟨_, G3, _, _, _, rfl, Nat.zero_le _, rfl, A4, Same.refl _, d4, hkn, gd3, q2⟩, ?_⟩
      rintro j m σ H5 ⟨G5, x6, x7, x8, rfl, hj, rfl, A5, s5, d5, kn5, gd5, q5⟩
      have le := Paired.length pev
      by_cases hlt : j < evs.length
      · obtain ⟨ev, hev⟩ : ∃ ev, evs[j]? = some ev := ⟨_, List.getElem?_eq_getElem hlt⟩
        obtain ⟨⟨dep, st⟩, hes, t, sv, rfl, ht, hst⟩ := paired_getV pev hev
        rw [drop_get hes, chkSts_cons, bindA] at q5
        refine .inr ⟨⟨_, _, SqL.of (A5.g _ _ (s5 _ _ hsl)), hev⟩, _, fun _ _ z => z, ?_⟩
        rintro x H6 ⟨T', xv, rfl, nT, rfl, hx'⟩
        have ex : xv = .ref t := Option.some.inj ((hx' _ (SqL.of (A5.g _ _ (s5 _ _ hsl)))).symm.trans hev)
        subst ex
        have A6 := A5.new (o := .tup [.int (j : Nat), .ref t]) nT
        have d6 : upd H5 T' (.tup [.int (j : Nat), .ref t]) d = some (.dK kvs) := by rw [upd_ne (ne_of_none d5 nT)]; exact d5
        have kn6 : upd H5 T' (.tup [.int (j : Nat), .ref t]) kn = some (.dK kk) := by rw [upd_ne (ne_of_none kn5 nT)]; exact kn5
        refine ⟨T', _, rfl, SqT.of upd_same, rfl, _, _, rfl, _, _, rfl, ⟨t, _, rfl, SqT.of (A6.g _ _ (s5 _ _ ht)), rfl, _, _, rfl, _, _, rfl, rfl, rfl, ?_⟩⟩
        refine ⟨_, rfl, _, rfl, _, rfl, _, _, rfl, rfl, _, _, rfl, rfl, _, rfl, G5, sv, st, n + j + 1, dep, rfl, A6.g, hst.mono s5, q5.seqA A6 fun u7 v7 H7 G7 e7 s7 x7 A7 hv7 q7 => ?_⟩
        have q7' : Post0 K H G (fun _ v _ => v = .non) Q E ((chkCall (arities fs) st >>= fun _ => chkExs (locals f) st.exprs) >>= fun _ => (chkSts (arities fs) (locals f) (n + j + 1) ((flats 1 f.body).drop (j + 1)) >>= fun _ => chkFns (arities fs) (n + (flats 1 f.body).length) (fs.drop (i + 1)))) := by
          rw [← bindA]
          exact q7
        have d7 := s7 _ _ d6
        have kn7 := s7 _ _ kn6
        have gd7 : G7 d = none := by rw [x7.new _ _ d6]; exact gd5
        refine ⟨_, rfl, _, rfl, _, rfl, G7, sv, d, kn, st, arities fs, kvs, kk, locals f, rfl, A7.g, hst.mono (s5.trans x7.le), d7, h2, kn7, hkk, List.all_eq_true.mp hp3 _ (List.mem_of_getElem? hes), q7'.seqA A7 fun u8 v8 H8 G8 e8 s8 x8' A8 hv8 q8 => ?_⟩
        refine ⟨evs.length - (j + 1), by omega, G8, _, _, _, rfl, hlt, rfl, A8, (s5.trans x7.le).trans x8'.le, s8 _ _ d7, s8 _ _ kn7, ?_, q8⟩
        rw [x8'.new _ _ d7]; exact gd7
      · have ej : j = evs.length := by omega
        subst ej
        rw [le, List.drop_length] at q5
        refine .inl ⟨⟨_, SqL.of (A5.g _ _ (s5 _ _ hsl)), Nat.le_refl _⟩, ?_⟩
        refine ⟨_, rfl, _, rfl, _, (flats 1 f.body).length, rfl, .inl ⟨_, SqL.of (A5.g _ _ (s5 _ _ hsl)), le.symm⟩, _, _, rfl, rfl, G5, n + (flats 1 f.body).length, _, _, _, _, _, _, rfl, A5, (s'.trans x3.le).trans s5, d5, gd5, q5⟩
    · obtain ⟨G', n, x2, x4, x5, x6, x7, x8, rfl, A', s', h1', gd', q2⟩ := z
      rw [lf, List.drop_length] at q2
      exact Post0.retA (x := ()) q2 A' rfl
end
end Fs
-- FsXA
set_option Elab.async false
set_option linter.all false
set_option maxRecDepth 100000
set_option maxHeartbeats 8000000
namespace Fs
open PySem PySem.Spec PyProof.Rows L2
def srcFit (src : List Nat) : Bool := match mLex src with
  | .ok ts => match pProg ts with
    | .ok (fs, _) => decide (fs.length ≤ 1000000) && fs.all fitF
    | .error _ => true
  | .error _ => true
section
variable {P : Program} {w : World} {K : PySem.W.Frag} {mg : Str → Option Value} {base h : Heap}
variable {l p : Addr} {H0 G0 H G H' G' : Hp} {vs ws : List V} {o : HO}
def spProg (K : PySem.W.Frag) : Sp := fun vs H Q E => ∃ (z : Str) (G : Hp), vs = [.str z] ∧ Same G H ∧ z.length ≤ 900000 ∧ srcFit z.cps.toList = true ∧ Post0 K H G (fun G v fs => LstR (FnR K G) G v fs) Q E (mRead z.cps.toList)
theorem p_prog (T : Txt K w mg h) : Prom P w K mg base "read_program" 12 (spProg K) := by
  obtain ⟨fd, F⟩ := f_read_program T
  refine ⟨_, fd, ["source"], g_read_program T, F.kp, F.bindsN fun _ _ _ _ _ _ us hl => match us, hl with | [_], _ => rfl, ?_⟩
  refine F.ok sc_read_program (fun vs H Q E h => ?_) (fun cdv A outer s H vs Q E hr h => ?_)
  · obtain ⟨z, G, rfl, _⟩ := h
    rfl
  · obtain ⟨z, G, rfl, g, hl, hfit, q⟩ := h
    have nd := sc_read_program.nd
    have hr5 : Room 5 _ := hr.mono (by decide)
    have hr6 : Room 6 _ := hr.mono (by decide)
    refine ⟨_, pss_cons (ps_set (i := 1) nd rfl (.inl rfl) (pe_p (p_toks T) hr (passW (takes_of rfl rfl rfl rfl) fun _ _ _ _ z => z) (pa_cons (pe_p (p_rdtoks T) hr5 (passW (takes_of rfl rfl rfl rfl) fun _ _ _ _ z => z) (pa_cons (pv 0) pa_nil)) pa_nil)))
      (pss_cons (ps_expr (pe_p (p_check T) hr6 (passW (takes_of rfl rfl rfl rfl) fun _ _ _ _ z => z) (pa_cons (pv 1) pa_nil)))
      (pss_one (ps_ret (pv 1)))), ?_⟩
    unfold mRead at q
    unfold srcFit at hfit
    refine ⟨_, rfl, z, G, rfl, g, hl, q.seqA (At0.refl g) fun ts v H1 G1 e1 s1 x1 A1 hv q1 => ?_⟩
    obtain ⟨tl, us, rfl, htl, pts⟩ := hv
    rw [e1] at hfit
    dsimp only at hfit
    have hle : ts.length ≤ 1000000 ∧ EndOk ts := by
      unfold mLex at e1
      have := lexLs_len _ _ _ e1
      rw [wt_spl, z_len] at this
      exact ⟨by have := this.1; simp at this; omega, this.2⟩
    have q2 : Post0 K H G (fun G v fs => LstR (FnR K G) G v fs) Q E ((pProg ts >>= fun a => .ok a.1) >>= fun fs => mCheck fs >>= fun _ => .ok fs) := by
      rw [bindA]
      exact q1
    refine ⟨tl, G1, ts, us, rfl, A1.g, htl, pts, hle.1, hle.2, q2.seqA A1 fun fs v2 H2 G2 e2 s2 x2 A2 hv2 q3 => ?_⟩
    obtain ⟨fl, fvs, rfl, hfl, pfs⟩ := hv2
    have hfs : fs.length ≤ 1000000 ∧ ∀ f ∈ fs, fitF f = true := by
      cases e3 : pProg ts with
      | error er => rw [e3] at e2; cases e2
      | ok pr =>
        obtain ⟨gs, rr⟩ := pr
        rw [e3] at e2 hfit
        cases e2
        simp only [Bool.and_eq_true, decide_eq_true_eq, List.all_eq_true] at hfit
        exact hfit
    refine ⟨_, rfl, G2, fl, fvs, fs, rfl, A2.g, hfl, pfs, hfs.1, hfs.2, q3.seqA A2 fun u v3 H3 G3 e4 s3 x3 A3 hv3 q4 => ?_⟩
    exact ⟨_, rfl, q4.retA A3 ⟨fl, fvs, rfl, x3.le _ _ hfl, pmono (fun _ _ => FnR.mono x3.le) pfs⟩⟩
end
end Fs
-- FsXB
set_option Elab.async false
set_option linter.all false
set_option maxRecDepth 100000
set_option maxHeartbeats 8000000
namespace Fs
open PySem PySem.Spec PyProof.Rows L2
theorem reps_list (a : Array Nat) : ∀ (k : Nat) (acc : Array Nat), ((List.replicate k a).foldl (· ++ ·) acc) = acc ++ (List.replicate k a.toList).flatten.toArray
  | 0, acc => by simp
  | k + 1, acc => by
    rw [List.replicate_succ, List.foldl_cons, reps_list a k, List.replicate_succ, List.flatten_cons]
    apply Array.ext'
    simp
theorem rep_len (l : List Nat) : ∀ n : Nat, ((List.replicate n l).flatten).length = n * l.length
  | 0 => by simp
  | n + 1 => by rw [List.replicate_succ, List.flatten_cons, List.length_append, rep_len l n, Nat.succ_mul]; omega
section
variable {X : Cx}
/-- a text times a number of at least 1 -/
def rMulS : R2 := fun x y H Q => ∃ (z : Str) (n : Nat), x = .str z ∧ y = .int (n : Int) ∧ 1 ≤ n ∧ n ≤ 1000 ∧ z.length ≤ 1000 ∧ Q (.str (mkS (List.replicate n z.cps.toList).flatten)) H
theorem op_mulS : OpR X (binaryOp .Mult) rMulS := by
  intro pins s σ H x y v u Q I rx ry h
  obtain ⟨z, n, rfl, rfl, h1, h2, h3, q⟩ := h
  obtain ⟨t, rfl⟩ := rx
  obtain ⟨t', rfl⟩ := ry
  have hn : ¬ ((n : Int) < 1) := by omega
  have hm : z.length * n ≤ 1000 * 1000 := Nat.mul_le_mul h3 h2
  have hlong : Builtin.Str.tooLong (z.length * n) = false := decide_eq_false (by
    have : (1000000 : Nat) ≤ sizeLine := by decide
    omega)
  have eq : (⟨(List.replicate n z.cps).foldl (· ++ ·) #[]⟩ : Str) = mkS (List.replicate n z.cps.toList).flatten := by
    rw [reps_list]
    apply str_eq
    simp
  refine PySem.P.mul_str ?_ (fun _ _ => ?_) (fun _ _ => ?_) ?_
  · rw [decide_eq_false (by omega), decide_eq_false (by omega)]; rfl
  · have : (1000 : Int) ≤ (2 ^ 63 - 1) / (n : Int) := (Int.le_ediv_iff_mul_le (by omega)).mpr (by omega)
    omega
  · rw [Int.toNat_natCast]
    exact hlong
  · rw [if_neg hn, Int.toNat_natCast]
    by_cases hc : ((n : Int) == 1 || z.length == 0) = true
    · rw [if_pos hc]
      refine ⟨.str z, H, I, ⟨_, rfl⟩, ?_⟩
      have e : mkS (List.replicate n z.cps.toList).flatten = z := by
        simp only [Bool.or_eq_true, beq_iff_eq] at hc
        rcases hc with hc | hc
        · have : n = 1 := by omega
          subst this
          show mkS (z.cps.toList ++ []) = z
          rw [List.append_nil]
        · have hz : z.cps.toList = [] := List.eq_nil_of_length_eq_zero (by rw [z_len]; exact hc)
          apply str_eq
          rw [mkS_tl, hz]
          simp
      rw [← e]
      exact q
    · rw [if_neg hc]
      refine ⟨?_, .str _, H, I.tok _, ⟨_, rfl⟩, ?_⟩
      · rw [eq, ← z_len, mkS_tl, rep_len, z_len, Nat.mul_comm]
        exact szL (by omega)
      · rw [eq]
        exact q
end
end Fs
-- FsXC
set_option Elab.async false
set_option linter.all false
set_option maxRecDepth 100000
set_option maxHeartbeats 8000000
namespace Fs
open PySem PySem.Spec PyProof.Rows L2
/-! ## writing -/
theorem cutFrom1 (xs : List V) : cutV xs (some 1) none = xs.drop 1 := by
  unfold cutV
  rw [show HT.sIx xs.length 0 (some 1) = min 1 xs.length from HT.sIx_nat xs.length 0 1, HT.sIx_none]
  cases xs with
  | nil => rfl
  | cons x r =>
    rw [show min 1 (x :: r).length = 1 by rw [List.length_cons]; omega]
    show (List.take ((x :: r).length - 1) r) = r
    rw [List.length_cons, Nat.add_sub_cancel]
    exact List.take_length
def wPairs (os : List Str) (ts : List Tok) : List Str := (os.zip ts).flatMap fun p => [p.1, p.2.text]
theorem wExprL_eq : ∀ (os : List Str) (ts : List Tok), wExprL os ts = (wPairs os ts).map txt
  | [], [] => rfl
  | [], _ :: _ => rfl
  | _ :: _, [] => rfl
  | o :: os, t :: ts => by
    unfold wExprL
    rw [wExprL_eq os ts]
    rfl
theorem joinL_len (a : Nat) : ∀ ys : List (List Nat), (ys.map (·.length)).sum + ys.length ≤ (TL.joinL [a] ys).length + 1
  | [] => by simp
  | [p] => by simp [TL.joinL]
  | p :: q :: r => by
    have := joinL_len a (q :: r)
    show p.length + ((q :: r).map (·.length)).sum + ((q :: r).length + 1) ≤ (p ++ ([a] ++ TL.joinL [a] (q :: r))).length + 1
    rw [List.length_append, List.length_append]
    show _ ≤ p.length + (1 + _) + 1
    omega
def fitE (e : Ex) : Bool := decide (e.terms.length = e.ops.length + 1) && decide ((wExpr e).length ≤ 100000)
theorem stxt : ∀ ys : List Str, ys.map (SX.S ∘ txt) = ys
  | [] => rfl
  | y :: l => by rw [List.map_cons, stxt l]; rfl
theorem join_txt (a : List Nat) (ys : List Str) : Txt.join (mkS a) ys = mkS (TL.joinL a (ys.map txt)) := by
  have e := SX.join_S a (ys.map txt)
  rw [List.map_map] at e
  rw [stxt ys] at e
  exact e
section
variable {P : Program} {w : World} {K : PySem.W.Frag} {mg : Str → Option Value} {base h : Heap}
variable {l p : Addr} {H0 G0 H G H' G' : Hp} {vs ws : List V} {o : HO}
def spWE (K : PySem.W.Frag) : Sp := fun vs H Q E => ∃ (G : Hp) (v : V) (e : Ex), vs = [v] ∧ Same G H ∧ ExR K G v e ∧ fitE e = true ∧ ∀ H', Same H H' → Q (.str (mkS (wExpr e))) H'
theorem strs_of {us : List V} {os : List Str} (h : Paired StrR us os) : us = os.map V.str := by
  induction h with
  | nil => rfl
  | cons r p ih => rw [List.map_cons, ← ih, show _ = _ from r]
theorem p_we (T : Txt K w mg h) : Prom P w K mg base "write_expression" 1 (spWE K) := by
  obtain ⟨fd, F⟩ := f_write_expression T
  refine ⟨_, fd, ["expression"], g_write_expression T, F.kp, F.bindsN fun _ _ _ _ _ _ us hl => match us, hl with | [_], _ => rfl, ?_⟩
  refine F.ok sc_write_expression (fun vs H Q E h => ?_) (fun cdv A outer s H vs Q E hr h => ?_)
  · obtain ⟨G, v, e, rfl, _⟩ := h
    rfl
  · obtain ⟨G, v, e, rfl, g, he, hfit, q⟩ := h
    have nd := sc_write_expression.nd
    refine ⟨_, pss_cons (ps_set (i := 1) nd rfl (.inl rfl) (pe_lst (pa_cons (pe_fld (pe_ix ix_list (pe_fld (pv 0) rfl) pe_int (fun _ _ => rfl)) rfl) pa_nil)))
      (pss_cons (ps_for (passes_of rfl) rfl (pi_zip (by rfl) (b_zip T) (pa_cons (pe_fld (pv 0) rfl) (pa_cons (pe_slice sl_list (pe_fld (pv 0) rfl) (po_some pe_int) po_none) pa_nil))) (pg_tup rfl (pgs_cons (pg_name (i := 2) nd rfl (.inl rfl)) (pgs_cons (pg_name (i := 3) nd rfl (.inl rfl)) pgs_nil)))
        (pss_one (ps_expr (pe_bm PySem.F.plainAttrs_list PySem.F.slot_list_extend PySem.F.type_list_extend mt_extend (pv 1) (pa_cons (pe_lst (pa_cons (pv 2) (pa_cons (pe_fld (pv 3) rfl) pa_nil))) pa_nil)))))
      (pss_one (ps_ret (pe_join pe_str (pv 1))))), ?_⟩
    obtain ⟨ea, edx, tv, ov, rfl, hea, ⟨ta, tvs, rfl, hta, pts⟩, oa, ovs, rfl, hoa, pos⟩ := he
    unfold fitE at hfit
    simp only [Bool.and_eq_true, decide_eq_true_eq] at hfit
    obtain ⟨hl1, hl2⟩ := hfit
    have eo := strs_of pos
    subst eo
    obtain ⟨ts, os⟩ := e
    dsimp only at hl1 pts pos hoa
    obtain ⟨t0, ts, rfl⟩ : ∃ t0 ts', ts = t0 :: ts' := by
      cases ts with
      | nil => simp at hl1
      | cons a l => exact ⟨a, l, rfl⟩
    have hlen : ts.length = os.length := by simpa using hl1
    have hw : wExpr ⟨t0 :: ts, os⟩ = TL.joinL [32] ((t0.text :: wPairs os ts).map txt) := by
      unfold wExpr
      dsimp only
      rw [wExprL_eq]
      rfl
    have hj := joinL_len 32 ((t0.text :: wPairs os ts).map txt)
    rw [← hw] at hj
    cases pts with
    | cons r0 pts =>
      rename_i v0 tvs
      obtain ⟨t0a, t0dx, rfl, ht0, _⟩ := id r0
      refine ⟨_, rfl, ea, _, edx, _, .ref ta, rfl, g _ _ hea, c_Expression T, na_Expression_terms T, (by kernel_rfl), ta, _, 0, .ref t0a, rfl, rfl, SqL.of (g _ _ hta), atI_nat (j := 0) rfl, t0a, _, t0dx, _, .str t0.text, rfl, g _ _ ht0, c_Token T, na_Token_text T, (by kernel_rfl), (by show 1 ≤ sizeLine; decide), fun l nl => ?_⟩
      have A0 : At0 H G H G := At0.refl g
      have A1 := A0.new (o := .lst [.str t0.text]) nl
      have w1 : Own (upd H l (.lst [.str t0.text])) G l [.str t0.text] := Own.new g nl
      refine ⟨_, rfl, ea, _, edx, _, .ref oa, rfl, A1.g _ _ hea, c_Expression T, na_Expression_operators T, (by kernel_rfl), ?_⟩
      refine ⟨_, rfl, ea, _, edx, _, .ref ta, rfl, A1.g _ _ hea, c_Expression T, na_Expression_terms T, (by kernel_rfl), 1, rfl, ta, _, rfl, SqL.of (A1.g _ _ hta), fun c nc => ?_⟩
      have A2 := A1.newR (o := .lst (cutV (.ref t0a :: tvs) (some 1) none)) nc (same_upd nc) upd_same
      have w2 := w1.newR (o := .lst (cutV (.ref t0a :: tvs) (some 1) none)) nc (same_upd (o := .lst (cutV (.ref t0a :: tvs) (some 1) none)) nc)
      have hcut : cutV (.ref t0a :: tvs) (some 1) none = tvs := cutFrom1 _
      rw [hcut] at A2 w2 ⊢
      have lp := Paired.length pts
      have gc : Same G (upd G c (.lst tvs)) := newG (A1.g) nc
      refine ⟨oa, c, os.map V.str, tvs, rfl, SqL.of (A2.g _ _ (gc _ _ hoa)), SqL.of upd_same, ?_⟩
      refine RZ.for_zipL (xs := os.map V.str) (ys := tvs) (by rw [List.length_map]; omega) (fun i σ H' => ∃ (x2 x3 : Option V), σ = [some (.ref ea), some (.ref l), x2, x3] ∧ At0 H G H' (upd G c (.lst tvs)) ∧ Own H' (upd G c (.lst tvs)) l ((t0.text :: wPairs (os.take i) (ts.take i)).map V.str)) ⟨none, none, rfl, A2, w2⟩ (fun i σ H' z => by
        obtain ⟨x2, x3, _, A', _⟩ := z
        exact ⟨SqL.of (A'.g _ _ (gc _ _ hoa)), SqL.of (A'.g _ _ upd_same)⟩) (fun i x y T' σ H' hx hy z nT => ?_) (fun σ H' z => ?_)
      · obtain ⟨x2, x3, rfl, A', o1⟩ := z
        have A3 := A'.new (o := .tup [x, y]) nT
        have o3 := o1.add (o := .tup [x, y]) nT
        obtain ⟨t, ht, ty, tdx, rfl, hty, _⟩ := paired_getV pts hy
        obtain ⟨oo, hoo, rfl⟩ : ∃ oo, os[i]? = some oo ∧ x = .str oo := by
          rw [List.getElem?_map] at hx
          cases e : os[i]? with
          | none => rw [e] at hx; cases hx
          | some oo => rw [e] at hx; exact ⟨oo, rfl, (Option.some.inj hx).symm⟩
        have hpn : wPairs (os.take (i + 1)) (ts.take (i + 1)) = wPairs (os.take i) (ts.take i) ++ [oo, t.text] := by
          unfold wPairs
          rw [take_get hoo, take_get ht, List.zip_append (by rw [List.length_take, List.length_take, hlen]), List.flatMap_append]
          rfl
        refine ⟨T', _, rfl, SqT.of upd_same, rfl, _, _, rfl, _, _, rfl, rfl, ?_⟩
        refine ⟨_, rfl, .inl ⟨rfl, _, SqL.of o3.at_⟩, _, rfl, _, rfl, ty, _, tdx, _, .str t.text, rfl, A3.g _ _ (gc _ _ hty), c_Token T, na_Token_text T, (by kernel_rfl), (by show 2 ≤ sizeLine; decide), fun b nb => ?_⟩
        have A4 := A3.new (o := .lst [.str oo, .str t.text]) nb
        have o4 := o3.add (o := .lst [.str oo, .str t.text]) nb
        have hsz : (wPairs (os.take i) (ts.take i)).length ≤ 2 * i := by
          unfold wPairs
          rw [List.length_flatMap]
          have : ((os.take i).zip (ts.take i)).length ≤ i := by rw [List.length_zip, List.length_take, List.length_take]; omega
          have h2 : ∀ L : List (Str × Tok), (L.map fun p => [p.1, p.2.text].length).sum = 2 * L.length := fun L => by
            induction L with
            | nil => rfl
            | cons a L ih => rw [List.map_cons, List.sum_cons, ih]; show 2 + _ = _; rw [List.length_cons]; omega
          rw [h2]
          omega
        have hi : i < os.length := (List.getElem?_eq_some_iff.mp hoo).1
        have hos : os.length ≤ 200000 := by
          have h3 : os.length ≤ (wPairs os ts).length := by
            unfold wPairs
            rw [List.length_flatMap]
            have h2 : ∀ L : List (Str × Tok), (L.map fun p => [p.1, p.2.text].length).sum = 2 * L.length := fun L => by
              induction L with
              | nil => rfl
              | cons a L ih => rw [List.map_cons, List.sum_cons, ih]; show 2 + _ = _; rw [List.length_cons]; omega
            rw [h2, List.length_zip, hlen]
            omega
          rw [List.length_map, List.length_cons] at hj
          omega
        refine ⟨l, b, _, _, rfl, rfl, o4.at_, upd_same, szL (by rw [List.length_map, List.length_cons]; show _ + 2 ≤ _; omega), _, _, rfl, A4.put o4 nl, ?_⟩
        rw [hpn, ← List.cons_append, List.map_append]
        exact o4.set
      · obtain ⟨x2, x3, rfl, A', o1⟩ := z
        rw [List.length_map, List.take_of_length_le (Nat.le_refl _), List.take_of_length_le (by omega)] at o1
        refine ⟨⟨_, rfl⟩, _, rfl, " ", l, _, rfl, rfl, .inl (SqL.of o1.at_), ?_, ?_⟩
        · rw [List.map_map] at hj
          have e1 : ((t0.text :: wPairs os ts).map ((fun x => x.length) ∘ txt)) = (t0.text :: wPairs os ts).map (·.length) := by
            refine List.map_congr_left fun s _ => ?_
            show s.cps.toList.length = s.length
            exact z_len s
          rw [e1] at hj
          show _ + _ * 1 ≤ _
          rw [List.length_map] at hj
          omega
        · have e2 : Txt.join " " (t0.text :: wPairs os ts) = mkS (wExpr ⟨t0 :: ts, os⟩) := by
            rw [hw, ← join_txt]
            rfl
          rw [e2]
          exact q H' A'.sb
end
end Fs
-- FsXD
set_option Elab.async false
set_option linter.all false
set_option maxRecDepth 100000
set_option maxHeartbeats 8000000
namespace Fs
open PySem PySem.Spec PyProof.Rows L2
theorem atl (a b : Str) : (a ++ b).cps.toList = a.cps.toList ++ b.cps.toList := TL.tl_append a b
theorem sal (a b : Str) : (a ++ b).length = a.length + b.length := by rw [← z_len, atl, List.length_append, z_len, z_len]
theorem mkl (l : List Nat) : (mkS l).length = l.length := by rw [← z_len, mkS_tl]
theorem txl (s : Str) : (txt s).length = s.length := z_len s
theorem emp : Str.empty.length = 0 := rfl
theorem empl : Str.empty.cps.toList = [] := rfl
def fitW (s : St) : Bool := s.exprs.all fitE && (decide ((wHead s).length ≤ 1000000) && decide (s.exprs.length ≤ 1000000))
section
variable {P : Program} {w : World} {K : PySem.W.Frag} {mg : Str → Option Value} {base h : Heap}
variable {l p : Addr} {H0 G0 H G H' G' : Hp} {vs ws : List V} {o : HO}
def spWH (K : PySem.W.Frag) (ok : St → Prop) : Sp := fun vs H Q E => ∃ (G : Hp) (sv : Addr) (s : St), vs = [.ref sv] ∧ ok s ∧ Same G H ∧ StR K G (.ref sv) s ∧ fitW s = true ∧ ∀ H', Same H H' → Q (.str (mkS (wHead s))) H'
def okA : St → Prop | .asg _ _ _ => True | _ => False
def okV : St → Prop | .val _ _ => True | _ => False
def okI : St → Prop | .ite _ _ _ _ _ _ => True | _ => False
def okL : St → Prop | .loop _ _ _ => True | _ => False
def okC : St → Prop | .call _ _ _ _ _ _ _ => True | _ => False
theorem w_asg (T : Txt K w mg h) : PromAt P w K mg base (He.ga K "write_assignment") 2 (spWH K okA) := by
  obtain ⟨fd, F⟩ := f_write_assignment T
  refine ⟨fd, ["statement"], F.kp, F.bindsN fun _ _ _ _ _ _ us hl => match us, hl with | [_], _ => rfl, ?_⟩
  refine F.ok sc_write_assignment (fun vs H Q E h => ?_) (fun cdv A outer s H vs Q E hr h => ?_)
  · obtain ⟨G, sv, s, rfl, _⟩ := h
    rfl
  · obtain ⟨G, sv, s, rfl, hok, g, hs, hfit, q⟩ := h
    refine ⟨_, pss_one (ps_ret (pe_joined (.cons (pe_fmt (pe_fld (pe_fld (pv 0) rfl) rfl)) (.cons pe_str (.cons (pe_fmt (pe_fld (pe_fld (pv 0) rfl) rfl)) (.cons pe_str (.cons (pe_fmt (pe_p (p_we T) hr (passW (takes_of rfl rfl rfl rfl) fun _ _ _ _ z => z) (pa_cons (pe_fld (pv 0) rfl) pa_nil))) .nil))))))), ?_⟩
    cases s with
    | asg k t e =>
      unfold StR at hs
      obtain ⟨_, dx, k', t', e', e0, hh, hk, ht, he⟩ := hs
      cases e0
      unfold fitW at hfit
      simp only [Bool.and_eq_true, decide_eq_true_eq] at hfit
      obtain ⟨f1, f2, f3⟩ := hfit
      have fe : fitE e = true := List.all_eq_true.mp f1 e (by simp [St.exprs])
      obtain ⟨ka, kdx, rfl, hka, _⟩ := hk
      obtain ⟨ta, tdx, rfl, hta, _⟩ := ht
      have hwl : (wHead (.asg k t e)).length = k.text.length + 1 + t.text.length + 3 + (wExpr e).length := by
        unfold wHead
        simp only [List.length_append, txl]
        rfl
      have l1 : (" " : Str).length = 1 := by decide +kernel
      have l3 : (" = " : Str).length = 3 := by decide +kernel
      refine ⟨_, rfl, sv, _, dx, _, .ref ka, rfl, g _ _ hh, c_AssignStatement T, na_AssignStatement_keyword T, (by kernel_rfl), ka, _, kdx, _, .str k.text, rfl, g _ _ hka, c_Token T, na_Token_text T, (by kernel_rfl), .inl ⟨_, rfl, szL (by omega), _, rfl, szL (by simp only [sal, emp]; omega), ?_⟩⟩
      refine ⟨_, rfl, szL (by simp only [sal, emp]; omega), ?_⟩
      refine ⟨_, rfl, sv, _, dx, _, .ref ta, rfl, g _ _ hh, c_AssignStatement T, na_AssignStatement_target T, (by kernel_rfl), ta, _, tdx, _, .str t.text, rfl, g _ _ hta, c_Token T, na_Token_text T, (by kernel_rfl), .inl ⟨_, rfl, szL (by omega), _, rfl, szL (by simp only [sal, emp]; omega), ?_⟩⟩
      refine ⟨_, rfl, szL (by simp only [sal, emp]; omega), ?_⟩
      refine ⟨_, rfl, sv, _, dx, _, e', rfl, g _ _ hh, c_AssignStatement T, na_AssignStatement_expression T, (by kernel_rfl), G, e', e, rfl, g, he, fe, fun H' s' => .inl ⟨_, rfl, szL (by rw [mkl]; omega), _, rfl, szL (by simp only [sal, emp, mkl]; omega), ?_⟩⟩
      have eq : Str.empty ++ k.text ++ " " ++ t.text ++ " = " ++ mkS (wExpr e) = mkS (wHead (.asg k t e)) := by
        apply str_eq
        simp only [atl, empl, mkS_tl, List.nil_append]
        rfl
      show Q _ H'
      rw [eq]
      exact q H' s'
    | val k e => exact hok.elim
    | ite k l c r b1 b2 => exact hok.elim
    | loop k e b => exact hok.elim
    | call k t f as p q fb => exact hok.elim
end
end Fs
-- FsXE
set_option Elab.async false
set_option linter.all false
set_option maxRecDepth 100000
set_option maxHeartbeats 8000000
namespace Fs
open PySem PySem.Spec PyProof.Rows L2
section
variable {P : Program} {w : World} {K : PySem.W.Frag} {mg : Str → Option Value} {base h : Heap}
variable {l p : Addr} {H0 G0 H G H' G' : Hp} {vs ws : List V} {o : HO}
theorem w_val (T : Txt K w mg h) : PromAt P w K mg base (He.ga K "write_value") 2 (spWH K okV) := by
  obtain ⟨fd, F⟩ := f_write_value T
  refine ⟨fd, ["statement"], F.kp, F.bindsN fun _ _ _ _ _ _ us hl => match us, hl with | [_], _ => rfl, ?_⟩
  refine F.ok sc_write_value (fun vs H Q E h => ?_) (fun cdv A outer s H vs Q E hr h => ?_)
  · obtain ⟨G, sv, s, rfl, _⟩ := h
    rfl
  · obtain ⟨G, sv, s, rfl, hok, g, hs, hfit, q⟩ := h
    refine ⟨_, pss_one (ps_ret (pe_joined (.cons (pe_fmt (pe_fld (pe_fld (pv 0) rfl) rfl)) (.cons pe_str (.cons (pe_fmt (pe_p (p_we T) hr (passW (takes_of rfl rfl rfl rfl) fun _ _ _ _ z => z) (pa_cons (pe_fld (pv 0) rfl) pa_nil))) .nil))))), ?_⟩
    cases s with
    | val k e =>
      unfold StR at hs
      obtain ⟨_, dx, k', e', e0, hh, hk, he⟩ := hs
      cases e0
      unfold fitW at hfit
      simp only [Bool.and_eq_true, decide_eq_true_eq] at hfit
      obtain ⟨f1, f2, f3⟩ := hfit
      have fe : fitE e = true := List.all_eq_true.mp f1 e (by simp [St.exprs])
      obtain ⟨ka, kdx, rfl, hka, _⟩ := hk
      have hwl : (wHead (.val k e)).length = k.text.length + 1 + (wExpr e).length := by
        unfold wHead
        simp only [List.length_append, txl]
        rfl
      have l1 : (" " : Str).length = 1 := by decide +kernel
      refine ⟨_, rfl, sv, _, dx, _, .ref ka, rfl, g _ _ hh, c_ValueStatement T, na_ValueStatement_keyword T, (by kernel_rfl), ka, _, kdx, _, .str k.text, rfl, g _ _ hka, c_Token T, na_Token_text T, (by kernel_rfl), .inl ⟨_, rfl, szL (by omega), _, rfl, szL (by simp only [sal, emp]; omega), ?_⟩⟩
      refine ⟨_, rfl, szL (by simp only [sal, emp]; omega), ?_⟩
      refine ⟨_, rfl, sv, _, dx, _, e', rfl, g _ _ hh, c_ValueStatement T, na_ValueStatement_expression T, (by kernel_rfl), G, e', e, rfl, g, he, fe, fun H' s' => .inl ⟨_, rfl, szL (by rw [mkl]; omega), _, rfl, szL (by simp only [sal, emp, mkl]; omega), ?_⟩⟩
      have eq : Str.empty ++ k.text ++ " " ++ mkS (wExpr e) = mkS (wHead (.val k e)) := by
        apply str_eq
        simp only [atl, empl, mkS_tl, List.nil_append]
        rfl
      show Q _ H'
      rw [eq]
      exact q H' s'
    | asg k t e => exact hok.elim
    | ite k l c r b1 b2 => exact hok.elim
    | loop k e b => exact hok.elim
    | call k t f as p q fb => exact hok.elim
theorem w_loop (T : Txt K w mg h) : PromAt P w K mg base (He.ga K "write_loop") 2 (spWH K okL) := by
  obtain ⟨fd, F⟩ := f_write_loop T
  refine ⟨fd, ["statement"], F.kp, F.bindsN fun _ _ _ _ _ _ us hl => match us, hl with | [_], _ => rfl, ?_⟩
  refine F.ok sc_write_loop (fun vs H Q E h => ?_) (fun cdv A outer s H vs Q E hr h => ?_)
  · obtain ⟨G, sv, s, rfl, _⟩ := h
    rfl
  · obtain ⟨G, sv, s, rfl, hok, g, hs, hfit, q⟩ := h
    refine ⟨_, pss_one (ps_ret (pe_joined (.cons pe_str (.cons (pe_fmt (pe_p (p_we T) hr (passW (takes_of rfl rfl rfl rfl) fun _ _ _ _ z => z) (pa_cons (pe_fld (pv 0) rfl) pa_nil))) .nil)))), ?_⟩
    cases s with
    | loop k e b =>
      unfold StR at hs
      obtain ⟨_, dx, k', e', f, vf, e0, hh, hk, he, _⟩ := hs
      cases e0
      unfold fitW at hfit
      simp only [Bool.and_eq_true, decide_eq_true_eq] at hfit
      obtain ⟨f1, f2, f3⟩ := hfit
      have fe : fitE e = true := List.all_eq_true.mp f1 e (by simp [St.exprs])
      have hwl : (wHead (.loop k e b)).length = 5 + (wExpr e).length := by
        unfold wHead
        simp only [List.length_append]
        rfl
      have l5 : ("loop " : Str).length = 5 := by decide +kernel
      refine ⟨_, rfl, szL (by simp only [sal, emp]; omega), ?_⟩
      refine ⟨_, rfl, sv, _, dx, _, e', rfl, g _ _ hh, c_LoopStatement T, na_LoopStatement_times T, (by kernel_rfl), G, e', e, rfl, g, he, fe, fun H' s' => .inl ⟨_, rfl, szL (by rw [mkl]; omega), _, rfl, szL (by simp only [sal, emp, mkl]; omega), ?_⟩⟩
      have eq : Str.empty ++ "loop " ++ mkS (wExpr e) = mkS (wHead (.loop k e b)) := by
        apply str_eq
        simp only [atl, empl, mkS_tl, List.nil_append]
        rfl
      show Q _ H'
      rw [eq]
      exact q H' s'
    | asg k t e => exact hok.elim
    | ite k l c r b1 b2 => exact hok.elim
    | val k e => exact hok.elim
    | call k t f as p q fb => exact hok.elim
theorem w_if (T : Txt K w mg h) : PromAt P w K mg base (He.ga K "write_if") 2 (spWH K okI) := by
  obtain ⟨fd, F⟩ := f_write_if T
  refine ⟨fd, ["statement"], F.kp, F.bindsN fun _ _ _ _ _ _ us hl => match us, hl with | [_], _ => rfl, ?_⟩
  refine F.ok sc_write_if (fun vs H Q E h => ?_) (fun cdv A outer s H vs Q E hr h => ?_)
  · obtain ⟨G, sv, s, rfl, _⟩ := h
    rfl
  · obtain ⟨G, sv, s, rfl, hok, g, hs, hfit, q⟩ := h
    have nd := sc_write_if.nd
    refine ⟨_, pss_cons (ps_set (i := 1) nd rfl (.inl rfl) (pe_p (p_we T) hr (passW (takes_of rfl rfl rfl rfl) fun _ _ _ _ z => z) (pa_cons (pe_fld (pv 0) rfl) pa_nil))) (pss_cons (ps_set (i := 2) nd rfl (.inl rfl) (pe_p (p_we T) hr (passW (takes_of rfl rfl rfl rfl) fun _ _ _ _ z => z) (pa_cons (pe_fld (pv 0) rfl) pa_nil)))
      (pss_one (ps_ret (pe_joined (.cons pe_str (.cons (pe_fmt (pv 1)) (.cons pe_str (.cons (pe_fmt (pe_fld (pv 0) rfl)) (.cons pe_str (.cons (pe_fmt (pv 2)) .nil)))))))))), ?_⟩
    cases s with
    | ite k le c r b1 b2 =>
      unfold StR at hs
      obtain ⟨_, dx, k', l', r', f, s, vf, vs, e0, hh, hk, hl, hr', _⟩ := hs
      cases e0
      unfold fitW at hfit
      simp only [Bool.and_eq_true, decide_eq_true_eq] at hfit
      obtain ⟨f1, f2, f3⟩ := hfit
      have fl : fitE le = true := List.all_eq_true.mp f1 le (by simp [St.exprs])
      have fr : fitE r = true := List.all_eq_true.mp f1 r (by simp [St.exprs])
      have hwl : (wHead (.ite k le c r b1 b2)).length = 3 + (wExpr le).length + 1 + c.length + 1 + (wExpr r).length := by
        unfold wHead
        simp only [List.length_append, txl]
        rfl
      have l1 : (" " : Str).length = 1 := by decide +kernel
      have l3 : ("if " : Str).length = 3 := by decide +kernel
      refine ⟨_, rfl, sv, _, dx, _, l', rfl, g _ _ hh, c_IfStatement T, na_IfStatement_left T, (by kernel_rfl), G, l', le, rfl, g, hl, fl, fun H1 s1 => ?_⟩
      have g1 := g.trans s1
      refine ⟨_, rfl, sv, _, dx, _, r', rfl, g1 _ _ hh, c_IfStatement T, na_IfStatement_right T, (by kernel_rfl), G, r', r, rfl, g1, hr', fr, fun H2 s2 => ?_⟩
      have g2 := g1.trans s2
      refine ⟨_, rfl, szL (by simp only [sal, emp]; omega), ?_⟩
      refine ⟨_, rfl, .inl ⟨_, rfl, szL (by rw [mkl]; omega), _, rfl, szL (by simp only [sal, emp, mkl]; omega), ?_⟩⟩
      refine ⟨_, rfl, szL (by simp only [sal, emp, mkl]; omega), ?_⟩
      refine ⟨_, rfl, sv, _, dx, _, .str c, rfl, g2 _ _ hh, c_IfStatement T, na_IfStatement_comparison T, (by kernel_rfl), .inl ⟨_, rfl, szL (by omega), _, rfl, szL (by simp only [sal, emp, mkl]; omega), ?_⟩⟩
      refine ⟨_, rfl, szL (by simp only [sal, emp, mkl]; omega), ?_⟩
      refine ⟨_, rfl, .inl ⟨_, rfl, szL (by rw [mkl]; omega), _, rfl, szL (by simp only [sal, emp, mkl]; omega), ?_⟩⟩
      have eq : Str.empty ++ "if " ++ mkS (wExpr le) ++ " " ++ c ++ " " ++ mkS (wExpr r) = mkS (wHead (.ite k le c r b1 b2)) := by
        apply str_eq
        simp only [atl, empl, mkS_tl, List.nil_append]
        rfl
      show Q _ H2
      rw [eq]
      exact q H2 (s1.trans s2)
    | asg k t e => exact hok.elim
    | loop k e b => exact hok.elim
    | val k e => exact hok.elim
    | call k t f as p q fb => exact hok.elim
end
end Fs
-- FsXF
set_option Elab.async false
set_option linter.all false
set_option maxRecDepth 100000
set_option maxHeartbeats 8000000
namespace Fs
open PySem PySem.Spec PyProof.Rows L2
section
variable {P : Program} {w : World} {K : PySem.W.Frag} {mg : Str → Option Value} {base h : Heap}
variable {l p : Addr} {H0 G0 H G H' G' : Hp} {vs ws : List V} {o : HO}
theorem passF {X : Cx} : Passes (L2.CX X.prog X.w) X (fun _ _ _ => False) := fun _ _ _ _ _ _ _ ⟨_, _, _, _, _, _, _, _, _, _, _, _, e⟩ => e.elim
theorem joinL2_len (a b : Nat) : ∀ ys : List (List Nat), (ys.map (·.length)).sum + ys.length * 2 ≤ (TL.joinL [a, b] ys).length + 2
  | [] => by simp
  | [p] => by simp [TL.joinL]
  | p :: q :: r => by
    have := joinL2_len a b (q :: r)
    show p.length + ((q :: r).map (·.length)).sum + ((q :: r).length + 1) * 2 ≤ (p ++ ([a, b] ++ TL.joinL [a, b] (q :: r))).length + 2
    rw [List.length_append, List.length_append]
    show _ ≤ p.length + (2 + _) + 2
    omega
theorem w_call (T : Txt K w mg h) : PromAt P w K mg base (He.ga K "write_call") 2 (spWH K okC) := by
  obtain ⟨fd, F⟩ := f_write_call T
  refine ⟨fd, ["statement"], F.kp, F.bindsN fun _ _ _ _ _ _ us hl => match us, hl with | [_], _ => rfl, ?_⟩
  refine F.ok sc_write_call (fun vs H Q E h => ?_) (fun cdv A outer s H vs Q E hr h => ?_)
  · obtain ⟨G, sv, s, rfl, _⟩ := h
    rfl
  · obtain ⟨G, sv, s, rfl, hok, g, hs, hfit, q⟩ := h
    have nd := sc_write_call.nd
    refine ⟨_, pss_cons (ps_set (i := 1) nd rfl (.inl rfl) (pe_join pe_str (pe_lc (own := [("argument", 2)]) (g := gName 2) (tt := tYes) (te := tCall (spWE K) [] (fun _ _ _ => False) (tCons (tVar 2) tNil)) rfl nd (pi_list (pe_fld (pv 0) rfl)) (blkOk_by (N := n_write_call) (sc := defScope s_write_call) (by decide +kernel)) (fun _ _ _ _ _ => pg_name (i := 2) nd rfl (Or.inl rfl)) (fun _ _ _ _ _ => pts_nil) (fun _ _ _ _ _ => by exact pe_p (p_we T) hr passF (pa_cons (pv 2) pa_nil)))))
      (pss_cons (ps_set (i := 3) nd rfl (.inl rfl) (pe_joined (.cons (pe_fmt (pe_fld (pe_fld (pv 0) rfl) rfl)) (.cons pe_str (.cons (pe_fmt (pv 1)) (.cons pe_str .nil))))))
      (pss_cons (ps_asg (pe_fld (pv 0) rfl) (pg_tup rfl (pgs_cons (pg_name (i := 4) nd rfl (.inl rfl)) (pgs_cons (pg_name (i := 5) nd rfl (.inl rfl)) pgs_nil))))
      (pss_cons (ps_set (i := 6) nd rfl (.inl rfl) (pe_p (p_we T) hr (passW (takes_of rfl rfl rfl rfl) fun _ _ _ _ z => z) (pa_cons (pe_fld (pv 0) rfl) pa_nil)))
      (pss_one (ps_ret (pe_joined (.cons pe_str (.cons (pe_fmt (pe_fld (pe_fld (pv 0) rfl) rfl)) (.cons pe_str (.cons (pe_fmt (pv 3)) (.cons pe_str (.cons (pe_fmt (pe_fld (pv 4) rfl)) (.cons pe_str (.cons (pe_fmt (pe_fld (pv 5) rfl)) (.cons pe_str (.cons (pe_fmt (pv 6)) .nil)))))))))))))))), ?_⟩
    cases s with
    | call k t f as pp qq fb =>
      unfold StR at hs
      obtain ⟨_, dx, k', t', f', as', s', fb', e0, hh, hk, ht, hf, ⟨la, us, rfl, hla, pu⟩, ⟨sa, p', q', rfl, hsa, hp, hq⟩, hfb⟩ := hs
      cases e0
      unfold fitW at hfit
      simp only [Bool.and_eq_true, decide_eq_true_eq] at hfit
      obtain ⟨f1, f2, f3⟩ := hfit
      have ffb : fitE fb = true := List.all_eq_true.mp f1 fb (by simp [St.exprs])
      have fas : ∀ e ∈ as, fitE e = true := fun e he => List.all_eq_true.mp f1 e (by simp [St.exprs, he])
      have hwl : (wHead (.call k t f as pp qq fb)).length = 5 + t.text.length + 3 + (f.text.length + 1 + (TL.joinL [44, 32] (as.map wExpr)).length + 1) + 7 + pp.text.length + 1 + qq.text.length + 6 + (wExpr fb).length := by
        unfold wHead
        simp only [List.length_append, txl]
        rfl
      have hjl := joinL2_len 44 32 (as.map wExpr)
      rw [List.length_map] at hjl
      obtain ⟨ta, tdx, rfl, hta, _⟩ := ht
      obtain ⟨fa, fdx, rfl, hfa, _⟩ := hf
      obtain ⟨pa, pdx, rfl, hpa, _⟩ := hp
      obtain ⟨qa, qdx, rfl, hqa, _⟩ := hq
      have lu := Paired.length pu
      have ls1 : ("call " : Str).length = 5 := by decide +kernel
      have ls2 : (" = " : Str).length = 3 := by decide +kernel
      have ls3 : (" share " : Str).length = 7 := by decide +kernel
      have ls4 : ("/" : Str).length = 1 := by decide +kernel
      have ls5 : (" else " : Str).length = 6 := by decide +kernel
      have ls6 : ("(" : Str).length = 1 := by decide +kernel
      have ls7 : (")" : Str).length = 1 := by decide +kernel
      refine ⟨⟨_, rfl⟩, _, rfl, sv, _, dx, _, .ref la, rfl, g _ _ hh, c_CallStatement T, na_CallStatement_arguments T, (by kernel_rfl), la, rfl, ⟨_, SqL.of (g _ _ hla)⟩, fun D nD => ?_⟩
      refine lc_list (xs := us) (fun i H' => At0 H G H' G ∧ Own H' G D ((as.take i).map fun e => V.str (mkS (wExpr e)))) ⟨(At0.refl g).new nD, Own.new g nD⟩ (fun i H' _ z => SqL.of (z.1.g _ _ hla)) (fun i x H' hx z => ?_) (fun H1 z => ?_)
      · obtain ⟨A', o1⟩ := z
        obtain ⟨e, he, re⟩ := paired_getV pu hx
        have hi : i < as.length := (List.getElem?_eq_some_iff.mp he).1
        refine ⟨rfl, _, rfl, G, x, e, rfl, A'.g, re, fas e (List.mem_of_getElem? he), fun H2 s2 => ?_⟩
        have o2 := o1.more s2
        refine ⟨_, o2.at_, Nat.lt_of_le_of_lt (show _ ≤ 1000000 by rw [List.length_map, List.length_take]; omega) (by decide), (A'.more s2).put o2 nD, ?_⟩
        rw [take_get he, List.map_append]
        exact o2.set
      · obtain ⟨A1, o1⟩ := z
        rw [lu, List.take_length] at o1
        have em : as.map (fun e => V.str (mkS (wExpr e))) = (as.map fun e => mkS (wExpr e)).map V.str := by rw [List.map_map]; rfl
        rw [em] at o1
        have esum : ((as.map fun e => mkS (wExpr e)).map (·.length)) = (as.map wExpr).map (·.length) := by
          rw [List.map_map, List.map_map]
          refine List.map_congr_left fun e _ => ?_
          exact mkl _
        have ejoin : Txt.join ", " (as.map fun e => mkS (wExpr e)) = mkS (TL.joinL [44, 32] (as.map wExpr)) := by
          have := SX.join_S [44, 32] (as.map wExpr)
          rw [List.map_map] at this
          exact this
        refine ⟨", ", D, as.map fun e => mkS (wExpr e), rfl, rfl, .inl (SqL.of o1.at_), ?_, ?_⟩
        · rw [esum, List.length_map]
          show _ + as.length * 2 ≤ _
          omega
        rw [ejoin]
        refine ⟨_, rfl, sv, _, dx, _, .ref fa, rfl, A1.g _ _ hh, c_CallStatement T, na_CallStatement_function T, (by kernel_rfl), fa, _, fdx, _, .str f.text, rfl, A1.g _ _ hfa, c_Token T, na_Token_text T, (by kernel_rfl), .inl ⟨_, rfl, szL (by omega), _, rfl, szL (by simp only [sal, emp]; omega), ?_⟩⟩
        refine ⟨_, rfl, szL (by simp only [sal, emp]; omega), ?_⟩
        refine ⟨_, rfl, .inl ⟨_, rfl, szL (by rw [mkl]; omega), _, rfl, szL (by simp only [sal, emp, mkl]; omega), ?_⟩⟩
        refine ⟨_, rfl, szL (by simp only [sal, emp, mkl]; omega), ?_⟩
        refine ⟨_, rfl, sv, _, dx, _, .ref sa, rfl, A1.g _ _ hh, c_CallStatement T, na_CallStatement_share T, (by kernel_rfl), sa, _, rfl, SqT.of (A1.g _ _ hsa), rfl, _, _, rfl, _, _, rfl, rfl, ?_⟩
        refine ⟨_, rfl, sv, _, dx, _, fb', rfl, A1.g _ _ hh, c_CallStatement T, na_CallStatement_fallback T, (by kernel_rfl), G, fb', fb, rfl, A1.g, hfb, ffb, fun H2 s2 => ?_⟩
        have g2 := A1.g.trans s2
        refine ⟨_, rfl, szL (by simp only [sal, emp]; omega), ?_⟩
        refine ⟨_, rfl, sv, _, dx, _, .ref ta, rfl, g2 _ _ hh, c_CallStatement T, na_CallStatement_target T, (by kernel_rfl), ta, _, tdx, _, .str t.text, rfl, g2 _ _ hta, c_Token T, na_Token_text T, (by kernel_rfl), .inl ⟨_, rfl, szL (by omega), _, rfl, szL (by simp only [sal, emp]; omega), ?_⟩⟩
        refine ⟨_, rfl, szL (by simp only [sal, emp]; omega), ?_⟩
        refine ⟨_, rfl, .inl ⟨_, rfl, szL (by simp only [sal, emp, mkl]; omega), _, rfl, szL (by simp only [sal, emp, mkl]; omega), ?_⟩⟩
        refine ⟨_, rfl, szL (by simp only [sal, emp, mkl]; omega), ?_⟩
        refine ⟨_, rfl, pa, _, pdx, _, .str pp.text, rfl, g2 _ _ hpa, c_Token T, na_Token_text T, (by kernel_rfl), .inl ⟨_, rfl, szL (by omega), _, rfl, szL (by simp only [sal, emp, mkl]; omega), ?_⟩⟩
        refine ⟨_, rfl, szL (by simp only [sal, emp, mkl]; omega), ?_⟩
        refine ⟨_, rfl, qa, _, qdx, _, .str qq.text, rfl, g2 _ _ hqa, c_Token T, na_Token_text T, (by kernel_rfl), .inl ⟨_, rfl, szL (by omega), _, rfl, szL (by simp only [sal, emp, mkl]; omega), ?_⟩⟩
        refine ⟨_, rfl, szL (by simp only [sal, emp, mkl]; omega), ?_⟩
        refine ⟨_, rfl, .inl ⟨_, rfl, szL (by rw [mkl]; omega), _, rfl, szL (by simp only [sal, emp, mkl]; omega), ?_⟩⟩
        have eq : Str.empty ++ "call " ++ t.text ++ " = " ++ (Str.empty ++ f.text ++ "(" ++ mkS (TL.joinL [44, 32] (as.map wExpr)) ++ ")") ++ " share " ++ pp.text ++ "/" ++ qq.text ++ " else " ++ mkS (wExpr fb) = mkS (wHead (.call k t f as pp qq fb)) := by
          apply str_eq
          simp only [atl, empl, mkS_tl, List.nil_append]
          rfl
        show Q _ H2
        rw [eq]
        exact q H2 (A1.sb.trans s2)
    | asg k t e => exact hok.elim
    | ite k l c r b1 b2 => exact hok.elim
    | val k e => exact hok.elim
    | loop k e b => exact hok.elim
end
end Fs
-- FsXG
set_option Elab.async false
set_option linter.all false
set_option maxRecDepth 100000
set_option maxHeartbeats 8000000
namespace Fs
open PySem PySem.Spec PyProof.Rows L2
def headOk : St → Bool
  | .asg k _ _ => decide (k.kind = "set") || decide (k.kind = "put")
  | .val k _ => decide (k.kind = "emit") || decide (k.kind = "return")
  | .ite k _ _ _ _ _ => decide (k.kind = "if")
  | .loop k _ _ => decide (k.kind = "loop")
  | .call k _ _ _ _ _ _ => decide (k.kind = "call")
def fB : Nat → List St → Bool
  | 0, ss => ss.isEmpty
  | m + 1, ss => ss.all fun s => headOk s && (fitW s && s.blocks.all (fB m))
def LV (L : List (List Nat)) : List V := L.map fun l => .str (mkS l)
theorem LV_app (a b : List (List Nat)) : LV (a ++ b) = LV a ++ LV b := List.map_append
theorem LV_len (a : List (List Nat)) : (LV a).length = a.length := List.length_map _
theorem wBlk_app (d : Nat) : ∀ a b : List St, wBlk d (a ++ b) = wBlk d a ++ wBlk d b
  | [], b => by rw [List.nil_append, wBlk, List.nil_append]
  | s :: a, b => by rw [List.cons_append, wBlk, wBlk_app d a b, wBlk, List.append_assoc]
theorem wBlk_one (d : Nat) (s : St) : wBlk d [s] = wSt d s := by rw [wBlk, wBlk, List.append_nil]
theorem ind_eq : ∀ d : Nat, (List.replicate d ("  " : Str).cps.toList).flatten = ind d
  | 0 => rfl
  | d + 1 => by
    rw [List.replicate_succ, List.flatten_cons, ind_eq d]
    have e : ("  " : Str).cps.toList = [32, 32] := by decide +kernel
    rw [e]
    show 32 :: 32 :: List.replicate (2 * d) 32 = List.replicate (2 * (d + 1)) 32
    rw [show 2 * (d + 1) = 2 * d + 1 + 1 by omega, List.replicate_succ, List.replicate_succ]
theorem ind_len (d : Nat) : (ind d).length = 2 * d := List.length_replicate
section
variable {P : Program} {w : World} {K : PySem.W.Frag} {mg : Str → Option Value} {base h : Heap}
variable {l p : Addr} {H0 G0 H G H' G' : Hp} {vs ws : List V} {o : HO}
inductive WrT (K : PySem.W.Frag) : Addr → Sp → Prop where
  | asg : WrT K (He.ga K "write_assignment") (spWH K okA)
  | val : WrT K (He.ga K "write_value") (spWH K okV)
  | ifs : WrT K (He.ga K "write_if") (spWH K okI)
  | loop : WrT K (He.ga K "write_loop") (spWH K okL)
  | call : WrT K (He.ga K "write_call") (spWH K okC)
theorem wrT_at (T : Txt K w mg h) : ∀ f sp, WrT K f sp → PromAt P w K mg base f 2 sp := fun f sp z => by
  cases z with
  | asg => exact w_asg T
  | val => exact w_val T
  | ifs => exact w_if T
  | loop => exact w_loop T
  | call => exact w_call T
theorem hd_get (T : Txt K w mg h) {x f : Str} (hm : (x, He.Dv.glo f) ∈ [(("set" : Str), He.Dv.glo "write_assignment"), ("put", .glo "write_assignment"), ("emit", .glo "write_value"), ("return", .glo "write_value"), ("if", .glo "write_if"), ("loop", .glo "write_loop"), ("call", .glo "write_call")]) :
    KDct K w (He.ga K "HEADS") x (.ref (He.ga K f)) := by
  obtain ⟨es, n, D⟩ := kd_HEADS T
  obtain ⟨u, e, r⟩ := He.valsB_ok (t_HEADS T) hm
  exact ⟨es, n, u, D.at_, D.lit, e, r⟩
theorem hd_entry (T : Txt K w mg h) {s : St} (hk : headOk s = true) (hfit : fitW s = true) : ∃ f sp, KDct K w (He.ga K "HEADS") s.kw.kind (.ref f) ∧ WrT K f sp ∧
    ∀ G H sv Q E, Same G H → StR K G (.ref sv) s → (∀ H', Same H H' → Q (.str (mkS (wHead s))) H') → sp [.ref sv] H Q E := by
  cases s with
  | asg k t e =>
    simp only [headOk, Bool.or_eq_true, decide_eq_true_eq] at hk
    rcases hk with e1 | e1
    · exact ⟨_, _, e1 ▸ hd_get T (x := "set") (by simp), .asg, fun G H sv Q E g hs q => ⟨G, sv, .asg k t e, rfl, trivial, g, hs, hfit, q⟩⟩
    · exact ⟨_, _, e1 ▸ hd_get T (x := "put") (by simp), .asg, fun G H sv Q E g hs q => ⟨G, sv, .asg k t e, rfl, trivial, g, hs, hfit, q⟩⟩
  | val k e =>
    simp only [headOk, Bool.or_eq_true, decide_eq_true_eq] at hk
    rcases hk with e1 | e1
    · exact ⟨_, _, e1 ▸ hd_get T (x := "emit") (by simp), .val, fun G H sv Q E g hs q => ⟨G, sv, .val k e, rfl, trivial, g, hs, hfit, q⟩⟩
    · exact ⟨_, _, e1 ▸ hd_get T (x := "return") (by simp), .val, fun G H sv Q E g hs q => ⟨G, sv, .val k e, rfl, trivial, g, hs, hfit, q⟩⟩
  | ite k l c r b1 b2 =>
    simp only [headOk, decide_eq_true_eq] at hk
    exact ⟨_, _, hk ▸ hd_get T (x := "if") (by simp), .ifs, fun G H sv Q E g hs q => ⟨G, sv, .ite k l c r b1 b2, rfl, trivial, g, hs, hfit, q⟩⟩
  | loop k e b =>
    simp only [headOk, decide_eq_true_eq] at hk
    exact ⟨_, _, hk ▸ hd_get T (x := "loop") (by simp), .loop, fun G H sv Q E g hs q => ⟨G, sv, .loop k e b, rfl, trivial, g, hs, hfit, q⟩⟩
  | call k t f as pp qq fb =>
    simp only [headOk, decide_eq_true_eq] at hk
    exact ⟨_, _, hk ▸ hd_get T (x := "call") (by simp), .call, fun G H sv Q E g hs q => ⟨G, sv, .call k t f as pp qq fb, rfl, trivial, g, hs, hfit, q⟩⟩
def NewLs (H : Hp) (L : List (List Nat)) (Q : VK) : Prop := ∀ l H', Same H H' → H l = none → H' l = some (.lst (LV L)) → Q (.ref l) H'
def spFB (K : PySem.W.Frag) (m : Nat) : Sp := fun vs H Q E => ∃ (G : Hp) (b : V) (ss : List St) (d : Nat), vs = [b, .int (d : Int)] ∧ Same G H ∧ BlkR K G b ss ∧ fB m ss = true ∧ 1 ≤ d ∧ d + m ≤ 900 ∧ (wBlk d ss).length ≤ 1000000 ∧ NewLs H (wBlk d ss) Q
def spFS (K : PySem.W.Frag) (m : Nat) : Sp := fun vs H Q E => ∃ (G : Hp) (sv : Addr) (s : St) (d : Nat), vs = [.ref sv, .int (d : Int)] ∧ Same G H ∧ StR K G (.ref sv) s ∧ (headOk s && (fitW s && s.blocks.all (fB m))) = true ∧ 1 ≤ d ∧ d + 1 + m ≤ 900 ∧ (wSt d s).length ≤ 1000000 ∧ NewLs H (wSt d s) Q
theorem fs_none (T : Txt K w mg h) : Prom P w K mg base "format_statement" 2 (fun _ _ _ _ => False) := by
  obtain ⟨fd, F⟩ := f_format_statement T
  exact ⟨_, fd, ["statement", "depth"], g_format_statement T, F.kp, F.bindsN fun _ _ _ _ _ _ us hl => match us, hl with | [_, _], _ => rfl, F.ok sc_format_statement (fun vs H Q E h => h.elim) (fun cdv A outer s H vs Q E hr h => h.elim)⟩
theorem fb_ok {m k : Nat} {sp : Sp} (T : Txt K w mg h) (FS : Prom P w K mg base "format_statement" k sp) (hsp : ∀ (ss : List St) (s : St) (sv : Addr) (d : Nat) (G H : Hp) (Q : VK) (E : XK), fB m ss = true → s ∈ ss → Same G H → StR K G (.ref sv) s → 1 ≤ d → d + m ≤ 900 → (wSt d s).length ≤ 1000000 → NewLs H (wSt d s) Q → sp [.ref sv, .int (d : Int)] H Q E) :
    Prom P w K mg base "format_block" (k + 1) (spFB K m) := by
  obtain ⟨fd, F⟩ := f_format_block T
  refine ⟨_, fd, ["block", "depth"], g_format_block T, F.kp, F.bindsN fun _ _ _ _ _ _ us hl => match us, hl with | [_, _], _ => rfl, ?_⟩
  refine F.ok sc_format_block (fun vs H Q E h => ?_) (fun cdv A outer s H vs Q E hr h => ?_)
  · obtain ⟨G, b, ss, d, rfl, _⟩ := h
    rfl
  · obtain ⟨G, b, ss, d, rfl, g, hb, hf, hd1, hd2, hl, q⟩ := h
    have nd := sc_format_block.nd
    refine ⟨_, pss_cons (ps_set (i := 2) nd rfl (.inl rfl) (pe_lst pa_nil))
      (pss_cons (ps_for (passes_of rfl) rfl (pi_list (pv 0)) (pg_name (i := 3) nd rfl (.inl rfl)) (pss_one (ps_expr (pe_bm PySem.F.plainAttrs_list PySem.F.slot_list_extend PySem.F.type_list_extend mt_extend (pv 2) (pa_cons (pe_p FS hr (passW (takes_of rfl rfl rfl rfl) fun _ _ _ _ z => z) (pa_cons (pv 3) (pa_cons (pv 1) pa_nil))) pa_nil)))))
      (pss_one (ps_ret (pv 2)))), ?_⟩
    obtain ⟨ba, us, rfl, hba, hus⟩ := hb
    have ps := hus.paired
    refine ⟨by show 0 ≤ sizeLine; decide, fun l nl => ?_⟩
    have A1 := (At0.refl g).new (o := .lst []) nl
    refine ⟨_, rfl, ba, rfl, ⟨_, SqL.of (A1.g _ _ hba)⟩, ?_⟩
    refine for_list (xs := us) (fun i σ H' => ∃ x3, σ = [some (.ref ba), some (.int (d : Int)), some (.ref l), x3] ∧ At0 H G H' G ∧ Own H' G l (LV (wBlk d (ss.take i)))) ⟨none, rfl, A1, by rw [List.take_zero, wBlk]; exact Own.new g nl⟩ (fun i σ H' _ z => by
      obtain ⟨x3, _, A', _⟩ := z
      exact SqL.of (A'.g _ _ hba)) (fun i x σ H' hx z => ?_) (fun σ H' z => ?_)
    · obtain ⟨x3, rfl, A', o1⟩ := z
      obtain ⟨s, hs, rs⟩ := paired_getV ps hx
      obtain ⟨sv, rfl⟩ := rs.ref
      have hsz : (wBlk d (ss.take i)).length + (wSt d s).length ≤ 1000000 := by
        have e : wBlk d ss = wBlk d (ss.take (i + 1)) ++ wBlk d (ss.drop (i + 1)) := by rw [← wBlk_app, List.take_append_drop]
        rw [e, take_get hs, wBlk_app, wBlk_one, List.length_append, List.length_append] at hl
        omega
      refine ⟨_, rfl, .inl ⟨rfl, _, SqL.of o1.at_⟩, _, rfl, _, rfl, hsp ss s sv d G H' _ _ hf (List.mem_of_getElem? hs) A'.g rs hd1 hd2 (by omega) fun l2 H2 s2 nl2 hl2 => ?_⟩
      have o2 := o1.more s2
      refine ⟨l, l2, _, _, rfl, rfl, o2.at_, hl2, szL (by rw [LV_len, LV_len]; omega), _, rfl, (A'.more s2).put o2 nl, ?_⟩
      rw [take_get hs, wBlk_app, wBlk_one, LV_app]
      exact o2.set
    · obtain ⟨x3, rfl, A', o1⟩ := z
      rw [Paired.length ps, List.take_length] at o1
      exact ⟨_, rfl, q l H' A'.sb nl o1.at_⟩
end
end Fs
-- FsXH
set_option Elab.async false
set_option linter.all false
set_option maxRecDepth 100000
set_option maxHeartbeats 8000000
namespace Fs
open PySem PySem.Spec PyProof.Rows L2
def elsL (d : Nat) (b : List St) : List (List Nat) := match b with
  | [] => []
  | _ => (ind d ++ [125, 32, 101, 108, 115, 101, 32, 123]) :: wBlk (d + 1) b
theorem wSt_plain (d : Nat) {s : St} (h : s.blocks = []) : wSt d s = [ind d ++ wHead s ++ [59]] := by
  cases s with
  | asg k t e => rw [wSt]
  | val k e => rw [wSt]
  | call k t f as p q fb => rw [wSt]
  | ite k l c r b1 b2 => cases h
  | loop k e b => cases h
theorem wSt_blk (d : Nat) {s : St} {b : List St} {bs : List (List St)} (h : s.blocks = b :: bs) : wSt d s = (ind d ++ wHead s ++ [32, 123]) :: (wBlk (d + 1) b ++ (bs.flatMap (elsL d) ++ [ind d ++ [125]])) := by
  cases s with
  | asg k t e => cases h
  | val k e => cases h
  | call k t f as p q fb => cases h
  | ite k l c r b1 b2 =>
    cases h
    cases b2 with
    | nil => simp [wSt, elsL]
    | cons a l => simp [wSt, elsL]
  | loop k e b =>
    cases h
    rw [wSt]
    rfl
section
variable {P : Program} {w : World} {K : PySem.W.Frag} {mg : Str → Option Value} {base h : Heap}
variable {l p : Addr} {H0 G0 H G H' G' : Hp} {vs ws : List V} {o : HO}
theorem fs_ok {m k : Nat} (T : Txt K w mg h) (hk : 2 ≤ k) (FB : Prom P w K mg base "format_block" k (spFB K m)) : Prom P w K mg base "format_statement" (k + 1) (spFS K m) := by
  obtain ⟨fd, F⟩ := f_format_statement T
  refine ⟨_, fd, ["statement", "depth"], g_format_statement T, F.kp, F.bindsN fun _ _ _ _ _ _ us hl => match us, hl with | [_, _], _ => rfl, ?_⟩
  refine F.ok sc_format_statement (fun vs H Q E h => ?_) (fun cdv A outer s H vs Q E hr h => ?_)
  · obtain ⟨G, sv, s, d, rfl, _⟩ := h
    rfl
  · obtain ⟨G, sv, s, d, rfl, g, hs, hf, hd1, hd2, hl, q⟩ := h
    have nd := sc_format_statement.nd
    have hr2 : Room 2 _ := hr.mono hk
    have hr1 : Room 1 _ := hr2.mono (by decide)
    obtain ⟨gI, tI⟩ := v_INDENT T
    refine ⟨_, pss_cons (ps_set (i := 2) nd rfl (.inl rfl) (pe_op op_mulS (pe_glob (v := .str "  ") rfl tI ⟨_, rfl⟩) (pv 1)))
      (pss_cons (ps_set (i := 3) nd rfl (.inl rfl) (pe_ix ix_kdict (pe_glob (v := .ref _) rfl (v_HEADS T) rfl) (pe_fld (pe_fld (pv 0) rfl) rfl) (fun _ _ => rfl)))
      (pss_cons (ps_set (i := 4) nd rfl (.inl rfl) (pe_methT (blT_at T) hr1 (passW (takes_of rfl rfl rfl rfl) fun _ _ _ _ z => z) (pv 0)))
      (pss_cons (ps_if (pt_not (pt_truth (pv 4) (by intro _; rfl))) (pss_one (ps_ret (pe_lst (pa_cons (pe_op op_add_str (pe_op op_add_str (pv 2) (pe_callT (i := 3) (wrT_at T) hr2 (passW (takes_of rfl rfl rfl rfl) fun _ _ _ _ z => z) rfl (Or.inl rfl) (pa_cons (pv 0) pa_nil))) pe_str) pa_nil)))) pss_nil)
      (pss_cons (ps_set (i := 5) nd rfl (.inl rfl) (pe_lst (pa_cons (pe_op op_add_str (pe_op op_add_str (pv 2) (pe_callT (i := 3) (wrT_at T) hr2 (passW (takes_of rfl rfl rfl rfl) fun _ _ _ _ z => z) rfl (Or.inl rfl) (pa_cons (pv 0) pa_nil))) pe_str) pa_nil)))
      (pss_cons (ps_expr (pe_bm PySem.F.plainAttrs_list PySem.F.slot_list_extend PySem.F.type_list_extend mt_extend (pv 5) (pa_cons (pe_p FB hr (passW (takes_of rfl rfl rfl rfl) fun _ _ _ _ z => z) (pa_cons (pe_ix ix_list (pv 4) pe_int (fun _ _ => rfl)) (pa_cons (pe_op op_add (pv 1) pe_int) pa_nil))) pa_nil)))
      (pss_cons (ps_for (passes_of rfl) rfl (pi_list (pe_slice sl_list (pv 4) (po_some pe_int) po_none)) (pg_name (i := 6) nd rfl (.inl rfl))
        (pss_one (ps_if (pt_truth (pv 6) (by intro _; rfl)) (pss_cons (ps_expr (pe_bm PySem.F.plainAttrs_list PySem.F.slot_list_append PySem.F.type_list_append mt_append (pv 5) (pa_cons (pe_op op_add_str (pv 2) pe_str) pa_nil))) (pss_one (ps_expr (pe_bm PySem.F.plainAttrs_list PySem.F.slot_list_extend PySem.F.type_list_extend mt_extend (pv 5) (pa_cons (pe_p FB hr (passW (takes_of rfl rfl rfl rfl) fun _ _ _ _ z => z) (pa_cons (pv 6) (pa_cons (pe_op op_add (pv 1) pe_int) pa_nil))) pa_nil))))) pss_nil)))
      (pss_cons (ps_expr (pe_bm PySem.F.plainAttrs_list PySem.F.slot_list_append PySem.F.type_list_append mt_append (pv 5) (pa_cons (pe_op op_add_str (pv 2) pe_str) pa_nil)))
      (pss_one (ps_ret (pv 5)))))))))), ?_⟩
    simp only [Bool.and_eq_true] at hf
    obtain ⟨hf1, hf2, hf3⟩ := hf
    have hwl : (wHead s).length ≤ 1000000 := by
      unfold fitW at hf2
      simp only [Bool.and_eq_true, decide_eq_true_eq] at hf2
      exact hf2.2.1
    obtain ⟨C, dx, fs, k', hC, hc, hn, hlk, hkw⟩ := hs.kwd T
    obtain ⟨ka, kdx, rfl, hka, _⟩ := hkw
    obtain ⟨f, sp, kd, hW, hsp⟩ := hd_entry T hf1 hf2
    obtain ⟨C2, dx2, fs2, sp2, bvs, hC2, hlk2, hB, pB, hb2, hsp2⟩ := hs.blocks
    have il : (mkS (ind d)).length = 2 * d := by rw [mkl, ind_len]
    refine ⟨_, rfl, "  ", d, rfl, rfl, hd1, by omega, by decide +kernel, ?_⟩
    rw [ind_eq]
    refine ⟨_, rfl, sv, C, dx, fs, .ref ka, rfl, g _ _ hC, hc, hn, hlk, ka, _, kdx, _, _, rfl, g _ _ hka, c_Token T, na_Token_kind T, rfl, _, _, _, rfl, rfl, kd, ?_⟩
    refine ⟨_, rfl, sv, C2, dx2, fs2, sp2, rfl, g _ _ hC2, hlk2, hB, hsp2 _ _ _ g fun bl nbl => ?_⟩
    have A1 := (At0.refl g).new (o := .lst bvs) nbl
    have bl1 : upd H bl (.lst bvs) bl = some (.lst bvs) := upd_same
    have l1 : (";" : Str).length = 1 := by decide +kernel
    have l2 : (" {" : Str).length = 2 := by decide +kernel
    have e1 : (";" : Str).cps.toList = [59] := by decide +kernel
    have e2 : (" {" : Str).cps.toList = [32, 123] := by decide +kernel
    have e3 : ("} else {" : Str).cps.toList = [125, 32, 101, 108, 115, 101, 32, 123] := by decide +kernel
    have e4 : ("}" : Str).cps.toList = [125] := by decide +kernel
    have l3 : ("} else {" : Str).length = 8 := by decide +kernel
    have l4 : ("}" : Str).length = 1 := by decide +kernel
    cases hbl : s.blocks with
    | nil =>
      rw [hbl] at pB
      cases pB
      rw [wSt_plain d hbl] at q hl
      refine ⟨_, rfl, false, .inl ⟨[], SqL.of upd_same, rfl⟩, ?_⟩
      refine iteT ⟨_, rfl, f, sp, rfl, hW, _, rfl, hsp G _ sv _ _ A1.g hs fun H2 s2 => ?_⟩
      refine ⟨_, _, rfl, rfl, szL (by rw [il, mkl]; omega), _, _, rfl, rfl, szL (by rw [sal, il, mkl]; omega), (by show 1 ≤ sizeLine; decide), fun l nl => ?_⟩
      have A2 := A1.more s2
      refine q l _ (A2.sb.trans (same_upd nl)) (A2.free nl) ?_
      rw [upd_same]
      have eq : mkS (ind d) ++ mkS (wHead s) ++ ";" = mkS (ind d ++ wHead s ++ [59]) := by
        apply str_eq
        simp only [atl, mkS_tl, e1]
      rw [eq]
      rfl
    | cons bb bbs =>
      rw [hbl] at pB hf3 
      cases pB with
      | cons rb pB =>
        rename_i b0 bvs
        rw [wSt_blk d hbl] at q hl
        rw [List.all_cons] at hf3
        simp only [Bool.and_eq_true] at hf3
        have hlen : (wBlk (d + 1) bb).length + (bbs.flatMap (elsL d)).length + 2 ≤ 1000000 := by
          simp only [List.length_cons, List.length_append, List.length_nil] at hl
          omega
        refine ⟨_, rfl, true, .inl ⟨_, SqL.of upd_same, rfl⟩, ?_⟩
        refine iteF ⟨_, rfl, f, sp, rfl, hW, _, rfl, hsp G _ sv _ _ A1.g hs fun H2 s2 => ?_⟩
        have A2 := A1.more s2
        have bl2 := s2 _ _ bl1
        refine ⟨_, _, rfl, rfl, szL (by rw [il, mkl]; omega), _, _, rfl, rfl, szL (by rw [sal, il, mkl]; omega), (by show 1 ≤ sizeLine; decide), fun l nl => ?_⟩
        have eq : mkS (ind d) ++ mkS (wHead s) ++ " {" = mkS (ind d ++ wHead s ++ [32, 123]) := by
          apply str_eq
          simp only [atl, mkS_tl, e2]
        rw [eq]
        have zl : H l = none := A2.free nl
        have o3 : Own (upd H2 l (.lst (LV [ind d ++ wHead s ++ [32, 123]]))) G l (LV [ind d ++ wHead s ++ [32, 123]]) := Own.new A2.g nl
        have A3 := A2.new (o := .lst (LV [ind d ++ wHead s ++ [32, 123]])) nl
        have nbl3 : bl ≠ l := ne_of_none bl2 nl
        have bl3 : upd H2 l (.lst (LV [ind d ++ wHead s ++ [32, 123]])) bl = some (.lst (b0 :: bvs)) := by rw [upd_ne nbl3]; exact bl2
        refine ⟨_, rfl, .inl ⟨rfl, _, SqL.of o3.at_⟩, _, rfl, bl, _, 0, b0, rfl, rfl, SqL.of bl3, atI_nat (j := 0) rfl, _, rfl, _, _, rfl, rfl, ?_⟩
        refine ⟨G, b0, bb, d + 1, rfl, A3.g, rb, hf3.1, by omega, by omega, by omega, fun l2' H4 s4 nl4 hl4 => ?_⟩
        have A4 := A3.more s4
        have o4 := o3.more s4
        have bl4 := s4 _ _ bl3
        refine ⟨l, l2', _, _, rfl, rfl, o4.at_, hl4, szL (by rw [LV_len, LV_len]; show 1 + _ ≤ _; omega), ?_⟩
        have A5 := A4.put (o := .lst (LV [ind d ++ wHead s ++ [32, 123]] ++ LV (wBlk (d + 1) bb))) o4 zl
        have o5 := o4.set (ws := LV [ind d ++ wHead s ++ [32, 123]] ++ LV (wBlk (d + 1) bb))
        have bl5 : upd H4 l (.lst (LV [ind d ++ wHead s ++ [32, 123]] ++ LV (wBlk (d + 1) bb))) bl = some (.lst (b0 :: bvs)) := by rw [upd_ne nbl3]; exact bl4
        refine ⟨_, rfl, 1, rfl, bl, _, rfl, SqL.of bl5, fun c nc => ?_⟩
        rw [cutFrom1]
        have A6 := A5.new (o := .lst ((b0 :: bvs).drop 1)) nc
        have o6 := o5.add (o := .lst ((b0 :: bvs).drop 1)) nc
        have nlc : l ≠ c := ne_of_none o5.at_ nc
        refine ⟨c, rfl, ⟨_, SqL.of upd_same⟩, ?_⟩
        have lB := Paired.length pB
        refine for_list (xs := bvs) (fun i σ H' => ∃ x6, σ = [some (.ref sv), some (.int (d : Int)), some (.str (mkS (ind d))), some (.ref f), some (.ref bl), some (.ref l), x6] ∧ At0 H G H' G ∧ H' c = some (.lst bvs) ∧ Own H' G l (LV ((ind d ++ wHead s ++ [32, 123]) :: (wBlk (d + 1) bb ++ (bbs.take i).flatMap (elsL d))))) ⟨none, rfl, A6, upd_same, ?_⟩ (fun i σ H' _ z => by
          obtain ⟨x6, _, _, hc', _⟩ := z
          exact SqL.of hc') (fun i x σ H' hx z => ?_) (fun σ H' z => ?_)
        · rw [List.take_zero, List.flatMap_nil, List.append_nil]
          exact o6
        · obtain ⟨x6, rfl, A', hc', o'⟩ := z
          obtain ⟨b, hb, xa, xvs, rfl, hxa, hxs⟩ := paired_getV pB hx
          have htk : (bbs.take (i + 1)).flatMap (elsL d) = (bbs.take i).flatMap (elsL d) ++ elsL d b := by
            rw [take_get hb, List.flatMap_append, List.flatMap_cons, List.flatMap_nil, List.append_nil]
          have hle : ((bbs.take i).flatMap (elsL d)).length + (elsL d b).length ≤ (bbs.flatMap (elsL d)).length := by
            have e : bbs.flatMap (elsL d) = (bbs.take (i + 1)).flatMap (elsL d) ++ (bbs.drop (i + 1)).flatMap (elsL d) := by rw [← List.flatMap_append, List.take_append_drop]
            rw [e, htk, List.length_append, List.length_append]
            omega
          have lxs := hxs.len
          rw [htk]
          cases b with
          | nil =>
            have : xvs = [] := List.eq_nil_of_length_eq_zero lxs
            subst this
            refine ⟨_, rfl, false, .inl ⟨[], SqL.of (A'.g _ _ hxa), rfl⟩, iteF ⟨_, rfl, A', hc', ?_⟩⟩
            show Own H' G l (LV (_ :: (_ ++ (_ ++ []))))
            rw [List.append_nil]
            exact o'
          | cons s1 b' =>
            obtain ⟨v1, xvs', rfl⟩ : ∃ v1 xvs', xvs = v1 :: xvs' := by
              cases xvs with
              | nil => cases lxs
              | cons a l => exact ⟨a, l, rfl⟩
            have hel : elsL d (s1 :: b') = (ind d ++ [125, 32, 101, 108, 115, 101, 32, 123]) :: wBlk (d + 1) (s1 :: b') := rfl
            rw [hel] at hle ⊢
            rw [List.length_cons] at hle
            have fb' : fB m (s1 :: b') = true := List.all_eq_true.mp hf3.2 _ (List.mem_of_getElem? hb)
            refine ⟨_, rfl, true, .inl ⟨_, SqL.of (A'.g _ _ hxa), rfl⟩, iteT ?_⟩
            refine ⟨_, rfl, .inl ⟨rfl, _, SqL.of o'.at_⟩, _, rfl, _, _, rfl, rfl, szL (by rw [il]; omega), l, _, _, rfl, rfl, o'.at_, Nat.lt_of_le_of_lt (show _ ≤ 1000000 by rw [LV_len, List.length_cons, List.length_append]; omega) (by decide), ?_⟩
            have eq2 : mkS (ind d) ++ "} else {" = mkS (ind d ++ [125, 32, 101, 108, 115, 101, 32, 123]) := by
              apply str_eq
              simp only [atl, mkS_tl, e3]
            rw [eq2]
            have A7 := A'.put (o := .lst (LV ((ind d ++ wHead s ++ [32, 123]) :: (wBlk (d + 1) bb ++ (bbs.take i).flatMap (elsL d))) ++ [.str (mkS (ind d ++ [125, 32, 101, 108, 115, 101, 32, 123]))])) o' zl
            have o7 := o'.set (ws := LV ((ind d ++ wHead s ++ [32, 123]) :: (wBlk (d + 1) bb ++ (bbs.take i).flatMap (elsL d))) ++ [.str (mkS (ind d ++ [125, 32, 101, 108, 115, 101, 32, 123]))])
            refine ⟨_, rfl, .inl ⟨rfl, _, SqL.of o7.at_⟩, _, rfl, _, rfl, _, _, rfl, rfl, ?_⟩
            refine ⟨G, .ref xa, s1 :: b', d + 1, rfl, A7.g, ⟨xa, _, rfl, hxa, hxs⟩, fb', by omega, by omega, by omega, fun l8 H8 s8 nl8 hl8 => ?_⟩
            have o8 := o7.more s8
            refine ⟨l, l8, _, _, rfl, rfl, o8.at_, hl8, szL (by rw [List.length_append, LV_len, LV_len, List.length_cons, List.length_append]; show _ + 1 + _ ≤ _; omega), _, rfl, (A7.more s8).put o8 zl, ?_, ?_⟩
            · rw [upd_ne (Ne.symm nlc)]
              exact s8 _ _ (by rw [upd_ne (Ne.symm nlc)]; exact hc')
            · have ee : LV ((ind d ++ wHead s ++ [32, 123]) :: (wBlk (d + 1) bb ++ ((bbs.take i).flatMap (elsL d) ++ (ind d ++ [125, 32, 101, 108, 115, 101, 32, 123]) :: wBlk (d + 1) (s1 :: b')))) = LV ((ind d ++ wHead s ++ [32, 123]) :: (wBlk (d + 1) bb ++ (bbs.take i).flatMap (elsL d))) ++ [.str (mkS (ind d ++ [125, 32, 101, 108, 115, 101, 32, 123]))] ++ LV (wBlk (d + 1) (s1 :: b')) := by
                simp [LV]
              rw [ee]
              exact o8.set
        · obtain ⟨x6, rfl, A', hc', o'⟩ := z
          rw [lB, List.take_length] at o'
          refine ⟨_, rfl, .inl ⟨rfl, _, SqL.of o'.at_⟩, _, rfl, _, _, rfl, rfl, szL (by rw [il]; omega), l, _, _, rfl, rfl, o'.at_, Nat.lt_of_le_of_lt (show _ ≤ 1000000 by rw [LV_len, List.length_cons, List.length_append]; omega) (by decide), ?_⟩
          have eq3 : mkS (ind d) ++ "}" = mkS (ind d ++ [125]) := by
            apply str_eq
            simp only [atl, mkS_tl, e4]
          rw [eq3]
          have A9 := A'.put (o := .lst (LV ((ind d ++ wHead s ++ [32, 123]) :: (wBlk (d + 1) bb ++ bbs.flatMap (elsL d))) ++ [.str (mkS (ind d ++ [125]))])) o' zl
          refine ⟨_, rfl, q l _ A9.sb zl ?_⟩
          rw [upd_same]
          simp [LV]
end
end Fs
-- FsXI
set_option Elab.async false
set_option linter.all false
set_option maxRecDepth 100000
set_option maxHeartbeats 8000000
namespace Fs
open PySem PySem.Spec PyProof.Rows L2
def fitFF (f : Fn) : Bool := fB 8 f.body && (decide (([100, 101, 102, 32] ++ txt f.name.text ++ [40] ++ TL.joinL [44, 32] (f.pars.map fun t : Tok => txt t.text) ++ [41] ++ [32, 123]).length ≤ 1000000) && decide ((wFn f).length ≤ 1000000))
section
variable {P : Program} {w : World} {K : PySem.W.Frag} {mg : Str → Option Value} {base h : Heap}
variable {l p : Addr} {H0 G0 H G H' G' : Hp} {vs ws : List V} {o : HO}
theorem fmt_at (T : Txt K w mg h) : ∀ m : Nat, Prom P w K mg base "format_block" (3 + 2 * m) (spFB K m) ∧ Prom P w K mg base "format_statement" (4 + 2 * m) (spFS K m)
  | 0 => by
    have b := fb_ok (P := P) (base := base) (m := 0) T (fs_none T) (fun ss s sv d G H Q E hf hm _ _ _ _ _ _ => by
      have e : ss = [] := by simpa [fB] using hf
      rw [e] at hm
      cases hm)
    exact ⟨b, fs_ok T (by decide) b⟩
  | m + 1 => by
    obtain ⟨_, fs⟩ := fmt_at T m
    have b := fb_ok (P := P) (base := base) (m := m + 1) T fs (fun ss s sv d G H Q E hf hm g hs h1 h2 h3 q => ⟨G, sv, s, d, rfl, g, hs, List.all_eq_true.mp hf s hm, h1, by omega, h3, q⟩)
    rw [show 4 + 2 * m + 1 = 3 + 2 * (m + 1) by omega] at b
    refine ⟨b, ?_⟩
    have := fs_ok T (by omega) b
    rw [show 3 + 2 * (m + 1) + 1 = 4 + 2 * (m + 1) by omega] at this
    exact this
def spFF (K : PySem.W.Frag) : Sp := fun vs H Q E => ∃ (G : Hp) (v : V) (f : Fn), vs = [v] ∧ Same G H ∧ FnR K G v f ∧ fitFF f = true ∧ NewLs H (wFn f) Q
theorem p_ff (T : Txt K w mg h) : Prom P w K mg base "format_function" 20 (spFF K) := by
  have FB := (fmt_at (P := P) (base := base) T 8).1
  obtain ⟨fd, F⟩ := f_format_function T
  refine ⟨_, fd, ["function"], g_format_function T, F.kp, F.bindsN fun _ _ _ _ _ _ us hl => match us, hl with | [_], _ => rfl, ?_⟩
  refine F.ok sc_format_function (fun vs H Q E h => ?_) (fun cdv A outer s H vs Q E hr h => ?_)
  · obtain ⟨G, v, f, rfl, _⟩ := h
    rfl
  · obtain ⟨G, v, f, rfl, g, hf, hfit, q⟩ := h
    have nd := sc_format_function.nd
    refine ⟨_, pss_cons (ps_set (i := 1) nd rfl (.inl rfl) (pe_join pe_str (pe_lc (own := [("parameter", 2)]) (g := gName 2) (tt := tYes) (te := tFld K (tVar 2) "text") rfl nd (pi_list (pe_fld (pv 0) rfl)) (blkOk_by (N := n_format_function) (sc := defScope s_format_function) (by decide +kernel)) (fun _ _ _ _ _ => pg_name (i := 2) nd rfl (Or.inl rfl)) (fun _ _ _ _ _ => pts_nil) (fun _ _ _ _ _ => by exact pe_fld (pv 2) rfl))))
      (pss_cons (ps_set (i := 3) nd rfl (.inl rfl) (pe_joined (.cons pe_str (.cons (pe_fmt (pe_fld (pe_fld (pv 0) rfl) rfl)) (.cons pe_str (.cons (pe_fmt (pv 1)) (.cons pe_str .nil)))))))
      (pss_one (ps_ret (pe_op op_cat (pe_op op_cat (pe_lst (pa_cons (pe_op op_add_str (pv 3) pe_str) pa_nil)) (pe_p FB hr (passW (takes_of rfl rfl rfl rfl) fun _ _ _ _ z => z) (pa_cons (pe_fld (pv 0) rfl) (pa_cons pe_int pa_nil)))) (pe_lst (pa_cons pe_str pa_nil)))))), ?_⟩
    obtain ⟨a, dx, n, pp, b, rfl, ha, hn, ⟨pa, pvs, rfl, hpa, ppv⟩, hb⟩ := hf
    obtain ⟨ta, tdx, rfl, hta, _⟩ := hn
    unfold fitFF at hfit
    simp only [Bool.and_eq_true, decide_eq_true_eq] at hfit
    obtain ⟨f1, f2, f3⟩ := hfit
    have hjl := joinL2_len 44 32 (f.pars.map fun t => txt t.text)
    rw [List.length_map] at hjl
    simp only [List.length_append, txl, List.length_cons, List.length_nil] at f2
    have lp := Paired.length ppv
    have ls1 : ("def " : Str).length = 4 := by decide +kernel
    have ls2 : ("(" : Str).length = 1 := by decide +kernel
    have ls3 : (")" : Str).length = 1 := by decide +kernel
    have ls4 : (" {" : Str).length = 2 := by decide +kernel
    have hwn : (wBlk 1 f.body).length + 2 ≤ 1000000 := by
      unfold wFn at f3
      simp only [List.length_cons, List.length_append, List.length_nil] at f3
      omega
    refine ⟨⟨_, rfl⟩, _, rfl, a, _, dx, _, .ref pa, rfl, g _ _ ha, c_Function T, na_Function_parameters T, (by kernel_rfl), pa, rfl, ⟨_, SqL.of (g _ _ hpa)⟩, fun D nD => ?_⟩
    refine lc_list (xs := pvs) (fun i H' => At0 H G H' G ∧ Own H' G D ((f.pars.take i).map fun t => V.str t.text)) ⟨(At0.refl g).new nD, Own.new g nD⟩ (fun i H' _ z => SqL.of (z.1.g _ _ hpa)) (fun i x H' hx z => ?_) (fun H1 z => ?_)
    · obtain ⟨A', o1⟩ := z
      obtain ⟨t, ht, rt⟩ := paired_getV ppv hx
      obtain ⟨xa, xdx, rfl, hxa, _⟩ := rt
      have hi : i < f.pars.length := (List.getElem?_eq_some_iff.mp ht).1
      refine ⟨rfl, _, rfl, xa, _, xdx, _, .str t.text, rfl, A'.g _ _ hxa, c_Token T, na_Token_text T, (by kernel_rfl), _, o1.at_, Nat.lt_of_le_of_lt (show _ ≤ 1000000 by rw [List.length_map, List.length_take]; omega) (by decide), A'.put o1 nD, ?_⟩
      rw [take_get ht, List.map_append]
      exact o1.set
    · obtain ⟨A1, o1⟩ := z
      rw [lp, List.take_length] at o1
      have em : f.pars.map (fun t => V.str t.text) = (f.pars.map fun t => t.text).map V.str := by rw [List.map_map]; rfl
      rw [em] at o1
      have esum : ((f.pars.map fun t => t.text).map (·.length)) = (f.pars.map fun t => txt t.text).map (·.length) := by
        rw [List.map_map, List.map_map]
        refine List.map_congr_left fun e _ => ?_
        exact (txl _).symm
      have ejoin : Txt.join ", " (f.pars.map fun t => t.text) = mkS (TL.joinL [44, 32] (f.pars.map fun t => txt t.text)) := by
        have := join_txt [44, 32] (f.pars.map fun t => t.text)
        rw [List.map_map] at this
        exact this
      refine ⟨", ", D, f.pars.map fun t => t.text, rfl, rfl, .inl (SqL.of o1.at_), ?_, ?_⟩
      · rw [esum, List.length_map]
        show _ + f.pars.length * 2 ≤ _
        omega
      rw [ejoin]
      refine ⟨_, rfl, szL (by simp only [sal, emp]; omega), ?_⟩
      refine ⟨_, rfl, a, _, dx, _, .ref ta, rfl, A1.g _ _ ha, c_Function T, na_Function_name T, (by kernel_rfl), ta, _, tdx, _, .str f.name.text, rfl, A1.g _ _ hta, c_Token T, na_Token_text T, (by kernel_rfl), .inl ⟨_, rfl, szL (by omega), _, rfl, szL (by simp only [sal, emp]; omega), ?_⟩⟩
      refine ⟨_, rfl, szL (by simp only [sal, emp]; omega), ?_⟩
      refine ⟨_, rfl, .inl ⟨_, rfl, szL (by rw [mkl]; omega), _, rfl, szL (by simp only [sal, emp, mkl]; omega), ?_⟩⟩
      refine ⟨_, rfl, szL (by simp only [sal, emp, mkl]; omega), ?_⟩
      refine ⟨_, rfl, _, _, rfl, rfl, szL (by simp only [sal, emp, mkl]; omega), (by show 1 ≤ sizeLine; decide), fun l1 nl1 => ?_⟩
      have eq : Str.empty ++ "def " ++ f.name.text ++ "(" ++ mkS (TL.joinL [44, 32] (f.pars.map fun t => txt t.text)) ++ ")" ++ " {" = mkS ([100, 101, 102, 32] ++ txt f.name.text ++ [40] ++ TL.joinL [44, 32] (f.pars.map fun t => txt t.text) ++ [41] ++ [32, 123]) := by
        apply str_eq
        simp only [atl, empl, mkS_tl, List.nil_append]
        rfl
      have eq' : (Str.empty ++ "def " ++ f.name.text ++ "(" ++ mkS (TL.joinL [44, 32] (f.pars.map fun t => txt t.text)) ++ ")" : Str) ++ " {" = mkS ([100, 101, 102, 32] ++ txt f.name.text ++ [40] ++ TL.joinL [44, 32] (f.pars.map fun t => txt t.text) ++ [41] ++ [32, 123]) := eq
      rw [eq']
      have A2 := A1.new (o := .lst [.str (mkS ([100, 101, 102, 32] ++ txt f.name.text ++ [40] ++ TL.joinL [44, 32] (f.pars.map fun t => txt t.text) ++ [41] ++ [32, 123]))]) nl1
      refine ⟨_, rfl, a, _, dx, _, b, rfl, A2.g _ _ ha, c_Function T, na_Function_body T, (by kernel_rfl), G, b, f.body, 1, rfl, A2.g, hb, f1, Nat.le_refl _, by decide, by omega, fun l2 H2 s2 nl2 hl2 => ?_⟩
      have A3 := A2.more s2
      have h1 := s2 _ _ (show upd H1 l1 _ l1 = _ from upd_same)
      refine ⟨l1, l2, _, _, rfl, rfl, h1, hl2, szL (by rw [LV_len]; show 1 + _ ≤ _; omega), fun l3 nl3 => ?_⟩
      have A4 := A3.new (o := .lst (([V.str (mkS ([100, 101, 102, 32] ++ txt f.name.text ++ [40] ++ TL.joinL [44, 32] (f.pars.map fun t => txt t.text) ++ [41] ++ [32, 123]))] : List V) ++ LV (wBlk 1 f.body))) nl3
      refine ⟨by show 1 ≤ sizeLine; decide, fun l4 nl4 => ?_⟩
      have A5 := A4.new (o := .lst [.str "}"]) nl4
      refine ⟨l3, l4, _, _, rfl, rfl, by rw [upd_ne (ne_of_none upd_same nl4)]; exact upd_same, upd_same, szL (by rw [List.length_append, LV_len]; show 1 + _ + 1 ≤ _; omega), fun l5 nl5 => ?_⟩
      have A6 := A5.new (o := .lst (([V.str (mkS ([100, 101, 102, 32] ++ txt f.name.text ++ [40] ++ TL.joinL [44, 32] (f.pars.map fun t => txt t.text) ++ [41] ++ [32, 123]))] : List V) ++ LV (wBlk 1 f.body) ++ [.str "}"])) nl5
      refine q l5 _ A6.sb (A5.free nl5) ?_
      rw [upd_same]
      have e5 : ("}" : Str) = mkS [125] := str_eq (by decide +kernel)
      rw [e5]
      simp [LV, wFn]
end
end Fs
-- FsXJ
set_option Elab.async false
set_option linter.all false
set_option maxRecDepth 100000
set_option maxHeartbeats 8000000
namespace Fs
open PySem PySem.Spec PyProof.Rows L2
def fitFFs (fs : List Fn) : Bool := fs.all fitFF && (decide ((fs.flatMap wFn).length ≤ 1000000) && decide ((wFns fs).length ≤ 16000000 - 1000001))
def fmtFit (src : List Nat) : Bool := match mRead src with
  | .ok fs => fitFFs fs
  | .error _ => true
section
variable {P : Program} {w : World} {K : PySem.W.Frag} {mg : Str → Option Value} {base h : Heap}
variable {l p : Addr} {H0 G0 H G H' G' : Hp} {vs ws : List V} {o : HO}
def spFFs (K : PySem.W.Frag) : Sp := fun vs H Q E => ∃ (G : Hp) (v : V) (fs : List Fn), vs = [v] ∧ Same G H ∧ LstR (FnR K G) G v fs ∧ fitFFs fs = true ∧ ∀ H', Same H H' → Q (.str (mkS (wFns fs))) H'
theorem p_ffs (T : Txt K w mg h) : Prom P w K mg base "format_functions" 21 (spFFs K) := by
  obtain ⟨fd, F⟩ := f_format_functions T
  refine ⟨_, fd, ["functions"], g_format_functions T, F.kp, F.bindsN fun _ _ _ _ _ _ us hl => match us, hl with | [_], _ => rfl, ?_⟩
  refine F.ok sc_format_functions (fun vs H Q E h => ?_) (fun cdv A outer s H vs Q E hr h => ?_)
  · obtain ⟨G, v, fs, rfl, _⟩ := h
    rfl
  · obtain ⟨G, v, fs, rfl, g, hf, hfit, q⟩ := h
    have nd := sc_format_functions.nd
    refine ⟨_, pss_cons (ps_set (i := 1) nd rfl (.inl rfl) (pe_lst pa_nil))
      (pss_cons (ps_for (passes_of rfl) rfl (pi_list (pv 0)) (pg_name (i := 2) nd rfl (.inl rfl)) (pss_one (ps_expr (pe_bm PySem.F.plainAttrs_list PySem.F.slot_list_extend PySem.F.type_list_extend mt_extend (pv 1) (pa_cons (pe_p (p_ff T) hr (passW (takes_of rfl rfl rfl rfl) fun _ _ _ _ z => z) (pa_cons (pv 2) pa_nil)) pa_nil)))))
      (pss_one (ps_ret (pe_join pe_str (pv 1))))), ?_⟩
    obtain ⟨fa, us, rfl, hfa, pf⟩ := hf
    unfold fitFFs at hfit
    simp only [Bool.and_eq_true, decide_eq_true_eq] at hfit
    obtain ⟨f1, f2, f3⟩ := hfit
    refine ⟨by show 0 ≤ sizeLine; decide, fun l nl => ?_⟩
    have A1 := (At0.refl g).new (o := .lst []) nl
    refine ⟨_, rfl, fa, rfl, ⟨_, SqL.of (A1.g _ _ hfa)⟩, ?_⟩
    refine for_list (xs := us) (fun i σ H' => ∃ x2, σ = [some (.ref fa), some (.ref l), x2] ∧ At0 H G H' G ∧ Own H' G l (LV ((fs.take i).flatMap wFn))) ⟨none, rfl, A1, Own.new g nl⟩ (fun i σ H' _ z => by
      obtain ⟨x2, _, A', _⟩ := z
      exact SqL.of (A'.g _ _ hfa)) (fun i x σ H' hx z => ?_) (fun σ H' z => ?_)
    · obtain ⟨x2, rfl, A', o1⟩ := z
      obtain ⟨f, hf, rf⟩ := paired_getV pf hx
      have htk : (fs.take (i + 1)).flatMap wFn = (fs.take i).flatMap wFn ++ wFn f := by rw [take_get hf, List.flatMap_append, List.flatMap_cons, List.flatMap_nil, List.append_nil]
      have hle : ((fs.take i).flatMap wFn).length + (wFn f).length ≤ (fs.flatMap wFn).length := by
        have e : fs.flatMap wFn = (fs.take (i + 1)).flatMap wFn ++ (fs.drop (i + 1)).flatMap wFn := by rw [← List.flatMap_append, List.take_append_drop]
        rw [e, htk, List.length_append, List.length_append]
        omega
      refine ⟨_, rfl, .inl ⟨rfl, _, SqL.of o1.at_⟩, _, rfl, G, x, f, rfl, A'.g, rf, List.all_eq_true.mp f1 f (List.mem_of_getElem? hf), fun l2 H2 s2 nl2 hl2 => ?_⟩
      have o2 := o1.more s2
      refine ⟨l, l2, _, _, rfl, rfl, o2.at_, hl2, szL (by rw [LV_len, LV_len]; omega), _, rfl, (A'.more s2).put o2 nl, ?_⟩
      rw [htk, LV_app]
      exact o2.set
    · obtain ⟨x2, rfl, A', o1⟩ := z
      rw [Paired.length pf, List.take_length] at o1
      have em : LV (fs.flatMap wFn) = ((fs.flatMap wFn).map mkS).map V.str := by rw [List.map_map]; rfl
      rw [em] at o1
      have hj := joinL_len 10 (fs.flatMap wFn)
      have esum : (((fs.flatMap wFn).map mkS).map (·.length)) = (fs.flatMap wFn).map (·.length) := by
        rw [List.map_map]
        exact List.map_congr_left fun e _ => mkl e
      have ejoin : Txt.join "\n" ((fs.flatMap wFn).map mkS) = mkS (wFns fs) := by
        have := SX.join_S [10] (fs.flatMap wFn)
        have e2 : ("\n" : Str) = SX.S [10] := str_eq (by decide +kernel)
        rw [e2]
        exact this
      refine ⟨⟨_, rfl⟩, _, rfl, "\n", l, _, rfl, rfl, .inl (SqL.of o1.at_), ?_, ?_⟩
      · rw [esum, List.length_map]
        show _ + _ * 1 ≤ _
        unfold wFns at f3
        omega
      · rw [ejoin]
        exact q H' A'.sb
def spSrc (K : PySem.W.Frag) : Sp := fun vs H Q E => ∃ (z : Str) (G : Hp), vs = [.str z] ∧ Same G H ∧ z.length ≤ 900000 ∧ srcFit z.cps.toList = true ∧ fmtFit z.cps.toList = true ∧ Post0 K H G (fun _ v l => v = .str (mkS l)) Q E (mFormat z.cps.toList)
theorem p_src (T : Txt K w mg h) : Prom P w K mg base "format_source" 22 (spSrc K) := by
  obtain ⟨fd, F⟩ := f_format_source T
  refine ⟨_, fd, ["source"], g_format_source T, F.kp, F.bindsN fun _ _ _ _ _ _ us hl => match us, hl with | [_], _ => rfl, ?_⟩
  refine F.ok sc_format_source (fun vs H Q E h => ?_) (fun cdv A outer s H vs Q E hr h => ?_)
  · obtain ⟨z, G, rfl, _⟩ := h
    rfl
  · obtain ⟨z, G, rfl, g, hl, hfit, hfmt, q⟩ := h
    have hr12 : Room 12 _ := hr.mono (by decide)
    refine ⟨_, pss_one (ps_ret (pe_p (p_ffs T) hr (passW (takes_of rfl rfl rfl rfl) fun _ _ _ _ z => z) (pa_cons (pe_p (p_prog T) hr12 (passW (takes_of rfl rfl rfl rfl) fun _ _ _ _ z => z) (pa_cons (pv 0) pa_nil)) pa_nil))), ?_⟩
    unfold mFormat at q
    refine ⟨_, rfl, z, G, rfl, g, hl, hfit, q.seqA (At0.refl g) fun fs v H1 G1 e1 s1 x1 A1 hv q1 => ?_⟩
    unfold fmtFit at hfmt
    rw [e1] at hfmt
    exact ⟨G1, v, fs, rfl, A1.g, hv, hfmt, fun H2 s2 => q1.retA (A1.more s2) rfl⟩
end
end Fs
-- FsXK
set_option Elab.async false
set_option linter.all false
set_option maxRecDepth 100000
set_option maxHeartbeats 8000000
namespace Fs
open PySem PySem.Spec PyProof.Rows L2
/-! ## the law -/
/-- a source of numbers -/
structure OkD (d : List Int) : Prop where
  two : 2 ≤ d.length
  len : d.length ≤ 65
  nn : ∀ x ∈ d, 0 ≤ x
section
variable {P : Program} {w : World} {K : PySem.W.Frag} {mg : Str → Option Value} {base h : Heap}
variable {l p : Addr} {H0 G0 H G H' G' : Hp} {vs ws : List V} {o : HO}
def spRnd (K : PySem.W.Frag) : Sp := fun vs H Q _ => ∃ (a : Addr) (ns : List Int) (salt : Int), vs = [.ref a, .int salt] ∧ SqL K H a (ns.map V.int) ∧ ns.length ≤ 63 ∧ 0 ≤ salt ∧ salt < 2147483647 ∧ ∀ l H' d, Same H H' → H l = none → H' l = some (.lst (d.map V.int)) → OkD d → Q (.ref l) H'
theorem p_rnd (T : Txt K w mg h) : Prom P w K mg base "_law_random" 1 (spRnd K) := by
  obtain ⟨fd, F⟩ := f_law_random T
  refine ⟨_, fd, ["_law_script", "_law_salt"], g_law_random T, F.kp, F.bindsN fun _ _ _ _ _ _ us hl => match us, hl with | [_, _], _ => rfl, ?_⟩
  refine F.ok sc_law_random (fun vs H Q E h => ?_) (fun cdv A outer s H vs Q E hr h => ?_)
  · obtain ⟨a, ns, salt, rfl, _⟩ := h
    rfl
  · obtain ⟨a, ns, salt, rfl, hs, hl, h1, h2, q⟩ := h
    have nd := sc_law_random.nd
    refine ⟨_, pss_cons (ps_set (i := 2) nd rfl (.inl rfl) (pv 1))
      (pss_cons (ps_for (passes_of rfl) rfl (pi_list (pv 0)) (pg_name (i := 3) nd rfl (.inl rfl)) (pss_one (ps_set (i := 2) nd rfl (.inl rfl) (pe_op op_mod (pe_op op_add (pe_op op_mul (pv 2) pe_int) (pe_callB call_abs (by rfl) (b_abs T) (by decide +kernel) (pa_cons (pv 3) pa_nil))) pe_int))))
      (pss_one (ps_ret (pe_op op_cat (pe_lst (pa_cons (pv 2) (pa_cons pe_int pa_nil))) (pe_lc (own := [("_law_cell", 3)]) (g := gName 3) (tt := tTest (tOp (rI0 fun i j => .bl (decide (j ≤ i))) (tVar 3) (tOp (rI CPow fun i j => .int (i ^ j.toNat)) (tC (.int 10)) (tC (.int 18))))) (te := tVar 3) rfl nd (pi_list (pv 0)) (blkOk_by (N := n_law_random) (sc := defScope s_law_random) (by decide +kernel)) (fun _ _ _ _ _ => pg_name (i := 3) nd rfl (Or.inl rfl)) (fun _ _ _ _ _ => by exact pts_one (pt_cmpR op_ge (pv 3) (pe_op op_pow pe_int pe_int) (nomark _))) (fun _ _ _ _ _ => by exact pv 3)))))), ?_⟩
    refine ⟨_, rfl, _, rfl, a, rfl, ⟨_, hs⟩, ?_⟩
    refine for_list (xs := ns.map V.int) (fun i σ H' => ∃ (s : Int) (x3 : Option V), σ = [some (.ref a), some (.int salt), some (.int s), x3] ∧ H' = H ∧ 0 ≤ s ∧ s < 2147483647) ⟨salt, none, rfl, rfl, h1, h2⟩ (fun i σ H' _ z => by
      obtain ⟨s, x3, _, rfl, _⟩ := z
      exact hs) (fun i x σ H' hx z => ?_) (fun σ H' z => ?_)
    · obtain ⟨s, x3, rfl, rfl, h3, h4⟩ := z
      obtain ⟨n, hn, rfl⟩ : ∃ n, ns[i]? = some n ∧ x = .int n := by
        rw [List.getElem?_map] at hx
        cases e : ns[i]? with
        | none => rw [e] at hx; cases hx
        | some n => rw [e] at hx; exact ⟨n, rfl, (Option.some.inj hx).symm⟩
      refine ⟨_, rfl, _, _, rfl, rfl, .inr ⟨by decide, by decide⟩, _, rfl, n, rfl, _, _, rfl, rfl, _, _, rfl, rfl, (by show (0 : Int) < 2147483647; decide), _, _, rfl, rfl, Int.emod_nonneg _ (by decide), Int.emod_lt_of_pos _ (by decide)⟩
    · obtain ⟨s, x3, rfl, rfl, h3, h4⟩ := z
      refine ⟨_, rfl, by show 2 ≤ sizeLine; decide, fun l1 nl1 => ?_⟩
      have sm := same_upd (o := .lst [.int s, .int 0]) nl1
      refine ⟨_, rfl, a, rfl, ⟨_, sm.seq hs⟩, fun D nD => ?_⟩
      refine lc_list (xs := ns.map V.int) (fun i H2 => ∃ acc : List Int, Same (upd H' l1 (.lst [.int s, .int 0])) H2 ∧ H2 D = some (.lst (acc.map V.int)) ∧ acc.length ≤ i ∧ ∀ x ∈ acc, 0 ≤ x) ⟨[], same_upd nD, upd_same, Nat.le_refl _, fun _ h => nomatch h⟩ (fun i H2 _ z => by
        obtain ⟨acc, s2, _⟩ := z
        exact s2.seq (sm.seq hs)) (fun i x H2 hx z => ?_) (fun H2 z => ?_)
      · obtain ⟨acc, s2, ha, hl2, hnn⟩ := z
        obtain ⟨n, hn, rfl⟩ : ∃ n, ns[i]? = some n ∧ x = .int n := by
          rw [List.getElem?_map] at hx
          cases e : ns[i]? with
          | none => rw [e] at hx; cases hx
          | some n => rw [e] at hx; exact ⟨n, rfl, (Option.some.inj hx).symm⟩
        have hi : i < ns.length := (List.getElem?_eq_some_iff.mp hn).1
        refine ⟨rfl, _, rfl, 10, 18, rfl, rfl, ⟨by decide, by decide, by decide⟩, _, _, rfl, rfl, _, rfl, ?_⟩
        by_cases hb : (10 : Int) ^ (18 : Int).toNat ≤ n
        · rw [decide_eq_true hb]
          refine iteT ⟨_, rfl, _, ha, Nat.lt_of_le_of_lt (show (acc.map V.int).length ≤ 1000 by rw [List.length_map]; omega) (by decide), acc ++ [n], ?_, ?_, by rw [List.length_append]; show acc.length + 1 ≤ _; omega, fun x hx => ?_⟩
          · intro b u e
            rw [upd_ne (ne_of_none e nD)]
            exact s2 b u e
          · rw [upd_same, List.map_append]; rfl
          · rcases List.mem_append.mp hx with h | h
            · exact hnn x h
            · have : x = n := by simpa using h
              subst this
              exact Int.le_trans (by decide) hb
        · rw [decide_eq_false hb]
          exact iteF ⟨acc, s2, ha, by omega, hnn⟩
      · obtain ⟨acc, s2, ha, hl2, hnn⟩ := z
        rw [List.length_map] at hl2
        refine ⟨l1, D, _, _, rfl, rfl, s2 _ _ upd_same, ha, szL (by rw [List.length_map]; show 2 + _ ≤ _; omega), fun p np => ?_⟩
        refine q p _ (s :: 0 :: acc) ((sm.trans s2).trans (same_upd np)) (Same.free (sm.trans s2) np) upd_same ⟨by simp, by simp; omega, fun x hx => ?_⟩
        rcases List.mem_cons.mp hx with h | hx
        · omega
        · rcases List.mem_cons.mp hx with h | hx
          · omega
          · exact hnn x hx
end
end Fs
-- FsXL
set_option Elab.async false
set_option linter.all false
set_option maxRecDepth 100000
set_option maxHeartbeats 8000000
namespace Fs
open PySem PySem.Spec PyProof.Rows L2
section
variable {P : Program} {w : World} {K : PySem.W.Frag} {mg : Str → Option Value} {base h : Heap}
variable {l p : Addr} {H0 G0 H G H' G' : Hp} {vs ws : List V} {o : HO}
def spBelow : Sp := fun vs H Q _ => ∃ (l : Addr) (n : Int) (d : List Int), vs = [.ref l, .int n] ∧ H l = some (.lst (d.map V.int)) ∧ OkD d ∧ 1 ≤ n ∧ n ≤ 1000 ∧ ∀ r d', 0 ≤ r → r < n → OkD d' → Q (.int r) (upd H l (.lst (d'.map V.int)))
theorem p_below (T : Txt K w mg h) : Prom P w K mg base "_law_below" 1 spBelow := by
  obtain ⟨fd, F⟩ := f_law_below T
  refine ⟨_, fd, ["_law_d", "_law_limit"], g_law_below T, F.kp, F.bindsN fun _ _ _ _ _ _ us hl => match us, hl with | [_, _], _ => rfl, ?_⟩
  refine F.ok sc_law_below (fun vs H Q E h => ?_) (fun cdv A outer s H vs Q E hr h => ?_)
  · obtain ⟨l, n, d, rfl, _⟩ := h
    rfl
  · obtain ⟨l, n, d, rfl, hd, ok, h1, h2, q⟩ := h
    have nd := sc_law_below.nd
    refine ⟨_, C8.pss_cut (ps_if (PW.pt (pw_and (pt_cmpR op_eq (pe_ix ix_list (pv 0) pe_int (fun _ _ => rfl)) pe_int (nomark _)) (pw_and1 (pt_cmpR op_gt (pe_callB call_len (by rfl) (b_len T) boot_len (pa_cons (pv 0) pa_nil)) pe_int (nomark _))))) (pss_one (ps_asg (pe_bm PySem.F.plainAttrs_list PySem.F.slot_list_pop PySem.F.type_list_pop mt_popAt (pv 0) (pa_cons pe_int pa_nil)) (pg_sub (pv 0) pe_int set_list))) pss_nil)
      (pss_cons (ps_if (pt_cmpR op_gt (pe_ix ix_list (pv 0) pe_int (fun _ _ => rfl)) pe_int (nomark _)) (pss_cons (ps_set (i := 2) nd rfl (.inl rfl) (pe_op op_mod (pe_ix ix_list (pv 0) pe_int (fun _ _ => rfl)) (pv 1))) (pss_cons (ps_asg (pe_op op_fdivN (pe_ix ix_list (pv 0) pe_int (fun _ _ => rfl)) (pv 1)) (pg_sub (pv 0) pe_int set_list)) (pss_one (ps_ret (pv 2))))) pss_nil)
      (pss_cons (ps_asg (pe_op op_mod (pe_op op_add (pe_op op_mul (pe_ix ix_list (pv 0) pe_int (fun _ _ => rfl)) pe_int) pe_int) pe_int) (pg_sub (pv 0) pe_int set_list))
      (pss_one (ps_ret (pe_op op_mod (pe_op op_fdivN (pe_ix ix_list (pv 0) pe_int (fun _ _ => rfl)) pe_int) (pv 1)))))), ?_⟩
    refine ⟨fun σ' H' => σ' = [some (.ref l), some (.int n), none] ∧ ∃ d2, OkD d2 ∧ H' l = some (.lst (d2.map V.int)) ∧ ∀ o, upd H' l o = upd H l o, ?_, ?_⟩
    · obtain ⟨a, b, r, rfl⟩ : ∃ a b r, d = a :: b :: r := by
        have := ok.two
        match d, this with
        | a :: b :: r, _ => exact ⟨a, b, r, rfl⟩
      refine ⟨_, rfl, l, _, 1, .int b, rfl, rfl, SqL.of hd, atI_nat (j := 1) rfl, rfl, _, rfl, ?_⟩
      by_cases hb : b = 0
      · rw [show decide (V.int b = V.int 0) = true from decide_eq_true (by rw [hb])]
        refine iteT ⟨_, rfl, _, _, rfl, .inl ⟨_, SqL.of hd, rfl⟩, _, _, rfl, rfl, _, rfl, ?_⟩
        cases r with
        | nil => exact iteF ⟨rfl, _, ok, hd, fun _ => rfl⟩
        | cons c r =>
          rw [show decide ((2 : Int) < (((a :: b :: c :: r).map V.int).length : Int)) = true from decide_eq_true (by simp; omega)]
          have hl := ok.len
          refine iteT ⟨_, rfl, .inl ⟨rfl, _, SqL.of hd⟩, l, _, 2, 2, .int c, rfl, rfl, hd, by decide, by decide, by unfold seqIndex?; simp; omega, rfl, ?_⟩
          refine ⟨_, rfl, l, _, 1, 1, rfl, rfl, upd_same, by unfold ixN; simp; omega, rfl, a :: c :: r, ⟨by simp, by simp at hl ⊢; omega, fun x hx => ok.nn x (by simp at hx ⊢; rcases hx with h | h | h; exact .inl h; exact .inr (.inr (.inl h)); exact .inr (.inr (.inr h)))⟩, upd_same, fun o => by rw [upd_upd, upd_upd]⟩
      · rw [show decide (V.int b = V.int 0) = false from decide_eq_false fun z => hb (V.int.inj z)]
        exact iteF (iteF ⟨rfl, _, ok, hd, fun _ => rfl⟩)
    · rintro σ' H' ⟨rfl, d2, ok2, hd2, hu⟩
      obtain ⟨a, b, r, rfl⟩ : ∃ a b r, d2 = a :: b :: r := by
        have := ok2.two
        match d2, this with
        | a :: b :: r, _ => exact ⟨a, b, r, rfl⟩
      have ha := ok2.nn a (by simp)
      have hb := ok2.nn b (by simp)
      have hl := ok2.len
      refine ⟨_, rfl, l, _, 1, .int b, rfl, rfl, SqL.of hd2, atI_nat (j := 1) rfl, _, _, rfl, rfl, _, rfl, ?_⟩
      by_cases h0 : 0 < b
      · rw [decide_eq_true h0]
        refine iteT ⟨_, rfl, l, _, 1, .int b, rfl, rfl, SqL.of hd2, atI_nat (j := 1) rfl, _, rfl, _, _, rfl, rfl, (by show 0 < n; omega), ?_⟩
        refine ⟨_, rfl, l, _, 1, .int b, rfl, rfl, SqL.of hd2, atI_nat (j := 1) rfl, _, rfl, _, _, rfl, rfl, ⟨by omega, by omega⟩, ?_⟩
        refine ⟨_, rfl, l, _, 1, 1, rfl, rfl, hd2, by unfold ixN; simp; omega, _, rfl, ?_⟩
        rw [hu]
        exact q (b % n) (a :: b.fdiv n :: r) (Int.emod_nonneg _ (by omega)) (Int.emod_lt_of_pos _ (by omega)) ⟨by simp, by simp at hl ⊢; omega, fun x hx => by
          simp at hx
          rcases hx with h | h | h
          · omega
          · rw [h]; exact Int.fdiv_nonneg hb (by omega)
          · exact ok2.nn x (by simp [h])⟩
      · rw [decide_eq_false h0]
        refine iteF ⟨_, rfl, l, _, 0, .int a, rfl, rfl, SqL.of hd2, atI_nat (j := 0) rfl, _, _, rfl, rfl, .inr ⟨by decide, by decide⟩, _, _, rfl, rfl, _, _, rfl, rfl, (by show (0 : Int) < 2147483647; decide), ?_⟩
        refine ⟨_, rfl, l, _, 0, 0, rfl, rfl, hd2, by unfold ixN; simp; omega, ?_⟩
        have hm := Int.emod_nonneg (a * 48271 + 11) (show (2147483647 : Int) ≠ 0 by decide)
        refine ⟨_, rfl, l, _, 0, .int ((a * 48271 + 11) % 2147483647), rfl, rfl, SqL.of upd_same, atI_nat (j := 0) rfl, _, _, rfl, rfl, ⟨by decide, by decide⟩, _, rfl, _, _, rfl, rfl, (by show 0 < n; omega), ?_⟩
        rw [hu]
        refine q _ ((a * 48271 + 11) % 2147483647 :: b :: r) (Int.emod_nonneg _ (by omega)) (Int.emod_lt_of_pos _ (by omega)) ⟨by simp, by simp at hl ⊢; omega, fun x hx => ?_⟩
        simp at hx
        rcases hx with h | h | h
        · rw [h]; exact hm
        · omega
        · exact ok2.nn x (by simp [h])
end
end Fs
-- FsXM
set_option Elab.async false
set_option linter.all false
set_option maxRecDepth 100000
set_option maxHeartbeats 8000000
namespace Fs
open PySem PySem.Spec PyProof.Rows L2
/-! ### lists of texts that are built -/
abbrev LS := L2.St → Hp → List Str → Prop
def Stb (S : LS) : Prop := ∀ σ H H' xs, Same H H' → S σ H xs → S σ H' xs
/-- a list of texts: which one, by S -/
def tLs (S : LS) : TE := fun σ H Q => ∃ xs, S σ H xs ∧ xs.length ≤ 10000 ∧ ∀ p H', Same H H' → H' p = some (.lst (xs.map V.str)) → Q (.ref p) H'
def sVar (i : Nat) : LS := fun σ H xs => ∃ L, σ[i]? = some (some (.ref L)) ∧ H L = some (.lst (xs.map V.str))
def sIs (ys : List Str) : LS := fun _ _ xs => xs = ys
def sCat (S S' : LS) : LS := fun σ H zs => ∃ xs ys, S σ H xs ∧ S' σ H ys ∧ zs = xs ++ ys
def sRep (S : LS) (k : Nat) : LS := fun σ H zs => ∃ xs, S σ H xs ∧ zs = (List.replicate k xs).flatten
theorem stb_var {i : Nat} : Stb (sVar i) := fun _ _ _ _ s ⟨L, h1, h2⟩ => ⟨L, h1, s _ _ h2⟩
theorem stb_is {ys : List Str} : Stb (sIs ys) := fun _ _ _ _ _ h => h
theorem stb_cat {S S' : LS} (a : Stb S) (b : Stb S') : Stb (sCat S S') := fun σ H H' zs s ⟨xs, ys, h1, h2, h3⟩ => ⟨xs, ys, a σ H H' xs s h1, b σ H H' ys s h2, h3⟩
theorem stb_rep {S : LS} {k : Nat} (a : Stb S) : Stb (sRep S k) := fun σ H H' zs s ⟨xs, h1, h2⟩ => ⟨xs, a σ H H' xs s h1, h2⟩
section
variable {X : Cx} {a b e : Expr} {S S' : LS} {pos : Pos} {i k : Nat} {x : Str}
theorem PE.weak {t t' : TE} (h : PE X e t) (m : ∀ σ H Q, t' σ H Q → t σ H Q) : PE X e t' := ⟨fun pins s σ H Q I z => h.run pins s σ H Q I (m σ H Q z)⟩
theorem ls_var (h : PE X e (tVar i)) : PE X e (tLs (sVar i)) := PE.weak h fun σ H Q ⟨xs, ⟨L, h1, h2⟩, _, q⟩ => ⟨_, h1, q L H (Same.refl H) h2⟩
theorem ls_cat (ha : PE X a (tLs S)) (hb : PE X b (tLs S')) (sa : Stb S) (sb : Stb S') : PE X (.BinOp a .Add b pos) (tLs (sCat S S')) := by
  refine PE.weak (pe_op op_cat ha hb) fun σ H Q z => ?_
  obtain ⟨zs, ⟨xs, ys, h1, h2, rfl⟩, hl, q⟩ := z
  rw [List.length_append] at hl
  refine ⟨xs, h1, by omega, fun p1 H1 s1 e1 => ⟨ys, sb _ _ _ _ s1 h2, by omega, fun p2 H2 s2 e2 => ?_⟩⟩
  refine ⟨p1, p2, _, _, rfl, rfl, s2 _ _ e1, e2, szL (by rw [List.length_map, List.length_map]; omega), fun p3 n3 => ?_⟩
  exact q p3 _ ((s1.trans s2).trans (same_upd n3)) (by rw [upd_same, List.map_append])
theorem ls_rep {jj pp} (ha : PE X a (tLs S)) (hk1 : 1 ≤ k) (hk : k ≤ 1000) : PE X (.BinOp a .Mult (.Constant (.int (k : Int)) jj pp) pos) (tLs (sRep S k)) := by
  refine PE.weak (pe_op op_rep ha pe_int) fun σ H Q z => ?_
  obtain ⟨zs, ⟨xs, h1, rfl⟩, hl, q⟩ := z
  have hlen : ((List.replicate k xs).flatten).length = k * xs.length := by
    clear hl q hk hk1
    induction k with
    | zero => simp
    | succ n ih => rw [List.replicate_succ, List.flatten_cons, List.length_append, ih, Nat.succ_mul]; omega
  have hx : xs.length ≤ k * xs.length := by
    have := Nat.mul_le_mul_right xs.length hk1
    omega
  refine ⟨xs, h1, by omega, fun p1 H1 s1 e1 => ?_⟩
  refine ⟨p1, (k : Int), _, rfl, rfl, e1, by omega, by omega, by rw [List.length_map, Int.toNat_natCast, Nat.mul_comm]; exact szL (by omega), fun p3 n3 => ?_⟩
  refine q p3 _ (s1.trans (same_upd n3)) ?_
  rw [upd_same, Int.toNat_natCast]
  congr 2
  clear hl q hk hk1 hlen hx
  induction k with
  | zero => rfl
  | succ n ih => rw [List.replicate_succ, List.flatten_cons, ih, List.replicate_succ, List.flatten_cons, List.map_append]
/-- a display of written texts -/
theorem ls_lit {ta : TA} {es : List Expr} {ys : List Str} (h : PA X es ta) (ht : ∀ σ H (Q : List V → Hp → Prop), Q (ys.map V.str) H → ta σ H Q) : PE X (.List es pos) (tLs (sIs ys)) :=
  PE.weak (pe_lst h) fun σ H Q ⟨xs, e, hl, q⟩ => by
    subst e
    exact ht σ H _ ⟨szL (by rw [List.length_map]; omega), fun p np => q p _ (same_upd np) upd_same⟩
end
/-! ### the sources -/
def lead0 : Str := "def main(a) { set x = a; emit x; }"
def leadL (m : Nat) : List Str := lead0 :: (List.range m).map fun k => ("def " ++ mkS [102 + k] ++ "() {}" : Str)
abbrev ss (l : List Str) : List Str := l
/-- what _law_faulty gives: the kind, how many more, and one more choice -/
def fGen (kind many x : Nat) : List Str × Str := match kind with
  | 0 => (leadL many ++ ((List.range (11 - many)).map fun k => ("def " ++ mkS [112 + k / 6] ++ mkS [97 + k % 6] ++ "() {}" : Str)) ++ ss ["def @last() {}"], "functions")
  | 1 => (leadL many ++ ss ["def  @main() { emit zz; }"], "duplicate")
  | 2 => (leadL many ++ ss ["def k(a, b, c, d, @e, e) {}"], "parameters")
  | 3 => (leadL many ++ ss ["def k(a, b, @a) { put A = q; }"], "duplicate")
  | 4 => (leadL many ++ ss ["def k() {"] ++ (List.replicate 58 ("  emit 1;" : Str) ++ ss ["  @loop 2 {}"]) ++ ss ["}"], "statements")
  | 5 => (leadL many ++ ss ["def k() {"] ++ List.replicate 8 ("  loop 1 {" : Str) ++ ss ["  @emit 1;"] ++ List.replicate 9 ("}" : Str), "nesting")
  | 6 => (leadL many ++ ss ["def k(n) {", "  call n = @nobody(zz) share 1/0 else 0;", "}"], "undefined")
  | 7 => (leadL many ++ ss ["def k(n) {", (if x = 0 then "  call n = @k() share 1/0 else 0; }" else "  call n = @k(n, 1) share 1/0 else 0; }")], "arguments")
  | 8 => (leadL many ++ ss ["def k(n) {", (match x with | 0 => "  call n = k(zz) share @0/5 else 0; }" | 1 => "  call n = k(zz) share @3/2 else 0; }" | 2 => "  call n = k(zz) share @1/10 else 0; }" | _ => "  call n = k(zz) share @0/0 else 0; }")], "share")
  | 9 => (leadL many ++ ss ["def k(n) {", (match x with | 0 => "emit 1 + @zz;" | 1 => "if n < @zz { emit yy; }" | 2 => "loop @zz { emit yy; }" | 3 => "return n * @zz;" | 4 => "put A = @zz;" | 5 => "set y = y + @zz;" | 6 => "call y = k(@zz) share 9/9 else yy;" | 7 => "call y = k(2) share 1/9 else @zz;" | _ => "if 1 = 1 { emit 1; } else { emit @zz; }"), "set x = 1; }"], "undefined")
  | 10 => ((leadL many).take 1 ++ ss ["def k(a, b, c, d) {@"] ++ (List.replicate 55 ("  emit 1;" : Str) ++ ss ["  emit later;", "  set later = 2;", "  loop 0 {}"]) ++ ss ["}"], "")
  | _ => (leadL many ++ ss ["def k() {@"] ++ List.replicate 7 ("  loop 1 {" : Str) ++ ss ["  emit 1;"] ++ List.replicate 8 ("}" : Str), "")
/-- the mark's place and the source without it -/
def markAt : Nat → List Str → Option (Nat × Nat)
  | _, [] => none
  | i, l :: ls => match l.cps.toList.findIdx? (· = 64) with
    | some j => some (i, j)
    | none => markAt (i + 1) ls
def srcOf (ls : List Str) : List Nat := (TL.joinL [10] (ls.map txt)).filter (· ≠ 64)
/-- the mirror answers as the law wants, and the sizes fit -/
def okGen (kind many x : Nat) : Bool :=
  let g := fGen kind many x
  let s := srcOf g.1
  srcFit s && (fmtFit s && (match markAt 0 g.1, mFormat s with
    | some (i, j), .error (.chk w l c) => decide (g.2 = w) && (decide (l = i) && (decide (c = j) && !decide (w = "")))
    | _, .ok _ => decide (g.2 = "")
    | _, _ => false))
theorem okAll : ((List.range 12).all fun k => (List.range 3).all fun m => (List.range 9).all fun x => okGen k m x) = true := by
  decide +kernel
end Fs
-- FsN1
set_option Elab.async false
set_option linter.all false
set_option maxRecDepth 100000
set_option maxHeartbeats 8000000
namespace Fs
open PySem PySem.Spec PyProof.Rows L2
def sHead (i : Nat) : LS := fun σ H xs => ∃ L ys, σ[i]? = some (some (.ref L)) ∧ H L = some (.lst ((ys : List Str).map V.str)) ∧ ys.length ≤ 10000 ∧ xs = ys.take 1
theorem stb_head {i : Nat} : Stb (sHead i) := fun _ _ _ _ s ⟨L, ys, h1, h2, h3⟩ => ⟨L, ys, h1, s _ _ h2, h3⟩
theorem cutTo1 (xs : List V) : cutV xs none (some 1) = xs.take 1 := by
  unfold cutV
  rw [show HT.sIx xs.length xs.length (some 1) = min 1 xs.length from HT.sIx_nat xs.length xs.length 1, HT.sIx_none, List.drop_zero, Nat.sub_zero]
  cases xs with
  | nil => rfl
  | cons x r => rw [show min 1 (x :: r).length = 1 by rw [List.length_cons]; omega]
theorem ls_head {X : Cx} {e : Expr} {i : Nat} {jj : Nat} {pp p2 pos : Pos} (h : PE X e (tVar i)) : PE X (.Subscript e (.Slice none (some (.Constant (.int 1) jj pp)) none p2) pos) (tLs (sHead i)) :=
  PE.weak (pe_slice sl_list h po_none (po_some pe_int)) fun σ H Q ⟨xs, ⟨L, ys, h1, h2, h3, h4⟩, _, q⟩ => by
    subst h4
    refine ⟨_, h1, 1, rfl, L, _, rfl, SqL.of h2, fun p np => ?_⟩
    refine q p _ (same_upd np) ?_
    rw [upd_same, cutTo1, List.map_take]
section
variable {P : Program} {w : World} {K : PySem.W.Frag} {mg : Str → Option Value} {base h : Heap}
variable {l p : Addr} {H0 G0 H G H' G' : Hp} {vs ws : List V} {o : HO}
def spFaulty : Sp := fun vs H Q _ => ∃ (l : Addr) (d : List Int), vs = [.ref l] ∧ H l = some (.lst (d.map V.int)) ∧ OkD d ∧
  ∀ (T L : Addr) (k m x : Nat) (d' : List Int) (H' : Hp), k < 12 → m < 3 → x < 9 → SameBut l H H' → H' l = some (.lst (d'.map V.int)) → OkD d' → H' L = some (.lst ((fGen k m x).1.map V.str)) → H' T = some (.tup [.ref L, .str (fGen k m x).2]) → Q (.ref T) H'
theorem p_faulty (T : Txt K w mg h) : Prom P w K mg base "_law_faulty" 2 spFaulty := by
  obtain ⟨fd, F⟩ := f_law_faulty T
  refine ⟨_, fd, ["_law_d"], g_law_faulty T, F.kp, F.bindsN fun _ _ _ _ _ _ us hl => match us, hl with | [_], _ => rfl, ?_⟩
  refine F.ok sc_law_faulty (fun vs H Q E h => ?_) (fun cdv A outer s H vs Q E hr h => ?_)
  · obtain ⟨l, d, rfl, _⟩ := h
    rfl
  · obtain ⟨l, d, rfl, hd, ok, q⟩ := h
    have nd := sc_law_faulty.nd
    refine ⟨_, pss_cons (ps_par (i := 1) (j := 2) rfl nd rfl rfl (by decide) rfl rfl (pa_cons (pe_p (p_below T) hr (passW (takes_of rfl rfl rfl rfl) fun _ _ _ _ z => z) (pa_cons (pv 0) (pa_cons pe_int pa_nil))) (pa_cons (pe_p (p_below T) hr (passW (takes_of rfl rfl rfl rfl) fun _ _ _ _ z => z) (pa_cons (pv 0) (pa_cons pe_int pa_nil))) pa_nil)) (by rfl))
      (C8.pss_cut (ps_set (i := 3) nd rfl (.inl rfl) (pe_op op_cat (pe_lst (pa_cons pe_str pa_nil)) (pe_lc (own := [("_law_k", 4)]) (g := gName 4) (tt := tYes) rfl nd (pi_range1 (by rfl) (b_range T) (pa_cons (pv 2) pa_nil)) (blkOk_by (N := n_law_faulty) (sc := defScope s_law_faulty) (by decide +kernel)) (fun _ _ _ _ _ => pg_name (i := 4) nd rfl (Or.inl rfl)) (fun _ _ _ _ _ => pts_nil) (fun _ _ _ _ _ => by exact pe_op op_add_str (pe_op op_add_str pe_str (pe_ix ix_str pe_str (pv 4) (fun _ _ => rfl))) pe_str))))
      (pss_cons (ps_if (pt_cmpR op_eq (pv 1) pe_int (nomark _))
        (pss_cons (ps_setLc (i := 5) (own := [("_law_k", 4)]) (g := gName 4) (tt := tYes) rfl nd rfl rfl (sw_true rfl rfl rfl (by decide +kernel)) (pi_range1 (by rfl) (b_range T) (pa_cons (pe_op op_sub pe_int (pe_callB call_len (by rfl) (b_len T) boot_len (pa_cons (pv 3) pa_nil))) pa_nil)) (blkOk_by (N := n_law_faulty) (sc := defScope s_law_faulty) (by decide +kernel)) (fun _ _ _ _ _ => pg_name (i := 4) nd rfl (Or.inl rfl)) (fun _ _ _ _ _ => pts_nil)
          (fun _ _ _ _ _ => by exact pe_op op_add_str (pe_op op_add_str (pe_op op_add_str pe_str (pe_ix ix_str pe_str (pe_op op_fdiv (pv 4) pe_int) (fun _ _ => rfl))) (pe_ix ix_str pe_str (pe_op op_mod (pv 4) pe_int) (fun _ _ => rfl))) pe_str))
        (pss_one (ps_ret (pe_tup (pa_cons (ls_cat (ls_cat (ls_var (pv 3)) (ls_var (pv 5)) stb_var stb_var) (ls_lit (ys := ["def @last() {}"]) (pa_cons pe_str pa_nil) (fun _ _ _ q => q)) (stb_cat stb_var stb_var) stb_is) (pa_cons pe_str pa_nil)))))) pss_nil)
      (pss_cons (ps_if (pt_cmpR op_eq (pv 1) pe_int (nomark _)) (pss_one (ps_ret (pe_tup (pa_cons (ls_cat (ls_var (pv 3)) (ls_lit (ys := ["def  @main() { emit zz; }"]) (pa_cons pe_str pa_nil) (fun _ _ _ q => q)) stb_var stb_is) (pa_cons pe_str pa_nil))))) pss_nil)
      (pss_cons (ps_if (pt_cmpR op_eq (pv 1) pe_int (nomark _)) (pss_one (ps_ret (pe_tup (pa_cons (ls_cat (ls_var (pv 3)) (ls_lit (ys := ["def k(a, b, c, d, @e, e) {}"]) (pa_cons pe_str pa_nil) (fun _ _ _ q => q)) stb_var stb_is) (pa_cons pe_str pa_nil))))) pss_nil)
      (pss_cons (ps_if (pt_cmpR op_eq (pv 1) pe_int (nomark _)) (pss_one (ps_ret (pe_tup (pa_cons (ls_cat (ls_var (pv 3)) (ls_lit (ys := ["def k(a, b, @a) { put A = q; }"]) (pa_cons pe_str pa_nil) (fun _ _ _ q => q)) stb_var stb_is) (pa_cons pe_str pa_nil))))) pss_nil)
      (pss_cons (ps_if (pt_cmpR op_eq (pv 1) pe_int (nomark _))
        (pss_cons (ps_set (i := 6) nd rfl (.inl rfl) (pe_op op_rep (pe_lst (pa_cons pe_str pa_nil)) (pe_op op_sub pe_int (pe_p (p_below T) hr (passW (takes_of rfl rfl rfl rfl) fun _ _ _ _ z => z) (pa_cons (pv 0) (pa_cons pe_int pa_nil))))))
        (pss_cons (ps_set (i := 6) nd rfl (.inl rfl) (pe_op op_cat (pe_op op_cat (pv 6) (pe_op op_rep (pe_lst (pa_cons pe_str pa_nil)) (pe_op op_sub pe_int (pe_callB call_len (by rfl) (b_len T) boot_len (pa_cons (pv 6) pa_nil))))) (pe_lst (pa_cons pe_str pa_nil))))
        (pss_one (ps_ret (pe_tup (pa_cons (ls_cat (ls_cat (ls_cat (ls_var (pv 3)) (ls_lit (ys := ["def k() {"]) (pa_cons pe_str pa_nil) (fun _ _ _ q => q)) stb_var stb_is) (ls_var (pv 6)) (stb_cat stb_var stb_is) stb_var) (ls_lit (ys := ["}"]) (pa_cons pe_str pa_nil) (fun _ _ _ q => q)) (stb_cat (stb_cat stb_var stb_is) stb_var) stb_is) (pa_cons pe_str pa_nil))))))) pss_nil)
      (pss_cons (ps_if (pt_cmpR op_eq (pv 1) pe_int (nomark _)) (pss_one (ps_ret (pe_tup (pa_cons (ls_cat (ls_cat (ls_cat (ls_cat (ls_var (pv 3)) (ls_lit (ys := ["def k() {"]) (pa_cons pe_str pa_nil) (fun _ _ _ q => q)) stb_var stb_is) (ls_rep (k := 8) (ls_lit (ys := ["  loop 1 {"]) (pa_cons pe_str pa_nil) (fun _ _ _ q => q)) (by decide) (by decide)) (stb_cat stb_var stb_is) (stb_rep stb_is)) (ls_lit (ys := ["  @emit 1;"]) (pa_cons pe_str pa_nil) (fun _ _ _ q => q)) (stb_cat (stb_cat stb_var stb_is) (stb_rep stb_is)) stb_is) (ls_rep (k := 9) (ls_lit (ys := ["}"]) (pa_cons pe_str pa_nil) (fun _ _ _ q => q)) (by decide) (by decide)) (stb_cat (stb_cat (stb_cat stb_var stb_is) (stb_rep stb_is)) stb_is) (stb_rep stb_is)) (pa_cons pe_str pa_nil))))) pss_nil)
      (pss_cons (ps_if (pt_cmpR op_eq (pv 1) pe_int (nomark _)) (pss_one (ps_ret (pe_tup (pa_cons (ls_cat (ls_var (pv 3)) (ls_lit (ys := ["def k(n) {", "  call n = @nobody(zz) share 1/0 else 0;", "}"]) (pa_cons pe_str (pa_cons pe_str (pa_cons pe_str pa_nil))) (fun _ _ _ q => q)) stb_var stb_is) (pa_cons pe_str pa_nil))))) pss_nil)
      (pss_cons (ps_if (pt_cmpR op_eq (pv 1) pe_int (nomark _))
        (pss_cons (ps_set (i := 7) nd rfl (.inl rfl) (pe_ix ix_list (pe_lst (pa_cons pe_str (pa_cons pe_str pa_nil))) (pe_p (p_below T) hr (passW (takes_of rfl rfl rfl rfl) fun _ _ _ _ z => z) (pa_cons (pv 0) (pa_cons pe_int pa_nil))) (fun _ _ => rfl)))
        (pss_one (ps_ret (pe_tup (pa_cons (pe_op op_cat (pv 3) (pe_lst (pa_cons pe_str (pa_cons (pe_op op_add_str (pe_op op_add_str pe_str (pv 7)) pe_str) pa_nil)))) (pa_cons pe_str pa_nil)))))) pss_nil)
      (pss_cons (ps_if (pt_cmpR op_eq (pv 1) pe_int (nomark _))
        (pss_cons (ps_set (i := 8) nd rfl (.inl rfl) (pe_ix ix_list (pe_lst (pa_cons pe_str (pa_cons pe_str (pa_cons pe_str (pa_cons pe_str pa_nil))))) (pe_p (p_below T) hr (passW (takes_of rfl rfl rfl rfl) fun _ _ _ _ z => z) (pa_cons (pv 0) (pa_cons pe_int pa_nil))) (fun _ _ => rfl)))
        (pss_one (ps_ret (pe_tup (pa_cons (pe_op op_cat (pv 3) (pe_lst (pa_cons pe_str (pa_cons (pe_op op_add_str (pe_op op_add_str pe_str (pv 8)) pe_str) pa_nil)))) (pa_cons pe_str pa_nil)))))) pss_nil)
      (pss_cons (ps_if (pt_cmpR op_eq (pv 1) pe_int (nomark _))
        (pss_cons (ps_set (i := 9) nd rfl (.inl rfl) (pe_lst (pa_cons pe_str (pa_cons pe_str (pa_cons pe_str (pa_cons pe_str (pa_cons pe_str pa_nil)))))))
        (pss_cons (ps_set (i := 9) nd rfl (.inl rfl) (pe_op op_cat (pv 9) (pe_lst (pa_cons pe_str (pa_cons pe_str (pa_cons pe_str pa_nil))))))
        (pss_cons (ps_expr (pe_bm PySem.F.plainAttrs_list PySem.F.slot_list_append PySem.F.type_list_append mt_append (pv 9) (pa_cons pe_str pa_nil)))
        (pss_one (ps_ret (pe_tup (pa_cons (pe_op op_cat (pv 3) (pe_lst (pa_cons pe_str (pa_cons (pe_ix ix_list (pv 9) (pe_p (p_below T) hr (passW (takes_of rfl rfl rfl rfl) fun _ _ _ _ z => z) (pa_cons (pv 0) (pa_cons pe_int pa_nil))) (fun _ _ => rfl)) (pa_cons pe_str pa_nil))))) (pa_cons pe_str pa_nil)))))))) pss_nil)
      (pss_cons (ps_if (pt_cmpR op_eq (pv 1) pe_int (nomark _))
        (pss_cons (ps_set (i := 6) nd rfl (.inl rfl) (ls_cat (ls_rep (k := 55) (ls_lit (ys := ["  emit 1;"]) (pa_cons pe_str pa_nil) (fun _ _ _ q => q)) (by decide) (by decide)) (ls_lit (ys := ["  emit later;", "  set later = 2;", "  loop 0 {}"]) (pa_cons pe_str (pa_cons pe_str (pa_cons pe_str pa_nil))) (fun _ _ _ q => q)) (stb_rep stb_is) stb_is))
        (pss_one (ps_ret (pe_tup (pa_cons (ls_cat (ls_cat (ls_cat (ls_head (pv 3)) (ls_lit (ys := ["def k(a, b, c, d) {@"]) (pa_cons pe_str pa_nil) (fun _ _ _ q => q)) stb_head stb_is) (ls_var (pv 6)) (stb_cat stb_head stb_is) stb_var) (ls_lit (ys := ["}"]) (pa_cons pe_str pa_nil) (fun _ _ _ q => q)) (stb_cat (stb_cat stb_head stb_is) stb_var) stb_is) (pa_cons pe_str pa_nil)))))) pss_nil)
      (pss_one (ps_ret (pe_tup (pa_cons (ls_cat (ls_cat (ls_cat (ls_cat (ls_var (pv 3)) (ls_lit (ys := ["def k() {@"]) (pa_cons pe_str pa_nil) (fun _ _ _ q => q)) stb_var stb_is) (ls_rep (k := 7) (ls_lit (ys := ["  loop 1 {"]) (pa_cons pe_str pa_nil) (fun _ _ _ q => q)) (by decide) (by decide)) (stb_cat stb_var stb_is) (stb_rep stb_is)) (ls_lit (ys := ["  emit 1;"]) (pa_cons pe_str pa_nil) (fun _ _ _ q => q)) (stb_cat (stb_cat stb_var stb_is) (stb_rep stb_is)) stb_is) (ls_rep (k := 8) (ls_lit (ys := ["}"]) (pa_cons pe_str pa_nil) (fun _ _ _ q => q)) (by decide) (by decide)) (stb_cat (stb_cat (stb_cat stb_var stb_is) (stb_rep stb_is)) stb_is) (stb_rep stb_is)) (pa_cons pe_str pa_nil))))))))))))))))), ?_⟩
    refine ⟨_, rfl, l, 12, d, rfl, hd, ok, by decide, by decide, fun kd d1 hk0 hk1 ok1 => ⟨_, rfl, l, 3, d1, rfl, upd_same, ok1, by decide, by decide, fun md d2 hm0 hm1 ok2 => ⟨_, _, rfl, ?_⟩⟩⟩
    rw [upd_upd]
    obtain ⟨m, rfl⟩ := Int.eq_ofNat_of_zero_le hm0
    obtain ⟨k, rfl⟩ := Int.eq_ofNat_of_zero_le hk0
    have hm : m < 3 := by omega
    have hk : k < 12 := by omega
    have sb0 : SameBut l H (upd H l (.lst (d2.map V.int))) := fun b o e n => by rw [upd_ne n]; exact e
    have hl0 : upd H l (.lst (d2.map V.int)) l = some (.lst (d2.map V.int)) := upd_same
    revert sb0 hl0
    generalize upd H l (.lst (d2.map V.int)) = H1
    intro sb0 hl0
    refine ⟨fun σ' H' => ∃ L x4, σ' = [some (.ref l), some (.int (k : Int)), some (.int (m : Int)), some (.ref L), x4, none, none, none, none, none] ∧ H' L = some (.lst ((leadL m).map V.str)) ∧ Same H1 H' ∧ L ≠ l, ?_, ?_⟩
    · refine ⟨by show 1 ≤ sizeLine; decide, fun p1 n1 => ?_⟩
      have sm := same_upd (o := .lst [.str lead0]) n1
      refine ⟨_, rfl, _, rfl, by omega, by omega, fun D nD => ?_⟩
      refine lc_range (lo := 0) (n := m) (fun i H' => Same (upd H1 p1 (.lst [.str lead0])) H' ∧ H' D = some (.lst (((List.range i).map fun k => ("def " ++ mkS [102 + k] ++ "() {}" : Str)).map V.str))) ⟨same_upd nD, upd_same⟩ (fun i H' hi z => ?_) (fun H' z => ?_)
      · obtain ⟨s1, hD⟩ := z
        have hc : atI ("fgh" : Str).cps.toList ((0 : Int) + (i : Int)) = some (102 + i) := by
          have e : ("fgh" : Str).cps.toList = [102, 103, 104] := by decide +kernel
          rw [e, Int.zero_add]
          refine atI_nat ?_
          match i, (show i < 3 by omega) with
          | 0, _ => rfl
          | 1, _ => rfl
          | 2, _ => rfl
        refine ⟨rfl, _, rfl, "fgh", _, 102 + i, rfl, rfl, szL (by decide +kernel), hc, "def ", mkS [102 + i], rfl, rfl, szL (by rw [mkl]; exact (by decide +kernel : ("def " : Str).length + 1 ≤ 2000000)), _, "() {}", rfl, rfl, szL (by rw [sal, mkl]; exact (by decide +kernel : ("def " : Str).length + 1 + ("() {}" : Str).length ≤ 2000000)), _, hD, Nat.lt_of_le_of_lt (show _ ≤ 1000 by simp; omega) (by decide), fun b o e => by rw [upd_ne (ne_of_none e nD)]; exact s1 b o e, ?_⟩
        rw [upd_same, List.range_succ, List.map_append, List.map_append]
        rfl
      · obtain ⟨s1, hD⟩ := z
        refine ⟨p1, D, _, _, rfl, rfl, s1 _ _ upd_same, hD, szL (by simp; omega), fun p3 n3 => ?_⟩
        refine ⟨p3, _, rfl, upd_same, (sm.trans s1).trans (same_upd n3), ?_⟩
        exact fun e => by
          have := (sm.trans s1) _ _ hl0
          rw [e, this] at n3
          cases n3
    · rintro σ' H2 ⟨L, x4, rfl, hL, s2, nLl⟩
      have hl2 : H2 l = some (.lst (d2.map V.int)) := s2 _ _ hl0
      have sb2 : ∀ H3, Same H2 H3 → SameBut l H H3 := fun H3 s3 => sb0.trans (but_of (s2.trans s3))
      have lm : (leadL m).length = m + 1 := by simp [leadL]
      -- one list, one reason
      have out : ∀ (x : Nat) (p : Addr) (H3 : Hp) (r : Str), x < 9 → Same H2 H3 → H3 p = some (.lst ((fGen k m x).1.map V.str)) → r = (fGen k m x).2 → ∀ T, H3 T = none → Q (.ref T) (upd H3 T (.tup [.ref p, .str r])) := fun x p H3 r hx s3 hp hr T nT => by
        subst hr
        refine q T p k m x d2 _ hk hm hx (sb2 _ (s3.trans (same_upd nT))) ?_ ok2 ?_ upd_same
        · rw [upd_ne (ne_of_none (s3 _ _ hl2) nT)]; exact s3 _ _ hl2
        · rw [upd_ne (ne_of_none hp nT)]; exact hp
      have fin : ∀ (x : Nat) (p : Addr) (H3 : Hp) (r : Str) (d3 : List Int), x < 9 → SameBut l H H3 → H3 l = some (.lst (d3.map V.int)) → OkD d3 → H3 p = some (.lst ((fGen k m x).1.map V.str)) → r = (fGen k m x).2 → ∀ T, H3 T = none → Q (.ref T) (upd H3 T (.tup [.ref p, .str r])) := fun x p H3 r d3 hx s3 h3 o3 hp hr T nT => by
        subst hr
        refine q T p k m x d3 _ hk hm hx (s3.trans (but_of (same_upd nT))) ?_ o3 ?_ upd_same
        · rw [upd_ne (ne_of_none h3 nT)]; exact h3
        · rw [upd_ne (ne_of_none hp nT)]; exact hp
      match k, hk, out, fin with
      | 0, _, out, fin =>
        refine ⟨_, rfl, rfl, _, rfl, iteT ?_⟩
        refine ⟨_, rfl, _, m + 1, rfl, .inl ⟨_, SqL.of hL, by rw [List.length_map, lm]⟩, 12, _, rfl, rfl, _, rfl, by omega, by omega, fun D nD => ?_⟩
        have ej : ((12 : Int) - ((m + 1 : Nat) : Int)).toNat = 11 - m := by omega
        rw [ej]
        refine lc_range (lo := 0) (n := 11 - m) (fun i H' => Same H2 H' ∧ H' D = some (.lst (((List.range i).map fun k => ("def " ++ mkS [112 + k / 6] ++ mkS [97 + k % 6] ++ "() {}" : Str)).map V.str))) ⟨same_upd nD, upd_same⟩ (fun i H' hi z => ?_) (fun H' z => ?_)
        · obtain ⟨s3, hD⟩ := z
          have hc1 : atI ("pq" : Str).cps.toList (((0 : Int) + (i : Int)) / 6) = some (112 + i / 6) := by
            have e : ("pq" : Str).cps.toList = [112, 113] := by decide +kernel
            rw [e, Int.zero_add, show ((i : Int) / 6) = ((i / 6 : Nat) : Int) by omega]
            refine atI_nat ?_
            have : i / 6 < 2 := by omega
            match i / 6, this with
            | 0, _ => rfl
            | 1, _ => rfl
          have hc2 : atI ("abcdef" : Str).cps.toList (((0 : Int) + (i : Int)) % 6) = some (97 + i % 6) := by
            have e : ("abcdef" : Str).cps.toList = [97, 98, 99, 100, 101, 102] := by decide +kernel
            rw [e, Int.zero_add, show ((i : Int) % 6) = ((i % 6 : Nat) : Int) by omega]
            refine atI_nat ?_
            have : i % 6 < 6 := by omega
            match i % 6, this with
            | 0, _ => rfl
            | 1, _ => rfl
            | 2, _ => rfl
            | 3, _ => rfl
            | 4, _ => rfl
            | 5, _ => rfl
          refine ⟨rfl, _, rfl, _, _, rfl, rfl, ⟨by decide, by decide⟩, "pq", _, 112 + i / 6, rfl, rfl, szL (by decide +kernel), hc1, "def ", mkS [112 + i / 6], rfl, rfl, szL (by rw [mkl]; exact (by decide +kernel : ("def " : Str).length + 1 ≤ 2000000)), ?_⟩
          refine ⟨_, rfl, _, _, rfl, rfl, (by show (0 : Int) < 6; decide), "abcdef", _, 97 + i % 6, rfl, rfl, szL (by decide +kernel), hc2, _, mkS [97 + i % 6], rfl, rfl, szL (by rw [sal, mkl, mkl]; exact (by decide +kernel : ("def " : Str).length + 1 + 1 ≤ 2000000)), ?_⟩
          refine ⟨_, "() {}", rfl, rfl, szL (by rw [sal, sal, mkl, mkl]; exact (by decide +kernel : ("def " : Str).length + 1 + 1 + ("() {}" : Str).length ≤ 2000000)), _, hD, Nat.lt_of_le_of_lt (show _ ≤ 1000 by simp; omega) (by decide), fun b o e => by rw [upd_ne (ne_of_none e nD)]; exact s3 b o e, ?_⟩
          rw [upd_same, List.range_succ, List.map_append, List.map_append]
          rfl
        · obtain ⟨s3, hD⟩ := z
          exact ⟨_, ⟨_, _, ⟨_, _, ⟨L, rfl, s3 _ _ hL⟩, ⟨D, rfl, hD⟩, rfl⟩, rfl, rfl⟩, by simp [lm]; omega, fun p H5 s5 hp => ⟨by show 2 ≤ sizeLine; decide, fun T nT => out 0 p H5 _ (by decide) (s3.trans s5) hp rfl T nT⟩⟩
      | 1, _, out, fin =>
        refine ⟨_, rfl, rfl, _, rfl, iteF ?_⟩
        refine ⟨_, rfl, rfl, _, rfl, iteT ?_⟩
        exact ⟨_, ⟨_, _, ⟨L, rfl, hL⟩, rfl, rfl⟩, by simp [lm]; omega, fun p H3 s3 hp => ⟨by show 2 ≤ sizeLine; decide, fun T nT => out 0 p H3 _ (by decide) s3 hp rfl T nT⟩⟩
      | 2, _, out, fin =>
        refine ⟨_, rfl, rfl, _, rfl, iteF ?_⟩
        refine ⟨_, rfl, rfl, _, rfl, iteF ?_⟩
        refine ⟨_, rfl, rfl, _, rfl, iteT ?_⟩
        exact ⟨_, ⟨_, _, ⟨L, rfl, hL⟩, rfl, rfl⟩, by simp [lm]; omega, fun p H3 s3 hp => ⟨by show 2 ≤ sizeLine; decide, fun T nT => out 0 p H3 _ (by decide) s3 hp rfl T nT⟩⟩
      | 3, _, out, fin =>
        refine ⟨_, rfl, rfl, _, rfl, iteF ?_⟩
        refine ⟨_, rfl, rfl, _, rfl, iteF ?_⟩
        refine ⟨_, rfl, rfl, _, rfl, iteF ?_⟩
        refine ⟨_, rfl, rfl, _, rfl, iteT ?_⟩
        exact ⟨_, ⟨_, _, ⟨L, rfl, hL⟩, rfl, rfl⟩, by simp [lm]; omega, fun p H3 s3 hp => ⟨by show 2 ≤ sizeLine; decide, fun T nT => out 0 p H3 _ (by decide) s3 hp rfl T nT⟩⟩
      | 4, _, out, fin =>
        refine ⟨_, rfl, rfl, _, rfl, iteF ?_⟩
        refine ⟨_, rfl, rfl, _, rfl, iteF ?_⟩
        refine ⟨_, rfl, rfl, _, rfl, iteF ?_⟩
        refine ⟨_, rfl, rfl, _, rfl, iteF ?_⟩
        refine ⟨_, rfl, rfl, _, rfl, iteT ?_⟩
        refine ⟨by show 1 ≤ sizeLine; decide, fun p1 n1 => ?_⟩
        have e1 : l ≠ p1 := ne_of_none hl2 n1
        refine ⟨_, rfl, l, 2, d2, rfl, by rw [upd_ne e1]; exact hl2, ok2, by decide, by decide, fun r d3 hr0 hr1 ok3 => ?_⟩
        have b3 : SameBut l H2 (upd (upd H2 p1 (.lst [V.str "  emit 1;"])) l (.lst (d3.map V.int))) := fun b o e nb => by rw [upd_ne nb, upd_ne (ne_of_none e n1)]; exact e
        have h3 : upd (upd H2 p1 (.lst [V.str "  emit 1;"])) l (.lst (d3.map V.int)) l = some (.lst (d3.map V.int)) := upd_same
        have hp1 : upd (upd H2 p1 (.lst [V.str "  emit 1;"])) l (.lst (d3.map V.int)) p1 = some (.lst [V.str "  emit 1;"]) := by rw [upd_ne (Ne.symm e1)]; exact upd_same
        have hL3 := b3 _ _ hL nLl
        have sb3 := (sb0.trans (but_of s2)).trans b3
        revert b3 h3 hp1 hL3 sb3
        generalize upd (upd H2 p1 (.lst [V.str "  emit 1;"])) l (.lst (d3.map V.int)) = H3
        intro b3 h3 hp1 hL3 sb3
        have fin4 : ∀ (H8 : Hp) (p7 : Addr), Same H3 H8 → H8 p7 = some (.lst ((List.replicate 58 ("  emit 1;" : Str) ++ ss ["  @loop 2 {}"]).map V.str)) → ∀ p H9, Same H8 H9 → H9 p = some (.lst ((fGen 4 m 0).1.map V.str)) → ∀ T, H9 T = none → Q (.ref T) (upd H9 T (.tup [.ref p, .str "statements"])) := fun H8 p7 s8 h8 p H9 s9 hp T nT =>
          fin 0 p H9 _ d3 (by decide) (sb3.trans (but_of (s8.trans s9))) ((s8.trans s9) _ _ h3) ok3 hp rfl T nT
        rcases (show r = 0 ∨ r = 1 by omega) with rfl | rfl
        · refine ⟨_, _, rfl, rfl, p1, 58, _, rfl, rfl, hp1, by decide, by decide, szL (by decide), fun p2 n2 => ?_⟩
          refine ⟨_, rfl, by show 1 ≤ sizeLine; decide, fun p3 n3 => ?_⟩
          have s3 := (same_upd (o := .lst (List.replicate (58 : Int).toNat [V.str "  emit 1;"]).flatten) n2)
          have s4 := (same_upd (o := .lst [V.str "  emit 1;"]) n3)
          refine ⟨_, rfl, _, 58, rfl, .inl ⟨_, SqL.of (s4 _ _ upd_same), rfl⟩, _, _, rfl, rfl, p3, 0, _, rfl, rfl, upd_same, by decide, by decide, szL (by decide), fun p4 n4 => ?_⟩
          have s5 := (same_upd (o := .lst (List.replicate (0 : Int).toNat [V.str "  emit 1;"]).flatten) n4)
          refine ⟨p2, p4, _, _, rfl, rfl, s5 _ _ (s4 _ _ upd_same), upd_same, szL (by decide), fun p5 n5 => ?_⟩
          refine ⟨by show 1 ≤ sizeLine; decide, fun p6 n6 => ?_⟩
          refine ⟨p5, p6, _, _, rfl, rfl, by rw [upd_ne (ne_of_none upd_same n6)]; exact upd_same, upd_same, szL (by decide), fun p7 n7 => ?_⟩
          have s8 := fun o => (((s3.trans s4).trans s5).trans (same_upd n5)).trans ((same_upd n6).trans (same_upd (o := o) n7))
          exact ⟨_, ⟨_, _, ⟨_, _, ⟨_, _, ⟨L, rfl, s8 _ _ _ hL3⟩, rfl, rfl⟩, ⟨p7, rfl, upd_same⟩, rfl⟩, rfl, rfl⟩, by simp [lm]; omega, fun p H9 s9 hp => ⟨by show 2 ≤ sizeLine; decide, fun T nT => fin4 _ p7 (s8 _) upd_same p H9 s9 hp T nT⟩⟩
        · refine ⟨_, _, rfl, rfl, p1, 57, _, rfl, rfl, hp1, by decide, by decide, szL (by decide), fun p2 n2 => ?_⟩
          refine ⟨_, rfl, by show 1 ≤ sizeLine; decide, fun p3 n3 => ?_⟩
          have s3 := (same_upd (o := .lst (List.replicate (57 : Int).toNat [V.str "  emit 1;"]).flatten) n2)
          have s4 := (same_upd (o := .lst [V.str "  emit 1;"]) n3)
          refine ⟨_, rfl, _, 57, rfl, .inl ⟨_, SqL.of (s4 _ _ upd_same), rfl⟩, _, _, rfl, rfl, p3, 1, _, rfl, rfl, upd_same, by decide, by decide, szL (by decide), fun p4 n4 => ?_⟩
          have s5 := (same_upd (o := .lst (List.replicate (1 : Int).toNat [V.str "  emit 1;"]).flatten) n4)
          refine ⟨p2, p4, _, _, rfl, rfl, s5 _ _ (s4 _ _ upd_same), upd_same, szL (by decide), fun p5 n5 => ?_⟩
          refine ⟨by show 1 ≤ sizeLine; decide, fun p6 n6 => ?_⟩
          refine ⟨p5, p6, _, _, rfl, rfl, by rw [upd_ne (ne_of_none upd_same n6)]; exact upd_same, upd_same, szL (by decide), fun p7 n7 => ?_⟩
          have s8 := fun o => (((s3.trans s4).trans s5).trans (same_upd n5)).trans ((same_upd n6).trans (same_upd (o := o) n7))
          exact ⟨_, ⟨_, _, ⟨_, _, ⟨_, _, ⟨L, rfl, s8 _ _ _ hL3⟩, rfl, rfl⟩, ⟨p7, rfl, upd_same⟩, rfl⟩, rfl, rfl⟩, by simp [lm]; omega, fun p H9 s9 hp => ⟨by show 2 ≤ sizeLine; decide, fun T nT => fin4 _ p7 (s8 _) upd_same p H9 s9 hp T nT⟩⟩
      | 5, _, out, fin =>
        refine ⟨_, rfl, rfl, _, rfl, iteF ?_⟩
        refine ⟨_, rfl, rfl, _, rfl, iteF ?_⟩
        refine ⟨_, rfl, rfl, _, rfl, iteF ?_⟩
        refine ⟨_, rfl, rfl, _, rfl, iteF ?_⟩
        refine ⟨_, rfl, rfl, _, rfl, iteF ?_⟩
        refine ⟨_, rfl, rfl, _, rfl, iteT ?_⟩
        exact ⟨_, ⟨_, _, ⟨_, _, ⟨_, _, ⟨_, _, ⟨L, rfl, hL⟩, rfl, rfl⟩, ⟨_, rfl, rfl⟩, rfl⟩, rfl, rfl⟩, ⟨_, rfl, rfl⟩, rfl⟩, by simp [lm]; omega, fun p H3 s3 hp => ⟨by show 2 ≤ sizeLine; decide, fun T nT => out 0 p H3 _ (by decide) s3 hp rfl T nT⟩⟩
      | 6, _, out, fin =>
        refine ⟨_, rfl, rfl, _, rfl, iteF ?_⟩
        refine ⟨_, rfl, rfl, _, rfl, iteF ?_⟩
        refine ⟨_, rfl, rfl, _, rfl, iteF ?_⟩
        refine ⟨_, rfl, rfl, _, rfl, iteF ?_⟩
        refine ⟨_, rfl, rfl, _, rfl, iteF ?_⟩
        refine ⟨_, rfl, rfl, _, rfl, iteF ?_⟩
        refine ⟨_, rfl, rfl, _, rfl, iteT ?_⟩
        exact ⟨_, ⟨_, _, ⟨L, rfl, hL⟩, rfl, rfl⟩, by simp [lm]; omega, fun p H3 s3 hp => ⟨by show 2 ≤ sizeLine; decide, fun T nT => out 0 p H3 _ (by decide) s3 hp rfl T nT⟩⟩
      | 7, _, out, fin =>
        refine ⟨_, rfl, rfl, _, rfl, iteF ?_⟩
        refine ⟨_, rfl, rfl, _, rfl, iteF ?_⟩
        refine ⟨_, rfl, rfl, _, rfl, iteF ?_⟩
        refine ⟨_, rfl, rfl, _, rfl, iteF ?_⟩
        refine ⟨_, rfl, rfl, _, rfl, iteF ?_⟩
        refine ⟨_, rfl, rfl, _, rfl, iteF ?_⟩
        refine ⟨_, rfl, rfl, _, rfl, iteF ?_⟩
        refine ⟨_, rfl, rfl, _, rfl, iteT ?_⟩
        refine ⟨by show 2 ≤ sizeLine; decide, fun p1 n1 => ?_⟩
        have e1 : l ≠ p1 := ne_of_none hl2 n1
        refine ⟨_, rfl, l, 2, d2, rfl, by rw [upd_ne e1]; exact hl2, ok2, by decide, by decide, fun r d3 hr0 hr1 ok3 => ?_⟩
        have b3 : SameBut l H2 (upd (upd H2 p1 (.lst [V.str "", V.str "n, 1"])) l (.lst (d3.map V.int))) := fun b o e nb => by rw [upd_ne nb, upd_ne (ne_of_none e n1)]; exact e
        have h3 : upd (upd H2 p1 (.lst [V.str "", V.str "n, 1"])) l (.lst (d3.map V.int)) l = some (.lst (d3.map V.int)) := upd_same
        have hp1 : upd (upd H2 p1 (.lst [V.str "", V.str "n, 1"])) l (.lst (d3.map V.int)) p1 = some (.lst [V.str "", V.str "n, 1"]) := by rw [upd_ne (Ne.symm e1)]; exact upd_same
        have hL3 := b3 _ _ hL nLl
        have sb3 := (sb0.trans (but_of s2)).trans b3
        revert b3 h3 hp1 hL3 sb3
        generalize upd (upd H2 p1 (.lst [V.str "", V.str "n, 1"])) l (.lst (d3.map V.int)) = H3
        intro b3 h3 hp1 hL3 sb3
        rcases (show r = 0 ∨ r = 1 by omega) with rfl | rfl
        · have es : ("  call n = @k(" ++ "" ++ ") share 1/0 else 0; }" : Str) = "  call n = @k() share 1/0 else 0; }" := str_eq (by decide +kernel)
          refine ⟨p1, _, 0, .str "", rfl, rfl, SqL.of hp1, atI_nat (j := 0) rfl, ?_⟩
          refine ⟨_, rfl, _, rfl, "  call n = @k(", "", rfl, rfl, szL (by decide +kernel), _, ") share 1/0 else 0; }", rfl, rfl, szL (by decide +kernel), (by show 2 ≤ sizeLine; decide), fun p2 n2 => ?_⟩
          refine ⟨L, p2, _, _, rfl, rfl, by rw [upd_ne (ne_of_none hL3 n2)]; exact hL3, upd_same, szL (by rw [List.length_map, lm]; show _ + 2 ≤ _; omega), fun p3 n3 => ⟨by show 2 ≤ sizeLine; decide, fun T nT => fin 0 p3 _ _ d3 (by decide) ((sb3.trans (but_of (same_upd n2))).trans (but_of (same_upd n3))) ?_ ok3 ?_ rfl T nT⟩⟩
          · rw [upd_ne (ne_of_none (show upd H3 p2 _ l = _ from by rw [upd_ne (ne_of_none h3 n2)]; exact h3) n3), upd_ne (ne_of_none h3 n2)]; exact h3
          · rw [upd_same, es]
            show _ = some (HO.lst ((leadL m ++ ss ["def k(n) {", "  call n = @k() share 1/0 else 0; }"]).map V.str))
            rw [List.map_append]
            rfl
        · have es : ("  call n = @k(" ++ "n, 1" ++ ") share 1/0 else 0; }" : Str) = "  call n = @k(n, 1) share 1/0 else 0; }" := str_eq (by decide +kernel)
          refine ⟨p1, _, 1, .str "n, 1", rfl, rfl, SqL.of hp1, atI_nat (j := 1) rfl, ?_⟩
          refine ⟨_, rfl, _, rfl, "  call n = @k(", "n, 1", rfl, rfl, szL (by decide +kernel), _, ") share 1/0 else 0; }", rfl, rfl, szL (by decide +kernel), (by show 2 ≤ sizeLine; decide), fun p2 n2 => ?_⟩
          refine ⟨L, p2, _, _, rfl, rfl, by rw [upd_ne (ne_of_none hL3 n2)]; exact hL3, upd_same, szL (by rw [List.length_map, lm]; show _ + 2 ≤ _; omega), fun p3 n3 => ⟨by show 2 ≤ sizeLine; decide, fun T nT => fin 1 p3 _ _ d3 (by decide) ((sb3.trans (but_of (same_upd n2))).trans (but_of (same_upd n3))) ?_ ok3 ?_ rfl T nT⟩⟩
          · rw [upd_ne (ne_of_none (show upd H3 p2 _ l = _ from by rw [upd_ne (ne_of_none h3 n2)]; exact h3) n3), upd_ne (ne_of_none h3 n2)]; exact h3
          · rw [upd_same, es]
            show _ = some (HO.lst ((leadL m ++ ss ["def k(n) {", "  call n = @k(n, 1) share 1/0 else 0; }"]).map V.str))
            rw [List.map_append]
            rfl
      | 8, _, out, fin =>
        refine ⟨_, rfl, rfl, _, rfl, iteF ?_⟩
        refine ⟨_, rfl, rfl, _, rfl, iteF ?_⟩
        refine ⟨_, rfl, rfl, _, rfl, iteF ?_⟩
        refine ⟨_, rfl, rfl, _, rfl, iteF ?_⟩
        refine ⟨_, rfl, rfl, _, rfl, iteF ?_⟩
        refine ⟨_, rfl, rfl, _, rfl, iteF ?_⟩
        refine ⟨_, rfl, rfl, _, rfl, iteF ?_⟩
        refine ⟨_, rfl, rfl, _, rfl, iteF ?_⟩
        refine ⟨_, rfl, rfl, _, rfl, iteT ?_⟩
        refine ⟨by show 4 ≤ sizeLine; decide, fun p1 n1 => ?_⟩
        have e1 : l ≠ p1 := ne_of_none hl2 n1
        refine ⟨_, rfl, l, 4, d2, rfl, by rw [upd_ne e1]; exact hl2, ok2, by decide, by decide, fun r d3 hr0 hr1 ok3 => ?_⟩
        have b3 : SameBut l H2 (upd (upd H2 p1 (.lst [V.str "@0/5", V.str "@3/2", V.str "@1/10", V.str "@0/0"])) l (.lst (d3.map V.int))) := fun b o e nb => by rw [upd_ne nb, upd_ne (ne_of_none e n1)]; exact e
        have h3 : upd (upd H2 p1 (.lst [V.str "@0/5", V.str "@3/2", V.str "@1/10", V.str "@0/0"])) l (.lst (d3.map V.int)) l = some (.lst (d3.map V.int)) := upd_same
        have hp1 : upd (upd H2 p1 (.lst [V.str "@0/5", V.str "@3/2", V.str "@1/10", V.str "@0/0"])) l (.lst (d3.map V.int)) p1 = some (.lst [V.str "@0/5", V.str "@3/2", V.str "@1/10", V.str "@0/0"]) := by rw [upd_ne (Ne.symm e1)]; exact upd_same
        have hL3 := b3 _ _ hL nLl
        have sb3 := (sb0.trans (but_of s2)).trans b3
        revert b3 h3 hp1 hL3 sb3
        generalize upd (upd H2 p1 (.lst [V.str "@0/5", V.str "@3/2", V.str "@1/10", V.str "@0/0"])) l (.lst (d3.map V.int)) = H3
        intro b3 h3 hp1 hL3 sb3
        rcases (show r = 0 ∨ r = 1 ∨ r = 2 ∨ r = 3 by omega) with rfl | rfl | rfl | rfl
        · have es : ("  call n = k(zz) share " ++ "@0/5" ++ " else 0; }" : Str) = "  call n = k(zz) share @0/5 else 0; }" := str_eq (by decide +kernel)
          refine ⟨p1, _, 0, .str "@0/5", rfl, rfl, SqL.of hp1, atI_nat (j := 0) rfl, ?_⟩
          refine ⟨_, rfl, _, rfl, "  call n = k(zz) share ", "@0/5", rfl, rfl, szL (by decide +kernel), _, " else 0; }", rfl, rfl, szL (by decide +kernel), (by show 2 ≤ sizeLine; decide), fun p2 n2 => ?_⟩
          refine ⟨L, p2, _, _, rfl, rfl, by rw [upd_ne (ne_of_none hL3 n2)]; exact hL3, upd_same, szL (by rw [List.length_map, lm]; show _ + 2 ≤ _; omega), fun p3 n3 => ⟨by show 2 ≤ sizeLine; decide, fun T nT => fin 0 p3 _ _ d3 (by decide) ((sb3.trans (but_of (same_upd n2))).trans (but_of (same_upd n3))) ?_ ok3 ?_ rfl T nT⟩⟩
          · rw [upd_ne (ne_of_none (show upd H3 p2 _ l = _ from by rw [upd_ne (ne_of_none h3 n2)]; exact h3) n3), upd_ne (ne_of_none h3 n2)]; exact h3
          · rw [upd_same, es]
            show _ = some (HO.lst ((leadL m ++ ss ["def k(n) {", "  call n = k(zz) share @0/5 else 0; }"]).map V.str))
            rw [List.map_append]
            rfl
        · have es : ("  call n = k(zz) share " ++ "@3/2" ++ " else 0; }" : Str) = "  call n = k(zz) share @3/2 else 0; }" := str_eq (by decide +kernel)
          refine ⟨p1, _, 1, .str "@3/2", rfl, rfl, SqL.of hp1, atI_nat (j := 1) rfl, ?_⟩
          refine ⟨_, rfl, _, rfl, "  call n = k(zz) share ", "@3/2", rfl, rfl, szL (by decide +kernel), _, " else 0; }", rfl, rfl, szL (by decide +kernel), (by show 2 ≤ sizeLine; decide), fun p2 n2 => ?_⟩
          refine ⟨L, p2, _, _, rfl, rfl, by rw [upd_ne (ne_of_none hL3 n2)]; exact hL3, upd_same, szL (by rw [List.length_map, lm]; show _ + 2 ≤ _; omega), fun p3 n3 => ⟨by show 2 ≤ sizeLine; decide, fun T nT => fin 1 p3 _ _ d3 (by decide) ((sb3.trans (but_of (same_upd n2))).trans (but_of (same_upd n3))) ?_ ok3 ?_ rfl T nT⟩⟩
          · rw [upd_ne (ne_of_none (show upd H3 p2 _ l = _ from by rw [upd_ne (ne_of_none h3 n2)]; exact h3) n3), upd_ne (ne_of_none h3 n2)]; exact h3
          · rw [upd_same, es]
            show _ = some (HO.lst ((leadL m ++ ss ["def k(n) {", "  call n = k(zz) share @3/2 else 0; }"]).map V.str))
            rw [List.map_append]
            rfl
        · have es : ("  call n = k(zz) share " ++ "@1/10" ++ " else 0; }" : Str) = "  call n = k(zz) share @1/10 else 0; }" := str_eq (by decide +kernel)
          refine ⟨p1, _, 2, .str "@1/10", rfl, rfl, SqL.of hp1, atI_nat (j := 2) rfl, ?_⟩
          refine ⟨_, rfl, _, rfl, "  call n = k(zz) share ", "@1/10", rfl, rfl, szL (by decide +kernel), _, " else 0; }", rfl, rfl, szL (by decide +kernel), (by show 2 ≤ sizeLine; decide), fun p2 n2 => ?_⟩
          refine ⟨L, p2, _, _, rfl, rfl, by rw [upd_ne (ne_of_none hL3 n2)]; exact hL3, upd_same, szL (by rw [List.length_map, lm]; show _ + 2 ≤ _; omega), fun p3 n3 => ⟨by show 2 ≤ sizeLine; decide, fun T nT => fin 2 p3 _ _ d3 (by decide) ((sb3.trans (but_of (same_upd n2))).trans (but_of (same_upd n3))) ?_ ok3 ?_ rfl T nT⟩⟩
          · rw [upd_ne (ne_of_none (show upd H3 p2 _ l = _ from by rw [upd_ne (ne_of_none h3 n2)]; exact h3) n3), upd_ne (ne_of_none h3 n2)]; exact h3
          · rw [upd_same, es]
            show _ = some (HO.lst ((leadL m ++ ss ["def k(n) {", "  call n = k(zz) share @1/10 else 0; }"]).map V.str))
            rw [List.map_append]
            rfl
        · have es : ("  call n = k(zz) share " ++ "@0/0" ++ " else 0; }" : Str) = "  call n = k(zz) share @0/0 else 0; }" := str_eq (by decide +kernel)
          refine ⟨p1, _, 3, .str "@0/0", rfl, rfl, SqL.of hp1, atI_nat (j := 3) rfl, ?_⟩
          refine ⟨_, rfl, _, rfl, "  call n = k(zz) share ", "@0/0", rfl, rfl, szL (by decide +kernel), _, " else 0; }", rfl, rfl, szL (by decide +kernel), (by show 2 ≤ sizeLine; decide), fun p2 n2 => ?_⟩
          refine ⟨L, p2, _, _, rfl, rfl, by rw [upd_ne (ne_of_none hL3 n2)]; exact hL3, upd_same, szL (by rw [List.length_map, lm]; show _ + 2 ≤ _; omega), fun p3 n3 => ⟨by show 2 ≤ sizeLine; decide, fun T nT => fin 3 p3 _ _ d3 (by decide) ((sb3.trans (but_of (same_upd n2))).trans (but_of (same_upd n3))) ?_ ok3 ?_ rfl T nT⟩⟩
          · rw [upd_ne (ne_of_none (show upd H3 p2 _ l = _ from by rw [upd_ne (ne_of_none h3 n2)]; exact h3) n3), upd_ne (ne_of_none h3 n2)]; exact h3
          · rw [upd_same, es]
            show _ = some (HO.lst ((leadL m ++ ss ["def k(n) {", "  call n = k(zz) share @0/0 else 0; }"]).map V.str))
            rw [List.map_append]
            rfl
      | 9, _, out, fin =>
        refine ⟨_, rfl, rfl, _, rfl, iteF ?_⟩
        refine ⟨_, rfl, rfl, _, rfl, iteF ?_⟩
        refine ⟨_, rfl, rfl, _, rfl, iteF ?_⟩
        refine ⟨_, rfl, rfl, _, rfl, iteF ?_⟩
        refine ⟨_, rfl, rfl, _, rfl, iteF ?_⟩
        refine ⟨_, rfl, rfl, _, rfl, iteF ?_⟩
        refine ⟨_, rfl, rfl, _, rfl, iteF ?_⟩
        refine ⟨_, rfl, rfl, _, rfl, iteF ?_⟩
        refine ⟨_, rfl, rfl, _, rfl, iteF ?_⟩
        refine ⟨_, rfl, rfl, _, rfl, iteT ?_⟩
        refine ⟨by show 5 ≤ sizeLine; decide, fun p1 n1 => ?_⟩
        have s3 := same_upd (o := .lst [V.str "emit 1 + @zz;", V.str "if n < @zz { emit yy; }", V.str "loop @zz { emit yy; }", V.str "return n * @zz;", V.str "put A = @zz;"]) n1
        refine ⟨_, rfl, by show 3 ≤ sizeLine; decide, fun p2 n2 => ?_⟩
        have s4 := same_upd (o := .lst [V.str "set y = y + @zz;", V.str "call y = k(@zz) share 9/9 else yy;", V.str "call y = k(2) share 1/9 else @zz;"]) n2
        refine ⟨p1, p2, _, _, rfl, rfl, s4 _ _ upd_same, upd_same, szL (by decide), fun p3 n3 => ?_⟩
        refine ⟨_, rfl, .inl ⟨rfl, _, SqL.of upd_same⟩, p3, _, _, rfl, rfl, upd_same, Nat.lt_of_le_of_lt (show 8 ≤ 1000 by decide) (by decide), ?_⟩
        rw [upd_upd]
        have s5 : Same H2 (upd (upd (upd H2 p1 (.lst [V.str "emit 1 + @zz;", V.str "if n < @zz { emit yy; }", V.str "loop @zz { emit yy; }", V.str "return n * @zz;", V.str "put A = @zz;"])) p2 (.lst [V.str "set y = y + @zz;", V.str "call y = k(@zz) share 9/9 else yy;", V.str "call y = k(2) share 1/9 else @zz;"])) p3 (.lst ([V.str "emit 1 + @zz;", V.str "if n < @zz { emit yy; }", V.str "loop @zz { emit yy; }", V.str "return n * @zz;", V.str "put A = @zz;"] ++ [V.str "set y = y + @zz;", V.str "call y = k(@zz) share 9/9 else yy;", V.str "call y = k(2) share 1/9 else @zz;"] ++ [V.str "if 1 = 1 { emit 1; } else { emit @zz; }"]))) := (s3.trans s4).trans (same_upd n3)
        have h9 : (upd (upd (upd H2 p1 (.lst [V.str "emit 1 + @zz;", V.str "if n < @zz { emit yy; }", V.str "loop @zz { emit yy; }", V.str "return n * @zz;", V.str "put A = @zz;"])) p2 (.lst [V.str "set y = y + @zz;", V.str "call y = k(@zz) share 9/9 else yy;", V.str "call y = k(2) share 1/9 else @zz;"])) p3 (.lst ([V.str "emit 1 + @zz;", V.str "if n < @zz { emit yy; }", V.str "loop @zz { emit yy; }", V.str "return n * @zz;", V.str "put A = @zz;"] ++ [V.str "set y = y + @zz;", V.str "call y = k(@zz) share 9/9 else yy;", V.str "call y = k(2) share 1/9 else @zz;"] ++ [V.str "if 1 = 1 { emit 1; } else { emit @zz; }"]))) p3 = some (.lst ([V.str "emit 1 + @zz;", V.str "if n < @zz { emit yy; }", V.str "loop @zz { emit yy; }", V.str "return n * @zz;", V.str "put A = @zz;"] ++ [V.str "set y = y + @zz;", V.str "call y = k(@zz) share 9/9 else yy;", V.str "call y = k(2) share 1/9 else @zz;"] ++ [V.str "if 1 = 1 { emit 1; } else { emit @zz; }"])) := upd_same
        revert s5 h9
        generalize (upd (upd (upd H2 p1 (.lst [V.str "emit 1 + @zz;", V.str "if n < @zz { emit yy; }", V.str "loop @zz { emit yy; }", V.str "return n * @zz;", V.str "put A = @zz;"])) p2 (.lst [V.str "set y = y + @zz;", V.str "call y = k(@zz) share 9/9 else yy;", V.str "call y = k(2) share 1/9 else @zz;"])) p3 (.lst ([V.str "emit 1 + @zz;", V.str "if n < @zz { emit yy; }", V.str "loop @zz { emit yy; }", V.str "return n * @zz;", V.str "put A = @zz;"] ++ [V.str "set y = y + @zz;", V.str "call y = k(@zz) share 9/9 else yy;", V.str "call y = k(2) share 1/9 else @zz;"] ++ [V.str "if 1 = 1 { emit 1; } else { emit @zz; }"]))) = H3
        intro s5 h9
        have h9 : H3 p3 = some (.lst [V.str "emit 1 + @zz;", V.str "if n < @zz { emit yy; }", V.str "loop @zz { emit yy; }", V.str "return n * @zz;", V.str "put A = @zz;", V.str "set y = y + @zz;", V.str "call y = k(@zz) share 9/9 else yy;", V.str "call y = k(2) share 1/9 else @zz;", V.str "if 1 = 1 { emit 1; } else { emit @zz; }"]) := h9
        have h3l := s5 _ _ hl2
        have h3L := s5 _ _ hL
        have n3l : p3 ≠ l := ne_of h9 h3l (fun z => by
          have := congrArg (fun o => match o with | HO.lst (V.str _ :: _) => true | _ => false) z
          have o2 := ok2.two
          cases d2 with
          | nil => simp at o2
          | cons a b => exact nomatch this)
        refine ⟨_, rfl, _, rfl, _, rfl, l, 9, d2, rfl, h3l, ok2, by decide, by decide, fun r d3 hr0 hr1 ok3 => ?_⟩
        have b3 : SameBut l H3 (upd H3 l (.lst (d3.map V.int))) := fun b o e nb => by rw [upd_ne nb]; exact e
        have sb3 := (sb0.trans (but_of (s2.trans s5))).trans b3
        have h4 : upd H3 l (.lst (d3.map V.int)) l = some (.lst (d3.map V.int)) := upd_same
        have h49 := b3 _ _ h9 n3l
        have h4L := b3 _ _ h3L nLl
        revert sb3 h4 h49 h4L b3
        generalize upd H3 l (.lst (d3.map V.int)) = H4
        intro b3 sb3 h4 h49 h4L
        rcases (show r = 0 ∨ r = 1 ∨ r = 2 ∨ r = 3 ∨ r = 4 ∨ r = 5 ∨ r = 6 ∨ r = 7 ∨ r = 8 by omega) with rfl | rfl | rfl | rfl | rfl | rfl | rfl | rfl | rfl
        · refine ⟨p3, _, 0, .str "emit 1 + @zz;", rfl, rfl, SqL.of h49, atI_nat (j := 0) rfl, (by show 3 ≤ sizeLine; decide), fun p4 n4 => ?_⟩
          refine ⟨L, p4, _, _, rfl, rfl, by rw [upd_ne (ne_of_none h4L n4)]; exact h4L, upd_same, szL (by rw [List.length_map, lm]; show _ + 3 ≤ _; omega), fun p5 n5 => ⟨by show 2 ≤ sizeLine; decide, fun T nT => fin 0 p5 _ _ d3 (by decide) ((sb3.trans (but_of (same_upd n4))).trans (but_of (same_upd n5))) (((same_upd n4).trans (same_upd n5)) _ _ h4) ok3 ?_ rfl T nT⟩⟩
          rw [upd_same]
          show _ = some (HO.lst ((leadL m ++ ss ["def k(n) {", "emit 1 + @zz;", "set x = 1; }"]).map V.str))
          rw [List.map_append]
          rfl
        · refine ⟨p3, _, 1, .str "if n < @zz { emit yy; }", rfl, rfl, SqL.of h49, atI_nat (j := 1) rfl, (by show 3 ≤ sizeLine; decide), fun p4 n4 => ?_⟩
          refine ⟨L, p4, _, _, rfl, rfl, by rw [upd_ne (ne_of_none h4L n4)]; exact h4L, upd_same, szL (by rw [List.length_map, lm]; show _ + 3 ≤ _; omega), fun p5 n5 => ⟨by show 2 ≤ sizeLine; decide, fun T nT => fin 1 p5 _ _ d3 (by decide) ((sb3.trans (but_of (same_upd n4))).trans (but_of (same_upd n5))) (((same_upd n4).trans (same_upd n5)) _ _ h4) ok3 ?_ rfl T nT⟩⟩
          rw [upd_same]
          show _ = some (HO.lst ((leadL m ++ ss ["def k(n) {", "if n < @zz { emit yy; }", "set x = 1; }"]).map V.str))
          rw [List.map_append]
          rfl
        · refine ⟨p3, _, 2, .str "loop @zz { emit yy; }", rfl, rfl, SqL.of h49, atI_nat (j := 2) rfl, (by show 3 ≤ sizeLine; decide), fun p4 n4 => ?_⟩
          refine ⟨L, p4, _, _, rfl, rfl, by rw [upd_ne (ne_of_none h4L n4)]; exact h4L, upd_same, szL (by rw [List.length_map, lm]; show _ + 3 ≤ _; omega), fun p5 n5 => ⟨by show 2 ≤ sizeLine; decide, fun T nT => fin 2 p5 _ _ d3 (by decide) ((sb3.trans (but_of (same_upd n4))).trans (but_of (same_upd n5))) (((same_upd n4).trans (same_upd n5)) _ _ h4) ok3 ?_ rfl T nT⟩⟩
          rw [upd_same]
          show _ = some (HO.lst ((leadL m ++ ss ["def k(n) {", "loop @zz { emit yy; }", "set x = 1; }"]).map V.str))
          rw [List.map_append]
          rfl
        · refine ⟨p3, _, 3, .str "return n * @zz;", rfl, rfl, SqL.of h49, atI_nat (j := 3) rfl, (by show 3 ≤ sizeLine; decide), fun p4 n4 => ?_⟩
          refine ⟨L, p4, _, _, rfl, rfl, by rw [upd_ne (ne_of_none h4L n4)]; exact h4L, upd_same, szL (by rw [List.length_map, lm]; show _ + 3 ≤ _; omega), fun p5 n5 => ⟨by show 2 ≤ sizeLine; decide, fun T nT => fin 3 p5 _ _ d3 (by decide) ((sb3.trans (but_of (same_upd n4))).trans (but_of (same_upd n5))) (((same_upd n4).trans (same_upd n5)) _ _ h4) ok3 ?_ rfl T nT⟩⟩
          rw [upd_same]
          show _ = some (HO.lst ((leadL m ++ ss ["def k(n) {", "return n * @zz;", "set x = 1; }"]).map V.str))
          rw [List.map_append]
          rfl
        · refine ⟨p3, _, 4, .str "put A = @zz;", rfl, rfl, SqL.of h49, atI_nat (j := 4) rfl, (by show 3 ≤ sizeLine; decide), fun p4 n4 => ?_⟩
          refine ⟨L, p4, _, _, rfl, rfl, by rw [upd_ne (ne_of_none h4L n4)]; exact h4L, upd_same, szL (by rw [List.length_map, lm]; show _ + 3 ≤ _; omega), fun p5 n5 => ⟨by show 2 ≤ sizeLine; decide, fun T nT => fin 4 p5 _ _ d3 (by decide) ((sb3.trans (but_of (same_upd n4))).trans (but_of (same_upd n5))) (((same_upd n4).trans (same_upd n5)) _ _ h4) ok3 ?_ rfl T nT⟩⟩
          rw [upd_same]
          show _ = some (HO.lst ((leadL m ++ ss ["def k(n) {", "put A = @zz;", "set x = 1; }"]).map V.str))
          rw [List.map_append]
          rfl
        · refine ⟨p3, _, 5, .str "set y = y + @zz;", rfl, rfl, SqL.of h49, atI_nat (j := 5) rfl, (by show 3 ≤ sizeLine; decide), fun p4 n4 => ?_⟩
          refine ⟨L, p4, _, _, rfl, rfl, by rw [upd_ne (ne_of_none h4L n4)]; exact h4L, upd_same, szL (by rw [List.length_map, lm]; show _ + 3 ≤ _; omega), fun p5 n5 => ⟨by show 2 ≤ sizeLine; decide, fun T nT => fin 5 p5 _ _ d3 (by decide) ((sb3.trans (but_of (same_upd n4))).trans (but_of (same_upd n5))) (((same_upd n4).trans (same_upd n5)) _ _ h4) ok3 ?_ rfl T nT⟩⟩
          rw [upd_same]
          show _ = some (HO.lst ((leadL m ++ ss ["def k(n) {", "set y = y + @zz;", "set x = 1; }"]).map V.str))
          rw [List.map_append]
          rfl
        · refine ⟨p3, _, 6, .str "call y = k(@zz) share 9/9 else yy;", rfl, rfl, SqL.of h49, atI_nat (j := 6) rfl, (by show 3 ≤ sizeLine; decide), fun p4 n4 => ?_⟩
          refine ⟨L, p4, _, _, rfl, rfl, by rw [upd_ne (ne_of_none h4L n4)]; exact h4L, upd_same, szL (by rw [List.length_map, lm]; show _ + 3 ≤ _; omega), fun p5 n5 => ⟨by show 2 ≤ sizeLine; decide, fun T nT => fin 6 p5 _ _ d3 (by decide) ((sb3.trans (but_of (same_upd n4))).trans (but_of (same_upd n5))) (((same_upd n4).trans (same_upd n5)) _ _ h4) ok3 ?_ rfl T nT⟩⟩
          rw [upd_same]
          show _ = some (HO.lst ((leadL m ++ ss ["def k(n) {", "call y = k(@zz) share 9/9 else yy;", "set x = 1; }"]).map V.str))
          rw [List.map_append]
          rfl
        · refine ⟨p3, _, 7, .str "call y = k(2) share 1/9 else @zz;", rfl, rfl, SqL.of h49, atI_nat (j := 7) rfl, (by show 3 ≤ sizeLine; decide), fun p4 n4 => ?_⟩
          refine ⟨L, p4, _, _, rfl, rfl, by rw [upd_ne (ne_of_none h4L n4)]; exact h4L, upd_same, szL (by rw [List.length_map, lm]; show _ + 3 ≤ _; omega), fun p5 n5 => ⟨by show 2 ≤ sizeLine; decide, fun T nT => fin 7 p5 _ _ d3 (by decide) ((sb3.trans (but_of (same_upd n4))).trans (but_of (same_upd n5))) (((same_upd n4).trans (same_upd n5)) _ _ h4) ok3 ?_ rfl T nT⟩⟩
          rw [upd_same]
          show _ = some (HO.lst ((leadL m ++ ss ["def k(n) {", "call y = k(2) share 1/9 else @zz;", "set x = 1; }"]).map V.str))
          rw [List.map_append]
          rfl
        · refine ⟨p3, _, 8, .str "if 1 = 1 { emit 1; } else { emit @zz; }", rfl, rfl, SqL.of h49, atI_nat (j := 8) rfl, (by show 3 ≤ sizeLine; decide), fun p4 n4 => ?_⟩
          refine ⟨L, p4, _, _, rfl, rfl, by rw [upd_ne (ne_of_none h4L n4)]; exact h4L, upd_same, szL (by rw [List.length_map, lm]; show _ + 3 ≤ _; omega), fun p5 n5 => ⟨by show 2 ≤ sizeLine; decide, fun T nT => fin 8 p5 _ _ d3 (by decide) ((sb3.trans (but_of (same_upd n4))).trans (but_of (same_upd n5))) (((same_upd n4).trans (same_upd n5)) _ _ h4) ok3 ?_ rfl T nT⟩⟩
          rw [upd_same]
          show _ = some (HO.lst ((leadL m ++ ss ["def k(n) {", "if 1 = 1 { emit 1; } else { emit @zz; }", "set x = 1; }"]).map V.str))
          rw [List.map_append]
          rfl
      | 10, _, out, fin =>
        refine ⟨_, rfl, rfl, _, rfl, iteF ?_⟩
        refine ⟨_, rfl, rfl, _, rfl, iteF ?_⟩
        refine ⟨_, rfl, rfl, _, rfl, iteF ?_⟩
        refine ⟨_, rfl, rfl, _, rfl, iteF ?_⟩
        refine ⟨_, rfl, rfl, _, rfl, iteF ?_⟩
        refine ⟨_, rfl, rfl, _, rfl, iteF ?_⟩
        refine ⟨_, rfl, rfl, _, rfl, iteF ?_⟩
        refine ⟨_, rfl, rfl, _, rfl, iteF ?_⟩
        refine ⟨_, rfl, rfl, _, rfl, iteF ?_⟩
        refine ⟨_, rfl, rfl, _, rfl, iteF ?_⟩
        refine ⟨_, rfl, rfl, _, rfl, iteT ?_⟩
        refine ⟨_, ⟨_, _, ⟨_, rfl, rfl⟩, rfl, rfl⟩, by simp, fun p4 H4 s4 hp4 => ?_⟩
        refine ⟨_, ⟨_, _, ⟨_, _, ⟨_, _, ⟨L, _, rfl, s4 _ _ hL, by rw [lm]; omega, rfl⟩, rfl, rfl⟩, ⟨p4, rfl, hp4⟩, rfl⟩, rfl, rfl⟩, by simp; omega, fun p H5 s5 hp => ⟨by show 2 ≤ sizeLine; decide, fun T nT => out 0 p H5 _ (by decide) (s4.trans s5) hp rfl T nT⟩⟩
      | 11, _, out, fin =>
        refine ⟨_, rfl, rfl, _, rfl, iteF ?_⟩
        refine ⟨_, rfl, rfl, _, rfl, iteF ?_⟩
        refine ⟨_, rfl, rfl, _, rfl, iteF ?_⟩
        refine ⟨_, rfl, rfl, _, rfl, iteF ?_⟩
        refine ⟨_, rfl, rfl, _, rfl, iteF ?_⟩
        refine ⟨_, rfl, rfl, _, rfl, iteF ?_⟩
        refine ⟨_, rfl, rfl, _, rfl, iteF ?_⟩
        refine ⟨_, rfl, rfl, _, rfl, iteF ?_⟩
        refine ⟨_, rfl, rfl, _, rfl, iteF ?_⟩
        refine ⟨_, rfl, rfl, _, rfl, iteF ?_⟩
        refine ⟨_, rfl, rfl, _, rfl, iteF ?_⟩
        exact ⟨_, ⟨_, _, ⟨_, _, ⟨_, _, ⟨_, _, ⟨L, rfl, hL⟩, rfl, rfl⟩, ⟨_, rfl, rfl⟩, rfl⟩, rfl, rfl⟩, ⟨_, rfl, rfl⟩, rfl⟩, by simp [lm]; omega, fun p H3 s3 hp => ⟨by show 2 ≤ sizeLine; decide, fun T nT => out 0 p H3 _ (by decide) s3 hp rfl T nT⟩⟩
      | k + 12, hk, out, fin => exact (by omega : False).elim
end
end Fs
-- FsTK
set_option Elab.async false
set_option linter.all false
set_option maxRecDepth 100000
set_option maxHeartbeats 4000000
namespace Fs
open PySem PySem.Spec PyProof.Rows L2
/-! ## a token is out: calls, lambdas and try where the state has given out a token already -/
section
variable {X : Cx} {e : Expr} {es : List Expr} {x : Str} {pos p : Pos} {t : TA} {te : TE} {k : Nat} {sp : Sp} {E : XK}
theorem pat_of (h : PA X es t) : PAT X es t := fun pos pins s σ H Q _ I q => h.run pos pins s σ H Q I q
/-- a def called where a token is out -/
theorem pe_pT (F : Prom X.prog X.w X.K X.mg X.base x k sp) (hr : Room k X.A) (hx : Passes (L2.CX X.prog X.w) X E) (ha : PAT X (e :: es) t) (hg : Gl X x := by rfl)
    (hdb : (x == ("__debug__" : Str)) = false := by decide) (he : starEach (e :: es) X.env = (false, eval e X.env) :: starEach es X.env := by rfl) (hpl : (backTo pos (starEach es X.env)).any (·.1) = false := by rfl) :
    PET X (.Call (.Name x p) (e :: es) [] pos) (tCall sp [] E t) := by
  obtain ⟨f, fd, ps, h1, h2, h3, h4⟩ := F.ex
  intro pins s σ H Q h0 I h
  refine wpAny_Call_Name_kw (ld_glob I hg h1 (PySem.W.callWith_K (h₀ := X.base) I.ok.mod.kin h2 (thn (ha pos pins s σ H _ h0 I h) fun us s1 q => ?_) he hpl) hdb)
  obtain ⟨vs, H1, I1, r, q⟩ := q
  exact ⟨I1.kIn, run_fn h4 hr h3 .nil hx I1 r q⟩
theorem pst_expr (h : PET X e te) (hs : swapsWith e none pos.line X.env = pure false := by rfl) : PST X (.Expr e pos) (tDrop te) := fun pins s σ H D h0 I q =>
  wpAny_Expr_any (thn (h pins s σ H _ h0 I q) fun _ _ ⟨_, H', I', _, z⟩ => ⟨σ, H', I', z⟩) I.quiet hs
end
/-! ### try .. except C as n -/
section
variable {X : Cx} {x n : Str} {c : Value} {i : Nat} {body suite : List Stmt} {b₀ : Stmt} {np pos pos' : Pos} {tb : WX → TS} {ts : Addr → Value → Option Addr → TS} {Wout : WX}
/-- the end of a suite: its name goes -/
theorem suite_end {q : Addr × Obj} {s6 : Shared} {pins : List (Addr × Obj)} {D : Ends} {f : Flow} (ok : X.Ok) (hN : X.N.Nodup) (hi : X.N[i]? = some n) (hln : X.env.kindOf n = some .local) {a : Addr}
    (h : SP (X.suite a (q :: (X.pn ++ pins))) [] { nx := fun σ' H' => D.nx (σ'.set i none) H', rt := D.rt, bk := fun σ' H' => D.bk (σ'.set i none) H', ct := fun σ' H' => D.ct (σ'.set i none) H' } f s6) :
    wpAny (model X.prog X.w) X.A (do bindName X.env n .none; unbindBehindTheSuite X.env n pos') (fun _ s7 => SP X pins D f s7) X.xe s6 := by
  cases f with
  | next => obtain ⟨σ6, H6, S6, q6⟩ := h; exact gone_ok (S6.unsuite ok) hN hi hln fun s7 J => ⟨_, _, J, q6⟩
  | brk => obtain ⟨σ6, H6, S6, q6⟩ := h; exact gone_ok (S6.unsuite ok) hN hi hln fun s7 J => ⟨_, _, J, q6⟩
  | cont => obtain ⟨σ6, H6, S6, q6⟩ := h; exact gone_ok (S6.unsuite ok) hN hi hln fun s7 J => ⟨_, _, J, q6⟩
  | ret u => obtain ⟨v6, σ6, H6, S6, r6, q6⟩ := h; exact gone_ok (S6.unsuite ok) hN hi hln fun s7 J => ⟨_, _, _, J, r6, q6⟩
theorem pst_try_as (hs : X.stack = X.env :: X.outer) (hf : X.env.frame = some X.env.locals) (hN : X.N.Nodup) (hi : X.N[i]? = some n) (hln : X.env.kindOf n = some .local) (hc : Names X x c) (tk : Takes X Wout)
    (hb : ∀ (W : WX) (pn : List (Addr × Obj)) (xe : Value → Shared → Prop), Takes (X.tr pn xe) W → PassesOwn (model X.prog X.w) X.A X.env xe → PSsT (X.tr pn xe) body (tb W))
    (hsu : ∀ (a : Addr) (oe : Obj) (cls : Value) (d : Option Addr) (pn : List (Addr × Obj)), Zc cls d oe → (∃ vs, oe.data = .fields vs) → PSs (X.suite a ((a, oe) :: pn)) (b₀ :: suite) (ts a cls d)) :
    PST X (.Try body [.ExceptHandler (some (.Name x np)) (some n) (b₀ :: suite) pos'] [] [] pos) (fun D σ H => tb (fun cls d σ' H' => σ'.length = X.N.length → wAs X.K c i ts Wout D cls d σ' H') D σ H) := by
  intro pins s σ H D h0 I h
  have ok := I.ok
  have frames_ : X.A.frames = some (X.env :: X.outer) := ok.frames.trans (congrArg some hs)
  -- where an error of the body lands
  let xb : Value → Shared → Prop := fun e s₁ => wpAny (model X.prog X.w) X.A (noteFrame e X.env) (fun _ s₂ => wpAny (model X.prog X.w) X.A (setFlight e none) (fun _ s₃ =>
    wpAny (model X.prog X.w) X.A (handleBy e X.env [.ExceptHandler (some (.Name x np)) (some n) (b₀ :: suite) pos']) (SP X pins D) X.xe s₃) X.xe s₂) X.xe s₁
  have takes_ : Takes (X.tr (X.pn ++ pins) xb) (fun cls d σ' H' => σ'.length = X.N.length → wAs X.K c i ts Wout D cls d σ' H') := by
    intro u s' xx
    obtain ⟨a, B, sI, pins', σ', H', cls, d, rfl, J', nb, up, sky, na, os, ag, wish⟩ := xx
    obtain ⟨b, hb1, hyes, hno⟩ := wish J'.len
    have J : Inv X pins σ' H' sI := J'.ofTry ok
    have sky2 : Sky B (X.env :: X.outer) a (Zc cls d) X.env.locals s'.heap := hs ▸ sky
    show wpAny (model X.prog X.w) X.A (noteFrame (.ref a) X.env) _ _ _
    refine Sky.land Zc.steady frames_ hf sky2 fun h3 fl3 up3 => ?_
    have J3 : Inv X pins σ' H' { s' with heap := h3 } := J.landed nb fl3.1 (up.trans up3) os ag
    obtain ⟨oe3, vs3, he3, hz3, hd3⟩ := fl3.there
    have outside : a ∉ frs (X.env :: X.outer) := fun hm => by
      obtain ⟨_, o', e', hnf⟩ := fl3.2.2.1.mem hm
      have : oe3 = o' := Option.some.inj (he3.symm.trans e')
      exact hnf vs3 (this ▸ hd3)
    have nL : a ≠ X.env.locals := fun z => outside (List.mem_filterMap.mpr ⟨X.env, .head _, hf.trans (congrArg some z.symm)⟩)
    have nF : a ∉ X.fs := fun hm => let ⟨e, he, q⟩ := List.mem_filterMap.mp hm; outside (List.mem_filterMap.mpr ⟨e, .tail _ he, q⟩)
    have S3 := J3.suite he3 hd3 na nL nF
    refine wpAny_handleBy_cons (codeAny_handlers_test ?_) fun q => nomatch q
    have LM := PySem.W.exm_one (M := model X.prog X.w) J3.kIn (fun A Q E s k q => wpAny_typeOf_ref (k _ _ he3) (by rw [hz3.1]; exact q)) hb1
    have test : ∀ {Q : Value → Shared → Prop} {E : Value → Shared → Prop}, Q c { s' with heap := h3 } → wpAny (model X.prog X.w) (X.A.mark (some (.ref a))) (eval (.Name x np) X.env) Q E { s' with heap := h3 } := fun q =>
      match hc with
      | ⟨hg, hdbg, .inl hm⟩ => ld_glob (X := X.suite a ((a, oe3) :: (X.pn ++ pins))) S3 hg hm q hdbg
      | ⟨hg, hdbg, .inr ⟨hm, hv, hnn⟩⟩ => ld_blt (X := X.suite a ((a, oe3) :: (X.pn ++ pins))) S3 hg hm hv q hnn hdbg
    refine test (LM.here ?_)
    match b, hyes, hno with
    | true, hyes, _ =>
      refine codeAny_handlers_suite_as (HandSPX.lands_againZ fl3 fun h4 fl4 up4 => ?_)
      have J4 : Inv X pins σ' H' { s' with heap := h4 } := J.landed nb fl4.1 ((up.trans up3).trans up4) os ag
      obtain ⟨oe4, vs4, he4, hz4, hd4⟩ := fl4.there
      refine store_ok (X := X.suite a ((a, oe4) :: (X.pn ++ pins))) (v := .ref a) (J4.suite he4 hd4 na nL nF) hN hi (.inl hln) rfl (fun s5 S5 => ?_) (.inr hln)
      exact wpAny_mono ((hsu a oe4 cls d (X.pn ++ pins) hz4 ⟨_, hd4⟩).run [] s5 _ H' _ S5 (hyes rfl a na)) (fun f s6 hsp => suite_end ok hN hi hln hsp) (fun _ _ z => z.elim)
    | false, _, hno =>
      show wpAny _ X.A (handleBy (.ref a) X.env []) _ _ _
      refine wpAny_handleBy_nil ?_
      obtain ⟨k1, k2, k3, oe, vs, T, oT, ts', he, hz, hd, h1, hr⟩ := id fl3
      have away : wpAny (model X.prog X.w) X.A (setFlight (.ref a) X.env.frame) (fun _ s4 => wpAny (model X.prog X.w) X.A (throw (.ref a) : Sem Flow) (SP X pins D) X.xe s4) X.xe { s' with heap := h3 } := by
        rw [hf]
        exact HandSPX.setFlight_upZ fl3 fun h4 hh4 up4 => wpAny_throw (tk _ _ ⟨a, B, sI, pins, σ', H', cls, d, rfl, J, nb, (up.trans up3).trans up4, .inr (.inr (by rw [hs]; exact hh4)), na, os, ag, hno rfl⟩)
      unfold PySem.passOn
      refine wpAny_bind (wpAny_field he hd h1 ?_)
      rw [if_neg (show ¬ ((Value.ref T == Value.none) = true) from by simp)]
      first
        | exact wpAny_bind (wpAny_pure (wpAny_bind away))
        | exact wpAny_bind away
  refine wpAny_Try_except (wpAny_mono (hb _ _ xb takes_ PassesOwn.looking [] s σ H D h0 (I.toTry _) h) (fun f s1 hsp => ?_) fun e s1 he => he)
  cases f with
  | next => obtain ⟨σ', H', J', q⟩ := hsp; exact wpAny_execs_nil ⟨σ', H', J'.ofTry ok, q⟩
  | brk => obtain ⟨σ', H', J', q⟩ := hsp; exact ⟨σ', H', J'.ofTry ok, q⟩
  | cont => obtain ⟨σ', H', J', q⟩ := hsp; exact ⟨σ', H', J'.ofTry ok, q⟩
  | ret u => obtain ⟨v, σ', H', J', r, q⟩ := hsp; exact ⟨v, σ', H', J'.ofTry ok, r, q⟩
end
/-! ### a lambda handed to a def with one parameter -/
section
open LamX
variable {X : Cx} {pins : List (Addr × Obj)} {σ : L2.St} {H : Hp} {s : Shared}
/-- the lambda is called where a token is out -/
theorem pe_actT {CXg : CXT} {Eg : XK} {Ng : List Str} {qg : Str} {sg : Scope} {g f c' : Addr} {cdg pm ctv : Value} {params : Arguments} {body : Expr} {scope : Scope} {k i : Nat} {a : Str} {pn : List (Addr × Obj)} {xe : Value → Shared → Prop} {W : WX} {E : XK} {tb : TE} {p1 p2 : Pos}
    (I : Inv X pins σ H s) (L : LamS X.env.scope scope) (hf : s.heap.get? f = some (PySem.W.kla_obj "<lambda>" (X.env.qual ++ "<lambda>") params body scope (cloFrom X.env.cells scope.names []) pm c' ctv)) (hfn : H f = none) (hfr : f ∉ frs X.stack)
    (hbind : bindArgs (PySem.W.kla_fn "<lambda>" (X.env.qual ++ "<lambda>") params body scope (cloFrom X.env.cells scope.names []) pm (.ref c') ctv) ⟨[], []⟩ = pure [])
    (tk : Takes ((cxOf CXg X.prog X.w X.K X.mg X.base Ng qg sg g cdg X.A X.stack s H Eg).tr pn xe) W) (hW : ∀ cls d σ' H', E cls d H' → W cls d σ' H') (hr : Room (k + 1) (X.A.deeper (envOfC qg sg s.heap.objs.size g cdg)))
    (hbody : ∀ (A : Around) (outer : List Env) (s : Shared) (H : Hp), Room k (A.deeper (lamEnv X scope s.heap.objs.size f c')) → PET (lamCx X A outer s H E scope f c') body tb)
    (hN : Ng[i]? = some a) (hv : Vis sg a) (hd : (a == ("__debug__" : Str)) = false := by decide) (hcd : (a == ("__classdict__" : Str)) = false := by decide) :
    PET ((cxOf CXg X.prog X.w X.K X.mg X.base Ng qg sg g cdg X.A X.stack s H Eg).tr pn xe) (.Call (.Name a p1) [] [] p2)
      (fun σZ HZ Q => σZ[i]? = some (some (.ref f)) ∧ HZ c' = some (CodeO c' (X.env.qual ++ "<lambda>")) ∧ tb σ HZ Q) := by
  intro pinsZ sZ σZ HZ Q h0 IZ ⟨hs, hc, ht⟩
  have named := (pe_var (pos := p1) (i := i) hN hv hd hcd).run pinsZ sZ σZ HZ (fun v H1 => v = .ref f ∧ H1 = HZ) IZ ⟨.ref f, hs, rfl, rfl⟩
  refine wpAny_Call_Name_kw (wpAny_mono (PySem.wpAny_toks named) (fun u s1 q => ?_) fun _ _ z => z.2)
  obtain ⟨hk1, v, H1, I1, r1, ev, eH⟩ := q
  subst ev eH
  cases (show u = Value.ref f from r1)
  have h1 : 1 ≤ s1.toks := Nat.le_trans h0 hk1
  have there := I1.base.keep f _ hf hfn hfr (fun z => nomatch (show f ∈ ([] : List Addr) from z))
  refine PySem.W.callWith_F0 ⟨_, _, _, _, there⟩ ?_
  have un : Un (frs X.stack) [] H H1 s.heap s1.heap := I1.base
  obtain ⟨⟨oc, vs, t, hoc, hdc, hvc⟩, _, _⟩ := I1.hok c' _ hc
  have hx : Passes (L2.CX X.prog X.w) ((cxOf CXg X.prog X.w X.K X.mg X.base Ng qg sg g cdg X.A X.stack s H Eg).tr pn xe) E := passes_call tk hW
  refine wpAny_call (codeAny_mono (R := CR (L2.CX X.prog X.w) (envOfC qg sg s.heap.objs.size g cdg :: X.stack) X.prog X.w H1 s1 Q E) (PySem.W.kla_callFunE hr.depth there rfl L.co L.gen rfl ⟨c', oc, vs, t, rfl, hoc, hdc, hvc⟩ ?_) fun r s' hq => ?_)
  · show wpAny _ _ (bindArgs _ ⟨[], []⟩) _ _ _
    rw [hbind]
    refine wpAny_pure (wpAny_newFunctionEnv (fun y hy => (L.own y hy).2) (fun y hy => absurd hy (by simp)) (fun h₁ hns hsb => ⟨I1.nolimit.fresh _ hsb, ?_⟩) L.kind)
    have keep : ∀ b o, s1.heap.get? b = some o → h₁.get? b = some o := fun b o e => hsb.extBut b o (Nat.ne_of_lt (Heap.lt_size e)) (Heap.get?_push_of_some _ e)
    have J := lam_start2 (f := f) (c' := c') (E := E) (tk := s1.toks + ([] : List (Str × Value)).length) I L I1.env0 hr.hd un hns keep
    refine PySem.W.kla_codeExpr (wpAny_mono (hbody _ _ s1 H1 (hr.deeper _) [] _ _ H1 Q (by show 1 ≤ s1.toks + 0; omega) J ht) (fun v s' hq => ?_) fun e s' hq => hq)
    obtain ⟨w', H', J', rv, q⟩ := hq
    exact ⟨w', H', J'.os, J'.bare, J'.base, J'.hok, rv, q⟩
  · match r, hq with
    | .error e, hq => exact hx pinsZ σZ H1 s1 e s' I1 hq
    | .ok (.ret u), hq => exact I1.after hq
    | .ok .next, hq => exact False.elim hq
    | .ok .brk, hq => exact False.elim hq
    | .ok .cont, hq => exact False.elim hq
/-- the def that gets the lambda, begun where a token is out: its one parameter is bound -/
def GivesTT (X : Cx) (Ng : List Str) (x : Str) (sg : Scope) (g : Addr) (cdg : Value) (bg : List Stmt) (a : Str) (q : Str) (TT : (XK → Hp → VK → Prop) → Hp → VK → Prop) : Prop :=
  ∀ (f c' : Addr) (s : Shared) (H : Hp) (Q : VK) (tl : XK → Hp → VK → Prop),
    (∀ (W : WX) (pn : List (Addr × Obj)) (xe : Value → Shared → Prop) (E : XK) (p1 p2 : Pos), Takes ((cxOf C8.CX0 X.prog X.w X.K X.mg X.base Ng x sg g cdg X.A X.stack s H C8.E0).tr pn xe) W → (∀ cls d σ' H', E cls d H' → W cls d σ' H') →
      PET ((cxOf C8.CX0 X.prog X.w X.K X.mg X.base Ng x sg g cdg X.A X.stack s H C8.E0).tr pn xe) (.Call (.Name a p1) [] [] p2) (fun σZ HZ Q => σZ[0]? = some (some (.ref f)) ∧ HZ c' = some (CodeO c' q) ∧ tl E HZ Q)) →
    H c' = some (CodeO c' q) → TT tl H Q →
    ∃ t, PSsT (cxOf C8.CX0 X.prog X.w X.K X.mg X.base Ng x sg g cdg X.A X.stack s H C8.E0) bg t ∧ t { nx := fun _ H' => Q .non H', rt := Q } (L2.start Ng [.ref f]) H
/-- a def with one parameter and no cells, run from s: its body begins where a token is out -/
theorem run_one {CX : CXT} {P : Program} {w : World} {K : PySem.W.Frag} {mg : Str → Option Value} {base : Heap} {k : Nat} {f : Addr} {name qual a : Str} {params : Arguments} {body : List Stmt} {scope : Scope} {dV kV doc pm cdv ct oc : Value} {an od : Option Addr} {osl : Array (Option Value)} {N : List Str}
    (lk : K.lookup f = some ⟨oc, od, .func (PySem.W.fnOf name qual params body scope dV kV doc pm an cdv ct), osl⟩) (hcd : PySem.W.codeIn K cdv qual = true) (S : FnScope N [a] scope) (hnc : ∀ y ∈ scope.names, y.2 ≠ .cell)
    {A : Around} {outer : List Env} {s : Shared} {H : Hp} {args : Args} {u : Value} {v : V} {Q : VK} {E : XK} (hr : Room (k + 1) A) (e0 : Env0 P w K mg base A outer s H) (hb : BindsTo s (PySem.W.fnOf name qual params body scope dV kV doc pm an cdv ct) args [(a, u)]) (r : L2.RelV v u)
    (hbody : Room k (A.deeper (envOfC qual scope s.heap.objs.size f cdv)) → ∃ t, PSsT (cxOf CX P w K mg base N qual scope f cdv A outer s H E) body t ∧ t { nx := fun _ H' => Q .non H', rt := Q } (L2.start N [v]) H) :
    codeAny (model P w) A (.call (.ref f) args) (CR CX outer P w H s Q E) s := by
  have KX : K.In s.heap := e0.mod.kin.keeps fun b o e => (e0.bs b o e).1
  have lim : s.heap.NoLimit := e0.mod.nolimit.keeps fun b o e => (e0.bs b o e).1
  have loc1 : scope.names.lookup a = some .local := (S.par a (.head _)).elim id fun q => absurd rfl (hnc _ (PySem.mem_of_lookup q))
  have hcl : cellsFrom (s.heap.objs.size + 1) scope.names [] = [] := cells_none _ _ _ hnc
  have kindA : (envOfC qual scope s.heap.objs.size f cdv).kindOf a = some .local := by
    first
    | exact loc1
    | simpa [Env.kindOf, envOfC, newEnv, S.kind] using loc1
  refine codeAny_call_function hr.depth (KX _ _ lk) rfl S.co S.gen rfl (PySem.W.codeRec_of KX hcd) (hb _ _ _ _ ?_)
  refine wpAny_newFunctionEnv hnc (fun y hy => by cases hy with | head => exact loc1 | tail _ z => cases z) (fun h1 hns hsb => ?_) S.kind
  have keep : ∀ b o, s.heap.get? b = some o → h1.get? b = some o := fun b o e => hsb.extBut b o (Nat.ne_of_lt (Heap.lt_size e)) (Heap.get?_push_of_some _ e)
  have hm : (bindL (envOfC qual scope s.heap.objs.size f cdv).kindOf ([a].zip [u]) fun _ => none) = fun x => ([a].zip [u]).reverse.lookup x := by
    funext y
    rw [bindL_loc _ _ (fun z hz => by cases hz with | head => exact kindA | tail _ q => cases q) y]
    cases ([a].zip [u]).reverse.lookup y <;> rfl
  have x : InCallC s s.heap.objs.size (bindL (envOfC qual scope s.heap.objs.size f cdv).kindOf ([a].zip [u]) fun _ => none) (cellsFrom (s.heap.objs.size + 1) scope.names [])
      (bindC (envOfC qual scope s.heap.objs.size f cdv).kindOf ([a].zip [u]) fun _ => none) ({ s with heap := h1, toks := s.toks + 1 } : Shared) := by
    rw [hm, hcl]
    exact ⟨⟨⟨_, _, rfl⟩, hns, keep, Nat.le_refl _⟩, fun n c hc => absurd hc (by simp), .nil, fun n c hc => absurd hc (by simp)⟩
  have henv : newEnv scope s.heap.objs.size mainGlobals [] (qual ++ ".<locals>.") (some f) cdv none builtinsNs = envOfC qual scope s.heap.objs.size f cdv := by
    unfold envOfC
    rw [hcl] <;> rfl
  show ({ s with heap := h1, toks := s.toks + 1 } : Shared).heap.NoLimit ∧ codeAny (model P w) A (.func body (newEnv scope s.heap.objs.size mainGlobals [] (qual ++ ".<locals>.") (some f) cdv none builtinsNs)) _ ({ s with heap := h1, toks := s.toks + 1 } : Shared)
  rw [henv]
  have one : 1 ≤ ({ s with heap := h1, toks := s.toks + 1 } : Shared).toks := Nat.le_add_left 1 _
  revert x one
  generalize ({ s with heap := h1, toks := s.toks + 1 } : Shared) = s1
  intro x one
  obtain ⟨t, ht, hq⟩ := hbody (hr.deeper _)
  refine ⟨lim.keeps x.toInCall.keep, codeAny_func (wpAny_mono (ht [] s1 (L2.start N [v]) H _ one (inv_start S hr.hd e0 rfl (.cons r .nil) x) hq) (fun fl s' hs => ?_) fun e s' hs => hs)⟩
  match fl, hs with
  | .ret w, ⟨v', _, H', J, rv, q⟩ => exact ⟨v', H', J.os, J.bare, J.base, J.hok, rv, q⟩
  | .next, ⟨_, H', J, q⟩ => exact ⟨V.non, H', J.os, J.bare, J.base, J.hok, (show L2.RelV V.non Value.none from rfl), q⟩
  | .brk, ⟨_, _, _, q⟩ => exact q.elim
  | .cont, ⟨_, _, _, q⟩ => exact q.elim
/-- x(lambda: body) -/
theorem pe_lamcallT {T : List (Addr × Str)} {TT : (XK → Hp → VK → Prop) → Hp → VK → Prop} {x a : Str} {g c P : Addr} {k : Nat} {pg : Arguments} {bg : List Stmt} {sg : Scope} {dV kV doc pm cdv ct oc : Value} {an od : Option Addr} {osl : Array (Option Value)} {Ng : List Str}
    {params : Arguments} {body : Expr} {scope : Scope} {t : XK → TE} {p lpos pos : Pos} (hg : Gl X x) (hm : X.mg x = some (.ref g)) (hk : PySem.W.keepIn X.K (.ref g) = true)
    (lk : X.K.lookup g = some ⟨oc, od, .func (PySem.W.fnOf x x pg bg sg dV kV doc pm an cdv ct), osl⟩) (hcg : PySem.W.codeIn X.K cdv x = true) (hb : L2.Binds X.K (PySem.W.fnOf x x pg bg sg dV kV doc pm an cdv ct) [a] []) (Sg : FnScope Ng [a] sg) (hnc : ∀ y ∈ sg.names, y.2 ≠ .cell) (hNg : Ng[0]? = some a) (hva : Vis sg a)
    (hG : GivesTT X Ng x sg g cdv bg a (X.env.qual ++ "<lambda>") TT)
    (TB : TabB X.base X.mg c P) (hcode : X.env.code = .ref c) (hmT : (P, X.env.qual ++ "<lambda>") ∈ T) (hu : ∀ p ∈ T, p.1 = P → p.2 = X.env.qual ++ "<lambda>") (hr : Room (k + 2) X.A) (L : LamS X.env.scope scope) (hdef : defaultsOf params X.env = ([], []))
    (hbind : ∀ (q : Str) (cl : List (Str × Addr)) (pm cv ctv : Value), bindArgs (PySem.W.kla_fn "<lambda>" q params body scope cl pm cv ctv) ⟨[], []⟩ = pure [])
    (hbody : ∀ (A : Around) (outer : List Env) (s : Shared) (H : Hp) (E : XK) (f c' : Addr), Room k (A.deeper (lamEnv X scope s.heap.objs.size f c')) → PET (lamCx X A outer s H E scope f c') body (t E))
    (hdb : (x == ("__debug__" : Str)) = false := by decide) (hd : (a == ("__debug__" : Str)) = false := by decide) (hcd : (a == ("__classdict__" : Str)) = false := by decide) :
    PE X (.Call (.Name x p) [.Lambda params body scope lpos] [] pos) (tLam T TT t) := by
  refine ⟨fun pins s σ H Q I ⟨hT, h⟩ => wpAny_Call_Name_kw (ld_glob I hg hm (PySem.W.callWith_K (h₀ := X.base) I.ok.mod.kin hk ?_ (by rfl) (by rfl)) hdb)⟩
  show wpAny _ _ (spliced ((false, eval (.Lambda params body scope lpos) X.env) :: backTo pos (starEach [] X.env))) _ _ s
  refine Calls.spliced_cons (lam_make2 I TB hcode hmT hu hT hdef (L.has I.ok) fun f c' pm' ctv H1 s' I1 eN T1 hf hfn hfr hco => Calls.spliced_nil ⟨I1.kIn, ?_⟩)
  refine wpAny_call (codeAny_mono (R := CR C8.CX0 X.stack X.prog X.w H1 s' Q C8.E0) (run_one (N := Ng) (u := .ref f) (v := .ref f) lk hcg Sg hnc hr I1.env0 (hb s' [.ref f] I1.kIn rfl) rfl fun hr' => ?_) fun r s2 hq => ?_)
  · exact hG f c' s' H1 Q (fun E H' Q' => t E σ H' Q') (fun W pn xe E p1 p2 tk hW => pe_actT (i := 0) I1 L hf hfn hfr (hbind _ _ _ _ _) tk hW hr' (fun A outer s H hr2 => hbody A outer s H E f c' hr2) hNg hva hd hcd) hco (h H1 eN T1)
  · match r, hq with
    | .error e, hq => exact (show False from hq).elim
    | .ok (.ret u), hq => exact I1.after hq
    | .ok .next, hq => exact False.elim hq
    | .ok .brk, hq => exact False.elim hq
    | .ok .cont, hq => exact False.elim hq
end
end Fs
-- FsN2
set_option Elab.async false
set_option linter.all false
set_option maxRecDepth 100000
set_option maxHeartbeats 8000000
namespace Fs
open PySem PySem.Spec PyProof.Rows L2
/-! ### xs.count(b), xs a list of bools -/
theorem bools_at {k : Bool} : ∀ {bs : List Bool} {its : List Value}, Vals (bs.map V.bl) its → its.countP (isBoolOf k) = bs.count k ∧ ∀ y ∈ its, ∃ b, y = Value.bool b
  | [], _, .nil => ⟨rfl, fun _ h => nomatch h⟩
  | b :: bs, _, .cons r rs => by
    obtain ⟨h1, h2⟩ := bools_at (k := k) rs
    cases (show _ = Value.bool b from r)
    refine ⟨?_, fun y hy => ?_⟩
    · rw [List.countP_cons, List.count_cons, h1]
      rfl
    · rcases List.mem_cons.mp hy with e | h
      · exact ⟨b, e⟩
      · exact h2 y h
def rCntB (K : PySem.W.Frag) : V → List V → Hp → VK → Prop := fun x xs H Q => ∃ (p : Addr) (bs : List Bool) (k : Bool), x = .ref p ∧ xs = [.bl k] ∧ SqL K H p (bs.map V.bl) ∧ Q (.int (bs.count k : Nat)) H
theorem mt_bcount {X : Cx} : MtR X "list.count" (rCntB X.K) := by
  intro pins s σ H x xs v us Q I rx rxs h
  obtain ⟨p, bs, k, rfl, rfl, hs, q⟩ := h
  cases rx
  obtain ⟨u, rfl, ru⟩ := rxs.one
  cases (show u = Value.bool k from ru)
  obtain ⟨its, rv, ⟨⟨cls, dd, data, sl⟩, n, ho, hc, hdn, hd⟩, hlen⟩ := I.list hs
  simp only at hc hd
  subst hc hd
  obtain ⟨h1, h2⟩ := bools_at (k := k) rv
  refine call_meets PySem.F.slot_list_count ⟨_, ho, rfl⟩ PySem.F.entry_list_count (PySem.F.args_list_count_2 _ _) (SeqAt.list_countAt p its.toArray n dd sl (.bool k) (isBoolOf k)) ⟨ho, fun y hy => ?_, ?_⟩
  · obtain ⟨b, rfl⟩ := h2 y (by simpa using hy)
    exact PySem.SeqAt.EqAt.bool_bool b k
  · refine ⟨.int (bs.count k : Nat), H, I.tok _, ⟨s.toks, ?_⟩, q⟩
    show Value.int ((its.countP (isBoolOf k) : Nat) : Int) s.toks = Value.int ((bs.count k : Nat) : Int) s.toks
    rw [h1]
/-- o.m(e, ..) in a suite: the reading names the outer context's part alone -/
theorem pe_bmS {X : Cx} {K : PySem.W.Frag} {T name id : String} {o e : Expr} {es : List Expr} {to : TE} {t : TA} {apos cpos : Pos} {r : V → List V → Hp → VK → Prop} (hK : X.K = K) (pa : PlainAttrs T) (slot : Slot T name id) (hty : typeOf (.builtin id) = pure (.type "method_descriptor")) (hm : MtR X id r) (ho : PE X o to) (ha : PA X (e :: es) t)
    (hbase : attributeBase o name X.env (eval o X.env) = eval o X.env := by rfl)
    (hfew : ((backTo cpos (starEach (e :: es) X.env)).all (fun x => !x.1) && (backToKw cpos (keywordEach [] X.env)).all (fun x => x.1.isSome)
      && decide ((e :: es).length + ([] : List Keyword).length + (if ([] : List Keyword).isEmpty then 0 else 1) < 30)) = true := by rfl)
    (hline : (apos.endLine == cpos.line) = true := by rfl) (hs : starEach (e :: es) X.env = (false, eval e X.env) :: starEach es X.env := by rfl) (hplain : (backTo cpos (starEach es X.env)).any (·.1) = false := by rfl) :
    PE X (.Call (.Attribute o name apos) (e :: es) [] cpos) (tBM K T r to t) := hK ▸ pe_bm pa slot hty hm ho ha hbase hfew hline hs hplain
section
variable {P : Program} {w : World} {K : PySem.W.Frag} {mg : Str → Option Value} {base h : Heap}
/-! ### _law_error_of -/
/-- the pair that tells an error -/
def ErrT (H : Hp) (r : Addr) : Err → Prop
  | .syn l c => ∃ r2, H r = some (.tup [.str "syntax", .ref r2]) ∧ H r2 = some (.tup [.int l, .int c])
  | .chk w l c => ∃ r2, H r = some (.tup [.str "check", .ref r2]) ∧ H r2 = some (.tup [.str w, .int l, .int c])
/-- what a caught error must be, and what is wanted of the pair that tells it -/
def ErrE (K : PySem.W.Frag) (Q : VK) : XK := fun cls d H => ∃ (e : Err) (dd : Addr), cls = .ref (xcl K e) ∧ d = some dd ∧ H dd = some (.xd (xdf e)) ∧ ∀ r H', Same H H' → ErrT H' r e → Q (.ref r) H'
def TErr (K : PySem.W.Frag) : (XK → Hp → VK → Prop) → Hp → VK → Prop := fun tl H Q => tl (ErrE K Q) H (fun _ H' => Q .non H')
theorem err_gives {X : Cx} {q : Str} {cdg : Value} {g : Addr} {h0 : Heap} (T : Txt X.K X.w X.mg h0) : GivesTT X n_law_error_of "_law_error_of" (defScope s_law_error_of) g cdg (defBody s_law_error_of) "_law_call" q (TErr X.K) := by
  have nd := sc_law_error_of.nd
  intro f c' s H Q tl act hc h
  refine ⟨_, psst_cons (pst_try_as (X := cxOf C8.CX0 X.prog X.w X.K X.mg X.base n_law_error_of "_law_error_of" (defScope s_law_error_of) g cdg X.A X.stack s H C8.E0) (c := .ref (He.ga X.K "FuelError")) (i := 1)
      (tb := fun W D σ H => ∃ Ech : XK, (∀ cls d σ' H', Ech cls d H' → W cls d σ' H') ∧ σ[0]? = some (some (.ref f)) ∧ H c' = some (LamX.CodeO c' q) ∧ tl Ech H (fun _ H' => D.nx σ H'))
      rfl rfl nd rfl rfl ⟨rfl, by decide, .inl (g_FuelError T)⟩ LamX.takes0 (fun W pn xe tk _ => ?_) (fun a oe cls d pn hz hf => pss_cons (ps_set (i := 2) nd rfl (.inl rfl) (pe_lst (pa_cons (pe_callB (call_isX hz hf) (by rfl) (b_isinstance T) boot_isinstance (pa_cons (pv 1) (pa_cons (pe_glob (v := .ref (He.ga X.K "InvalidArguments")) rfl (g_InvalidArguments T) rfl) pa_nil))) (pa_cons (pe_callB (call_isX hz hf) (by rfl) (b_isinstance T) boot_isinstance (pa_cons (pv 1) (pa_cons (pe_glob (v := .ref (He.ga X.K "InvalidCells")) rfl (g_InvalidCells T) rfl) pa_nil))) (pa_cons (pe_callB (call_isX hz hf) (by rfl) (b_isinstance T) boot_isinstance (pa_cons (pv 1) (pa_cons (pe_glob (v := .ref (He.ga X.K "InvalidFuel")) rfl (g_InvalidFuel T) rfl) pa_nil))) pa_nil)))))
      (pss_cons (ps_set (i := 2) nd rfl (.inl rfl) (pe_op op_cat (pv 2) (pe_lst (pa_cons (pe_callB (call_isX hz hf) (by rfl) (b_isinstance T) boot_isinstance (pa_cons (pv 1) (pa_cons (pe_glob (v := .ref (He.ga X.K "InvalidShare")) rfl (g_InvalidShare T) rfl) pa_nil))) (pa_cons (pe_callB (call_isX hz hf) (by rfl) (b_isinstance T) boot_isinstance (pa_cons (pv 1) (pa_cons (pe_glob (v := .ref (He.ga X.K "Endless")) rfl (g_Endless T) rfl) pa_nil))) (pa_cons (pe_callB (call_isX hz hf) (by rfl) (b_isinstance T) boot_isinstance (pa_cons (pv 1) (pa_cons (pe_glob (v := .ref (He.ga X.K "InvalidLimit")) rfl (g_InvalidLimit T) rfl) pa_nil))) pa_nil))))))
      (pss_cons (ps_set (i := 2) nd rfl (.inl rfl) (pe_op op_cat (pv 2) (pe_lst (pa_cons (pe_callB (call_isX hz hf) (by rfl) (b_isinstance T) boot_isinstance (pa_cons (pv 1) (pa_cons (pe_glob (v := .ref (He.ga X.K "NoProcess")) rfl (g_NoProcess T) rfl) pa_nil))) (pa_cons (pe_callB (call_isX hz hf) (by rfl) (b_isinstance T) boot_isinstance (pa_cons (pv 1) (pa_cons (pe_glob (v := .ref (He.ga X.K "InvalidSteps")) rfl (g_InvalidSteps T) rfl) pa_nil))) (pa_cons (pe_callB (call_isX hz hf) (by rfl) (b_isinstance T) boot_isinstance (pa_cons (pv 1) (pa_cons (pe_glob (v := .ref (He.ga X.K "InvalidName")) rfl (g_InvalidName T) rfl) pa_nil))) pa_nil))))))
      (pss_cons (ps_set (i := 2) nd rfl (.inl rfl) (pe_op op_cat (pv 2) (pe_lst (pa_cons (pe_callB (call_isX hz hf) (by rfl) (b_isinstance T) boot_isinstance (pa_cons (pv 1) (pa_cons (pe_glob (v := .ref (He.ga X.K "UnknownName")) rfl (g_UnknownName T) rfl) pa_nil))) (pa_cons (pe_callB (call_isX hz hf) (by rfl) (b_isinstance T) boot_isinstance (pa_cons (pv 1) (pa_cons (pe_glob (v := .ref (He.ga X.K "SyntaxFault")) rfl (g_SyntaxFault T) rfl) pa_nil))) (pa_cons (pe_callB (call_isX hz hf) (by rfl) (b_isinstance T) boot_isinstance (pa_cons (pv 1) (pa_cons (pe_glob (v := .ref (He.ga X.K "CheckFault")) rfl (g_CheckFault T) rfl) pa_nil))) pa_nil))))))
      (pss_cons (ps_set (i := 2) nd rfl (.inl rfl) (pe_op op_cat (pv 2) (pe_lst (pa_cons (pe_callB (call_isX hz hf) (by rfl) (b_isinstance T) boot_isinstance (pa_cons (pv 1) (pa_cons (pe_glob (v := .ref (He.ga X.K "InvalidCode")) rfl (g_InvalidCode T) rfl) pa_nil))) (pa_cons (pe_callB (call_isX hz hf) (by rfl) (b_isinstance T) boot_isinstance (pa_cons (pv 1) (pa_cons (pe_glob (v := .ref (He.ga X.K "InvalidOperation")) rfl (g_InvalidOperation T) rfl) pa_nil))) (pa_cons (pe_callB (call_isX hz hf) (by rfl) (b_isinstance T) boot_isinstance (pa_cons (pv 1) (pa_cons (pe_glob (v := .ref (He.ga X.K "InvalidSession")) rfl (g_InvalidSession T) rfl) pa_nil))) pa_nil))))))
      (pss_cons (ps_if (PW.pt (pw_or (pt_cmpR op_ne (pe_bmS (K := X.K) (r := rCntB X.K) rfl PySem.F.plainAttrs_list PySem.F.slot_list_count PySem.F.type_list_count mt_bcount (pv 2) (pa_cons pe_bl pa_nil)) pe_int (by rfl)) (pw_or1 (pt_not (pt_val (pe_callB (call_isX hz hf) (by rfl) (b_isinstance T) boot_isinstance (pa_cons (pv 1) (pa_cons (pe_bltn (v := .ty "ValueError") (by rfl) (b_ValueError T) (by decide +kernel) rfl) pa_nil)))))))) pss_never pss_nil)
      (pss_cons (ps_set (i := 3) nd rfl (.inl rfl) (pe_lst (pa_cons pe_str (pa_cons pe_str (pa_cons pe_str (pa_cons pe_str (pa_cons pe_str (pa_cons pe_str (pa_cons pe_str (pa_cons pe_str (pa_cons pe_str (pa_cons pe_str pa_nil))))))))))))
      (pss_cons (ps_set (i := 4) nd rfl (.inl rfl) (pe_ix (show IxR _ (rIxL X.K) from ix_list) (pe_op op_cat (pv 3) (pe_lst (pa_cons pe_str (pa_cons pe_str (pa_cons pe_str (pa_cons pe_str (pa_cons pe_str pa_nil))))))) (pe_bmS (K := X.K) (r := rIndex X.K) rfl PySem.F.plainAttrs_list PySem.F.slot_list_index PySem.F.type_list_index mt_index (pv 2) (pa_cons pe_bl pa_nil)) (fun _ _ => rfl)))
      (pss_cons (ps_if (pt_cmpR op_eq (pv 4) pe_str (nomark _)) (pss_one (ps_ret (pe_tup (pa_cons (pv 4) (pa_cons (pe_tup (pa_cons (pe_xf (xf_SyntaxFault T) (na_SyntaxFault_line T) hz hf (pv 1)) (pa_cons (pe_xf (xf_SyntaxFault T) (na_SyntaxFault_column T) hz hf (pv 1)) pa_nil))) pa_nil))))) pss_nil)
      (pss_cons (ps_if (pt_cmpR op_eq (pv 4) pe_str (nomark _)) (pss_one (ps_ret (pe_tup (pa_cons (pv 4) (pa_cons (pe_tup (pa_cons (pe_xf (xf_CheckFault T) (na_CheckFault_reason T) hz hf (pv 1)) (pa_cons (pe_xf (xf_CheckFault T) (na_CheckFault_line T) hz hf (pv 1)) (pa_cons (pe_xf (xf_CheckFault T) (na_CheckFault_column T) hz hf (pv 1)) pa_nil)))) pa_nil))))) pss_nil)
      pss_never))))))))))) (PSsT.of (pss_one (ps_ret pe_non))), ?_⟩
  · intro pins s' σ H' D h1 I ⟨Ech, hW, a1, a2, a3⟩
    exact CwR.psst_one (pst_expr (act W pn xe Ech _ _ tk hW)) pins s' σ H' D h1 I ⟨a1, a2, a3⟩
  · refine ⟨ErrE X.K Q, fun cls d σ' H1 z len => ?_, rfl, hc, h⟩
    obtain ⟨E1, dd, rfl, rfl, hdd, out⟩ := z
    obtain ⟨x0, x1, x2, x3, x4, rfl⟩ : ∃ x0 x1 x2 x3 x4, σ' = [x0, x1, x2, x3, x4] := by
      have len : σ'.length = 5 := len
      match σ', len with
      | [x0, x1, x2, x3, x4], _ => exact ⟨x0, x1, x2, x3, x4, rfl⟩
    cases E1 with
    | syn l c =>
      refine ⟨true, em_SyntaxFault T, fun _ a ha => ?_, fun z => nomatch z⟩
      have d0 : H1 dd = some (.xd (xdf (.syn l c))) := hdd
      refine ⟨_, rfl, _, _, _, _, dd, _, rfl, .own _, rfl, rfl, d0, is_SyntaxFault T, (ks_SyntaxFault T).own 3 _ _ rfl, _, rfl, _, _, _, _, dd, _, rfl, .own _, rfl, rfl, d0, is_SyntaxFault T, (ks_SyntaxFault T).own 4 _ _ rfl, _, rfl, _, _, _, _, dd, _, rfl, .own _, rfl, rfl, d0, is_SyntaxFault T, (ks_SyntaxFault T).own 5 _ _ rfl, (by show 3 ≤ sizeLine; decide), fun l1 n1 => ?_⟩
      have s1 := same_upd (o := .lst [V.bl false, V.bl false, V.bl false]) n1
      refine ⟨_, rfl, _, rfl, _, _, _, _, dd, _, rfl, .own _, rfl, rfl, (s1 _ _ d0), is_SyntaxFault T, (ks_SyntaxFault T).own 6 _ _ rfl, _, rfl, _, _, _, _, dd, _, rfl, .own _, rfl, rfl, (s1 _ _ d0), is_SyntaxFault T, (ks_SyntaxFault T).own 7 _ _ rfl, _, rfl, _, _, _, _, dd, _, rfl, .own _, rfl, rfl, (s1 _ _ d0), is_SyntaxFault T, (ks_SyntaxFault T).own 8 _ _ rfl, (by show 3 ≤ sizeLine; decide), fun l2 n2 => ?_⟩
      have d1a := s1 _ _ d0
      have s2 := same_upd (o := .lst [V.bl false, V.bl false, V.bl false]) n2
      refine ⟨l1, l2, [V.bl false, V.bl false, V.bl false], [V.bl false, V.bl false, V.bl false], rfl, rfl, s2 _ _ upd_same, upd_same, (by show 6 ≤ sizeLine; decide), fun l3 n3 => ?_⟩
      have s3 := same_upd (o := .lst [V.bl false, V.bl false, V.bl false, V.bl false, V.bl false, V.bl false]) n3
      have d1 := s2 _ _ d1a
      refine ⟨_, rfl, _, rfl, _, _, _, _, dd, _, rfl, .own _, rfl, rfl, (s3 _ _ d1), is_SyntaxFault T, (ks_SyntaxFault T).own 10 _ _ rfl, _, rfl, _, _, _, _, dd, _, rfl, .own _, rfl, rfl, (s3 _ _ d1), is_SyntaxFault T, (ks_SyntaxFault T).own 11 _ _ rfl, _, rfl, _, _, _, _, dd, _, rfl, .own _, rfl, rfl, (s3 _ _ d1), is_SyntaxFault T, (ks_SyntaxFault T).own 12 _ _ rfl, (by show 3 ≤ sizeLine; decide), fun l4 n4 => ?_⟩
      have d2a := s3 _ _ d1
      have s4 := same_upd (o := .lst [V.bl false, V.bl false, V.bl false]) n4
      refine ⟨l3, l4, [V.bl false, V.bl false, V.bl false, V.bl false, V.bl false, V.bl false], [V.bl false, V.bl false, V.bl false], rfl, rfl, s4 _ _ upd_same, upd_same, (by show 9 ≤ sizeLine; decide), fun l5 n5 => ?_⟩
      have s5 := same_upd (o := .lst [V.bl false, V.bl false, V.bl false, V.bl false, V.bl false, V.bl false, V.bl false, V.bl false, V.bl false]) n5
      have d2 := s4 _ _ d2a
      refine ⟨_, rfl, _, rfl, _, _, _, _, dd, _, rfl, .own _, rfl, rfl, (s5 _ _ d2), is_SyntaxFault T, (ks_SyntaxFault T).own 13 _ _ rfl, _, rfl, _, _, _, _, dd, _, rfl, .own _, rfl, rfl, (s5 _ _ d2), is_SyntaxFault T, (ks_SyntaxFault T).own 1 _ _ rfl, _, rfl, _, _, _, _, dd, _, rfl, .own _, rfl, rfl, (s5 _ _ d2), is_SyntaxFault T, (ks_SyntaxFault T).own 2 _ _ rfl, (by show 3 ≤ sizeLine; decide), fun l6 n6 => ?_⟩
      have d3a := s5 _ _ d2
      have s6 := same_upd (o := .lst [V.bl false, V.bl true, V.bl false]) n6
      refine ⟨l5, l6, [V.bl false, V.bl false, V.bl false, V.bl false, V.bl false, V.bl false, V.bl false, V.bl false, V.bl false], [V.bl false, V.bl true, V.bl false], rfl, rfl, s6 _ _ upd_same, upd_same, (by show 12 ≤ sizeLine; decide), fun l7 n7 => ?_⟩
      have s7 := same_upd (o := .lst [V.bl false, V.bl false, V.bl false, V.bl false, V.bl false, V.bl false, V.bl false, V.bl false, V.bl false, V.bl false, V.bl true, V.bl false]) n7
      have d3 := s6 _ _ d3a
      refine ⟨_, rfl, _, rfl, _, _, _, _, dd, _, rfl, .own _, rfl, rfl, (s7 _ _ d3), is_SyntaxFault T, (ks_SyntaxFault T).own 9 _ _ rfl, _, rfl, _, _, _, _, dd, _, rfl, .own _, rfl, rfl, (s7 _ _ d3), is_SyntaxFault T, (ks_SyntaxFault T).own 14 _ _ rfl, _, rfl, _, _, _, _, dd, _, rfl, .own _, rfl, rfl, (s7 _ _ d3), is_SyntaxFault T, (ks_SyntaxFault T).own 15 _ _ rfl, (by show 3 ≤ sizeLine; decide), fun l8 n8 => ?_⟩
      have d4a := s7 _ _ d3
      have s8 := same_upd (o := .lst [V.bl false, V.bl false, V.bl false]) n8
      refine ⟨l7, l8, [V.bl false, V.bl false, V.bl false, V.bl false, V.bl false, V.bl false, V.bl false, V.bl false, V.bl false, V.bl false, V.bl true, V.bl false], [V.bl false, V.bl false, V.bl false], rfl, rfl, s8 _ _ upd_same, upd_same, (by show 15 ≤ sizeLine; decide), fun l9 n9 => ?_⟩
      have s9 := same_upd (o := .lst [V.bl false, V.bl false, V.bl false, V.bl false, V.bl false, V.bl false, V.bl false, V.bl false, V.bl false, V.bl false, V.bl true, V.bl false, V.bl false, V.bl false, V.bl false]) n9
      have d4 := s8 _ _ d4a
      refine ⟨_, rfl, .inl ⟨rfl, _, SqL.of upd_same⟩, l9, [false, false, false, false, false, false, false, false, false, false, true, false, false, false, false], true, rfl, rfl, SqL.of upd_same, rfl, _, rfl, iteF ?_⟩
      refine ⟨_, rfl, _, _, _, _, dd, _, rfl, .ty _, rfl, rfl, s9 _ _ d4, is_SyntaxFault T, (ks_SyntaxFault T).ve, true, rfl, iteF ?_⟩
      have d5 := s9 _ _ d4
      refine ⟨(by show 10 ≤ sizeLine; decide), fun l10 n10 => ?_⟩
      have s10 := same_upd (o := .lst ((["arguments", "cells", "fuel", "share", "endless", "limit", "process", "steps", "name", "unknown"] : List Str).map V.str)) n10
      refine ⟨_, rfl, (by show 5 ≤ sizeLine; decide), fun l11 n11 => ?_⟩
      have s11 := same_upd (o := .lst ((["syntax", "check", "code", "operation", "session"] : List Str).map V.str)) n11
      refine ⟨l10, l11, _, _, rfl, rfl, s11 _ _ upd_same, upd_same, (by show 15 ≤ sizeLine; decide), fun l12 n12 => ?_⟩
      have s12 := same_upd (o := .lst ((["arguments", "cells", "fuel", "share", "endless", "limit", "process", "steps", "name", "unknown", "syntax", "check", "code", "operation", "session"] : List Str).map V.str)) n12
      have k9 := (s10.trans (s11.trans s12)) _ _ (show _ = _ from upd_same (a := l9))
      refine ⟨_, rfl, .inl ⟨rfl, _, SqL.of k9⟩, l9, [false, false, false, false, false, false, false, false, false, false, true, false, false, false, false].map V.bl, .bl true, 10, .bl true, rfl, rfl, SqL.of k9, rfl, rfl, rfl, rfl, fun m z' hm hz => ?_, ?_⟩
      · rcases m with _ | _ | _ | _ | _ | _ | _ | _ | _ | _ | _ | m
        all_goals first | (cases (Option.some.inj hz); rfl) | omega
      refine ⟨l12, _, 10, .str "syntax", rfl, rfl, SqL.of upd_same, atI_nat (j := 10) rfl, ?_⟩
      have d6 := (s10.trans (s11.trans s12)) _ _ d5
      refine ⟨_, rfl, rfl, _, rfl, iteT ?_⟩
      refine ⟨_, rfl, _, rfl, rfl, rfl, dd, _, .int l, rfl, d6, rfl, _, rfl, rfl, rfl, dd, _, .int c, rfl, d6, rfl, (by show 2 ≤ sizeLine; decide), fun r2 m2 => ⟨(by show 2 ≤ sizeLine; decide), fun r1 m1 => ?_⟩⟩
      exact out r1 _ ((((s1.trans (s2.trans s3)).trans (s4.trans (s5.trans s6))).trans ((s7.trans s8).trans s9)).trans ((s10.trans (s11.trans s12)).trans ((same_upd m2).trans (same_upd m1)))) ⟨r2, upd_same, (same_upd m1) _ _ upd_same⟩
    | chk wy l c =>
      refine ⟨true, em_CheckFault T, fun _ a ha => ?_, fun z => nomatch z⟩
      have d0 : H1 dd = some (.xd (xdf (.chk wy l c))) := hdd
      refine ⟨_, rfl, _, _, _, _, dd, _, rfl, .own _, rfl, rfl, d0, is_CheckFault T, (ks_CheckFault T).own 3 _ _ rfl, _, rfl, _, _, _, _, dd, _, rfl, .own _, rfl, rfl, d0, is_CheckFault T, (ks_CheckFault T).own 4 _ _ rfl, _, rfl, _, _, _, _, dd, _, rfl, .own _, rfl, rfl, d0, is_CheckFault T, (ks_CheckFault T).own 5 _ _ rfl, (by show 3 ≤ sizeLine; decide), fun l1 n1 => ?_⟩
      have s1 := same_upd (o := .lst [V.bl false, V.bl false, V.bl false]) n1
      refine ⟨_, rfl, _, rfl, _, _, _, _, dd, _, rfl, .own _, rfl, rfl, (s1 _ _ d0), is_CheckFault T, (ks_CheckFault T).own 6 _ _ rfl, _, rfl, _, _, _, _, dd, _, rfl, .own _, rfl, rfl, (s1 _ _ d0), is_CheckFault T, (ks_CheckFault T).own 7 _ _ rfl, _, rfl, _, _, _, _, dd, _, rfl, .own _, rfl, rfl, (s1 _ _ d0), is_CheckFault T, (ks_CheckFault T).own 8 _ _ rfl, (by show 3 ≤ sizeLine; decide), fun l2 n2 => ?_⟩
      have d1a := s1 _ _ d0
      have s2 := same_upd (o := .lst [V.bl false, V.bl false, V.bl false]) n2
      refine ⟨l1, l2, [V.bl false, V.bl false, V.bl false], [V.bl false, V.bl false, V.bl false], rfl, rfl, s2 _ _ upd_same, upd_same, (by show 6 ≤ sizeLine; decide), fun l3 n3 => ?_⟩
      have s3 := same_upd (o := .lst [V.bl false, V.bl false, V.bl false, V.bl false, V.bl false, V.bl false]) n3
      have d1 := s2 _ _ d1a
      refine ⟨_, rfl, _, rfl, _, _, _, _, dd, _, rfl, .own _, rfl, rfl, (s3 _ _ d1), is_CheckFault T, (ks_CheckFault T).own 10 _ _ rfl, _, rfl, _, _, _, _, dd, _, rfl, .own _, rfl, rfl, (s3 _ _ d1), is_CheckFault T, (ks_CheckFault T).own 11 _ _ rfl, _, rfl, _, _, _, _, dd, _, rfl, .own _, rfl, rfl, (s3 _ _ d1), is_CheckFault T, (ks_CheckFault T).own 12 _ _ rfl, (by show 3 ≤ sizeLine; decide), fun l4 n4 => ?_⟩
      have d2a := s3 _ _ d1
      have s4 := same_upd (o := .lst [V.bl false, V.bl false, V.bl false]) n4
      refine ⟨l3, l4, [V.bl false, V.bl false, V.bl false, V.bl false, V.bl false, V.bl false], [V.bl false, V.bl false, V.bl false], rfl, rfl, s4 _ _ upd_same, upd_same, (by show 9 ≤ sizeLine; decide), fun l5 n5 => ?_⟩
      have s5 := same_upd (o := .lst [V.bl false, V.bl false, V.bl false, V.bl false, V.bl false, V.bl false, V.bl false, V.bl false, V.bl false]) n5
      have d2 := s4 _ _ d2a
      refine ⟨_, rfl, _, rfl, _, _, _, _, dd, _, rfl, .own _, rfl, rfl, (s5 _ _ d2), is_CheckFault T, (ks_CheckFault T).own 13 _ _ rfl, _, rfl, _, _, _, _, dd, _, rfl, .own _, rfl, rfl, (s5 _ _ d2), is_CheckFault T, (ks_CheckFault T).own 1 _ _ rfl, _, rfl, _, _, _, _, dd, _, rfl, .own _, rfl, rfl, (s5 _ _ d2), is_CheckFault T, (ks_CheckFault T).own 2 _ _ rfl, (by show 3 ≤ sizeLine; decide), fun l6 n6 => ?_⟩
      have d3a := s5 _ _ d2
      have s6 := same_upd (o := .lst [V.bl false, V.bl false, V.bl true]) n6
      refine ⟨l5, l6, [V.bl false, V.bl false, V.bl false, V.bl false, V.bl false, V.bl false, V.bl false, V.bl false, V.bl false], [V.bl false, V.bl false, V.bl true], rfl, rfl, s6 _ _ upd_same, upd_same, (by show 12 ≤ sizeLine; decide), fun l7 n7 => ?_⟩
      have s7 := same_upd (o := .lst [V.bl false, V.bl false, V.bl false, V.bl false, V.bl false, V.bl false, V.bl false, V.bl false, V.bl false, V.bl false, V.bl false, V.bl true]) n7
      have d3 := s6 _ _ d3a
      refine ⟨_, rfl, _, rfl, _, _, _, _, dd, _, rfl, .own _, rfl, rfl, (s7 _ _ d3), is_CheckFault T, (ks_CheckFault T).own 9 _ _ rfl, _, rfl, _, _, _, _, dd, _, rfl, .own _, rfl, rfl, (s7 _ _ d3), is_CheckFault T, (ks_CheckFault T).own 14 _ _ rfl, _, rfl, _, _, _, _, dd, _, rfl, .own _, rfl, rfl, (s7 _ _ d3), is_CheckFault T, (ks_CheckFault T).own 15 _ _ rfl, (by show 3 ≤ sizeLine; decide), fun l8 n8 => ?_⟩
      have d4a := s7 _ _ d3
      have s8 := same_upd (o := .lst [V.bl false, V.bl false, V.bl false]) n8
      refine ⟨l7, l8, [V.bl false, V.bl false, V.bl false, V.bl false, V.bl false, V.bl false, V.bl false, V.bl false, V.bl false, V.bl false, V.bl false, V.bl true], [V.bl false, V.bl false, V.bl false], rfl, rfl, s8 _ _ upd_same, upd_same, (by show 15 ≤ sizeLine; decide), fun l9 n9 => ?_⟩
      have s9 := same_upd (o := .lst [V.bl false, V.bl false, V.bl false, V.bl false, V.bl false, V.bl false, V.bl false, V.bl false, V.bl false, V.bl false, V.bl false, V.bl true, V.bl false, V.bl false, V.bl false]) n9
      have d4 := s8 _ _ d4a
      refine ⟨_, rfl, .inl ⟨rfl, _, SqL.of upd_same⟩, l9, [false, false, false, false, false, false, false, false, false, false, false, true, false, false, false], true, rfl, rfl, SqL.of upd_same, rfl, _, rfl, iteF ?_⟩
      refine ⟨_, rfl, _, _, _, _, dd, _, rfl, .ty _, rfl, rfl, s9 _ _ d4, is_CheckFault T, (ks_CheckFault T).ve, true, rfl, iteF ?_⟩
      have d5 := s9 _ _ d4
      refine ⟨(by show 10 ≤ sizeLine; decide), fun l10 n10 => ?_⟩
      have s10 := same_upd (o := .lst ((["arguments", "cells", "fuel", "share", "endless", "limit", "process", "steps", "name", "unknown"] : List Str).map V.str)) n10
      refine ⟨_, rfl, (by show 5 ≤ sizeLine; decide), fun l11 n11 => ?_⟩
      have s11 := same_upd (o := .lst ((["syntax", "check", "code", "operation", "session"] : List Str).map V.str)) n11
      refine ⟨l10, l11, _, _, rfl, rfl, s11 _ _ upd_same, upd_same, (by show 15 ≤ sizeLine; decide), fun l12 n12 => ?_⟩
      have s12 := same_upd (o := .lst ((["arguments", "cells", "fuel", "share", "endless", "limit", "process", "steps", "name", "unknown", "syntax", "check", "code", "operation", "session"] : List Str).map V.str)) n12
      have k9 := (s10.trans (s11.trans s12)) _ _ (show _ = _ from upd_same (a := l9))
      refine ⟨_, rfl, .inl ⟨rfl, _, SqL.of k9⟩, l9, [false, false, false, false, false, false, false, false, false, false, false, true, false, false, false].map V.bl, .bl true, 11, .bl true, rfl, rfl, SqL.of k9, rfl, rfl, rfl, rfl, fun m z' hm hz => ?_, ?_⟩
      · rcases m with _ | _ | _ | _ | _ | _ | _ | _ | _ | _ | _ | m
        all_goals first | (cases (Option.some.inj hz); rfl) | omega
      refine ⟨l12, _, 11, .str "check", rfl, rfl, SqL.of upd_same, atI_nat (j := 11) rfl, ?_⟩
      have d6 := (s10.trans (s11.trans s12)) _ _ d5
      refine ⟨_, rfl, rfl, _, rfl, iteF ?_⟩
      refine ⟨_, rfl, rfl, _, rfl, iteT ?_⟩
      refine ⟨_, rfl, _, rfl, rfl, rfl, dd, _, .str wy, rfl, d6, rfl, _, rfl, rfl, rfl, dd, _, .int l, rfl, d6, rfl, _, rfl, rfl, rfl, dd, _, .int c, rfl, d6, rfl, (by show 3 ≤ sizeLine; decide), fun r2 m2 => ⟨(by show 2 ≤ sizeLine; decide), fun r1 m1 => ?_⟩⟩
      exact out r1 _ ((((s1.trans (s2.trans s3)).trans (s4.trans (s5.trans s6))).trans ((s7.trans s8).trans s9)).trans ((s10.trans (s11.trans s12)).trans ((same_upd m2).trans (same_upd m1)))) ⟨r2, upd_same, (same_upd m1) _ _ upd_same⟩
end
end Fs
-- FsN3
set_option Elab.async false
set_option linter.all false
set_option maxRecDepth 100000
set_option maxHeartbeats 8000000
namespace Fs
open PySem PySem.Spec PyProof.Rows L2
/-! ### the mark of a line, and the source without it -/
def posAt (l : Str) : Option Nat := (Builtin.Str.occurrences l "@" 0 l.length 1).head?
def hasM (l : Str) : Bool := decide (64 ∈ l.cps.toList)
/-- the last mark, as the law's loop finds it -/
def marks : Nat → List Str → Option (Nat × Nat) → Option (Nat × Nat)
  | _, [], p => p
  | i, l :: ls, p => marks (i + 1) ls (if hasM l = true then (posAt l).map fun j => (i, j) else p)
def okGen2 (kind many x : Nat) : Bool :=
  let g := fGen kind many x
  (g.1.all fun l => !hasM l || (posAt l).isSome) && (decide (marks 0 g.1 none = markAt 0 g.1) && ((markAt 0 g.1).isSome && (Nat.ble ((g.1.map (·.length)).sum + g.1.length) 900000 && (Nat.ble g.1.length 1000 && (Nat.ble (TL.joinL [10] (g.1.map txt)).length 900000 && PyData.canLay0 (.str g.2))))))
theorem okAll2 : ((List.range 12).all fun k => (List.range 3).all fun m => (List.range 9).all fun x => okGen2 k m x) = true := by
  decide +kernel
theorem all3 {f : Nat → Nat → Nat → Bool} (h : ((List.range 12).all fun k => (List.range 3).all fun m => (List.range 9).all fun x => f k m x) = true) {k m x : Nat} (hk : k < 12) (hm : m < 3) (hx : x < 9) : f k m x = true :=
  List.all_eq_true.mp (List.all_eq_true.mp (List.all_eq_true.mp h k (List.mem_range.mpr hk)) m (List.mem_range.mpr hm)) x (List.mem_range.mpr hx)
theorem marks_app (p : Option (Nat × Nat)) (l : Str) : ∀ (i : Nat) (ls : List Str), marks i (ls ++ [l]) p = if hasM l = true then (posAt l).map fun j => (i + ls.length, j) else marks i ls p
  | i, [] => rfl
  | i, a :: r => by
    show marks (i + 1) (r ++ [l]) _ = _
    rw [marks_app _ l (i + 1) r]
    by_cases h : hasM l = true
    · rw [if_pos h, if_pos h, show i + 1 + r.length = i + (a :: r).length by rw [List.length_cons]; omega]
    · rw [if_neg h, if_neg h]
      rfl
theorem occ_of {l : Str} {j : Nat} (h : posAt l = some j) : ∃ rest, Builtin.Str.occurrences l "@" 0 l.length 1 = j :: rest := by
  unfold posAt at h
  cases e : Builtin.Str.occurrences l "@" 0 l.length 1 with
  | nil => rw [e] at h; cases h
  | cons a r => rw [e] at h; cases h; exact ⟨r, rfl⟩
theorem replL_drop : ∀ l : List Nat, PySem.StrLaws.replL [64] [] l = l.filter (· ≠ 64)
  | [] => PySem.StrLaws.replL_nil
  | c :: r => by
    by_cases h : c = 64
    · subst h
      rw [PySem.StrLaws.replL_hit (by simp) (by simp)]
      rw [List.filter_cons_of_neg (by simp)]
      exact replL_drop r
    · rw [PySem.StrLaws.replL_miss (by simpa using h), List.filter_cons_of_pos (by simpa using h), replL_drop r]
theorem src_eq (ls : List Str) : Txt.replace (Txt.join "\n" ls) "@" "" = mkS (srcOf ls) := by
  refine str_eq ?_
  have e1 : ("\n" : Str) = mkS [10] := str_eq (by decide +kernel)
  have e2 : ("@" : Str).cps.toList = [64] := by decide +kernel
  have e3 : ("" : Str).cps.toList = [] := by decide +kernel
  rw [PySem.StrLaws.replace_list (show 1 ≤ ("@" : Str).length by decide +kernel), e2, e3, replL_drop, e1, join_txt]
  rfl
theorem join_mk (ls : List Str) : Txt.join "\n" ls = mkS (TL.joinL [10] (ls.map txt)) := by
  have e1 : ("\n" : Str) = mkS [10] := str_eq (by decide +kernel)
  rw [e1, join_txt]
end Fs
-- FsN4
set_option Elab.async false
set_option linter.all false
set_option maxRecDepth 100000
set_option maxHeartbeats 8000000
namespace Fs
open PySem PySem.Spec PyProof.Rows L2
/-! ### the law -/
theorem tabs_but {T : List (Addr × Str)} {H H' : Hp} {l : Addr} {xs : List V} (t : LamX.Tabs T H) (s : SameBut l H H') (hl : H l = some (.lst xs)) : LamX.Tabs T H' := fun p hp => by
  obtain ⟨ps, h1, h2, h3⟩ := t p hp
  refine ⟨ps, s _ _ h1 (fun e => by rw [e, hl] at h1; cases h1), h2, fun pos cv hc => ?_⟩
  obtain ⟨c, e1, e2⟩ := h3 pos cv hc
  exact ⟨c, e1, s _ _ e2 fun e => by rw [e, hl] at e2; cases e2⟩
theorem tabs_same {T : List (Addr × Str)} {H H' : Hp} (t : LamX.Tabs T H) (s : Same H H') : LamX.Tabs T H' := t.ext s
/-- the reading of the lambda: format_source of the text at the place i, its marks taken out -/
def lamR (K : PySem.W.Frag) (E : XK) : TE := tCall (spSrc K) [] E (tCons (CwR.tReplC (tVar 5) "@" "") tNil)
def spLaw (K : PySem.W.Frag) (P : Addr) : Sp := fun vs H Q _ => ∃ (a : Addr) (ns : List Int), vs = [.ref a] ∧ SqL K H a (ns.map V.int) ∧ ns.length ≤ 63 ∧ H P = some (.tbl #[]) ∧ ∀ H', Q (.bl true) H'
theorem no_cell : ∀ y ∈ (defScope s_law_error_of).names, y.2 ≠ .cell := fun y hy z => by
  have e : (defScope s_law_error_of).names.all (fun y => !decide (y.2 = .cell)) = true := by decide +kernel
  have := List.all_eq_true.mp e y hy
  rw [z] at this
  cases this
section
variable {P : Program} {w : World} {K : PySem.W.Frag} {mg : Str → Option Value} {base h : Heap}
theorem ok_law {c f : Addr} {fd : FuncData} (T : Txt K w mg h) (F : FunD K "law" "law" (defArgs s_law) (defBody s_law) (defScope s_law) [] [] f fd) (hc : fd.code = .ref c) {tP : Addr} (TB : LamX.TabB base mg c tP) :
    FnOk P w K mg base (L2.CX P w) 26 f fd ["_law_script"] (spLaw K tP) := by
  obtain ⟨oc, od, dV, kV, doc, pm, an, cdv, ct, osl, rfl, lk, hcd, _, _⟩ := F.ex
  obtain rfl : cdv = .ref c := hc
  obtain ⟨fde, Fe⟩ := f_law_error_of T
  obtain ⟨oc2, od2, dV2, kV2, doc2, pm2, an2, cdv2, ct2, osl2, rfl, lk2, hcd2, _, _⟩ := Fe.ex
  refine fn_of lk hcd sc_law (fun vs H Q E h => ?_) (fun A outer s H vs Q E hr h => ?_)
  · obtain ⟨a, ns, rfl, _⟩ := h
    rfl
  · obtain ⟨a, ns, rfl, hns, hlen, hP, q⟩ := h
    have nd := sc_law.nd
    have hu := hr.units
    have TT := T
    refine ⟨_, pss_cons (ps_set (i := 1) nd rfl (.inl rfl) (pe_p (p_rnd T) (hr.mono (by decide)) (passW (takes_of rfl rfl rfl rfl) fun _ _ _ _ z => z) (pa_cons (pv 0) (pa_cons pe_int pa_nil))))
      (pss_cons (ps_for (passes_of rfl) rfl (pi_range1 (by rfl) (b_range T) (pa_cons pe_int pa_nil)) (pg_name (i := 2) nd rfl (.inl rfl))
        (pss_cons (ps_asg (pe_p (p_faulty T) (hr.mono (by decide)) (passW (takes_of rfl rfl rfl rfl) fun _ _ _ _ z => z) (pa_cons (pv 1) pa_nil)) (pg_tup rfl (pgs_cons (pg_name (i := 3) nd rfl (.inl rfl)) (pgs_cons (pg_name (i := 4) nd rfl (.inl rfl)) pgs_nil))))
        (pss_cons (ps_set (i := 5) nd rfl (.inr rfl) (pe_join pe_str (pv 3)))
        (pss_cons (ps_for (passes_of rfl) rfl (pi_range1 (by rfl) (b_range T) (pa_cons (pe_callB call_len (by rfl) (b_len T) boot_len (pa_cons (pv 3) pa_nil)) pa_nil)) (pg_name (i := 6) nd rfl (.inl rfl)) (pss_one (ps_if (pt_cmpR op_in_sign pe_str (pe_ix ix_list (pv 3) (pv 6) (fun _ _ => rfl)) (by rfl)) (pss_one (ps_set (i := 7) nd rfl (.inl rfl) (pe_tup (pa_cons (pv 6) (pa_cons (pe_m1 PySem.F.slot_str_index PySem.F.type_str_index mt_sindex (pe_ix ix_list (pv 3) (pv 6) (fun _ _ => rfl)) pe_str) pa_nil))))) pss_nil)))
        (pss_cons (ps_set (i := 8) nd rfl (.inl rfl) (pe_lamcallT (T := [(tP, "law.<locals>.<lambda>")]) (TT := TErr K) (g := He.ga K "_law_error_of") (c := c) (P := tP) (k := 23) (t := lamR K) (x := "_law_error_of") (a := "_law_call") (by rfl) (g_law_error_of T) Fe.kp lk2 hcd2 (Fe.bindsN (ps := ["_law_call"]) fun _ _ _ _ _ _ us hl => match us, hl with | [_], _ => rfl) sc_law_error_of
            no_cell (by rfl) (.inl (by rfl)) (err_gives T) TB (by rfl) (.head _) (fun p hp _ => by cases hp with | head => rfl | tail _ z => cases z) hr (LamX.lamS_by (by show LamX.lamSB (defScope s_law) _ = true; decide +kernel)) (by rfl) (fun _ _ _ _ _ => by rfl)
            (fun A outer s H E f c' hr2 => pe_pT (p_src T) (hr2.mono (by decide)) (passW (takes_of rfl rfl rfl rfl) fun _ _ _ _ z => z) (pat_cons (CwR.pet_replC (pv 5)) pat_nil))))
        (pss_one (ps_if (pt_cmpR (op_neD hu) (pv 8) (pe_ifExp (pt_cmpR op_ne (pv 4) pe_str (by rfl)) (pe_tup (pa_cons pe_str (pa_cons (pe_op op_catT (pe_tup (pa_cons (pv 4) pa_nil)) (pv 7)) pa_nil))) pe_non) (by rfl)) (pss_one (ps_ret pe_bl)) pss_nil)))))))
      (pss_one (ps_ret pe_bl))), ?_⟩
    refine ⟨_, rfl, a, ns, 2, rfl, hns, hlen, by decide, by decide, fun l H1 d s1 nl hl ok => ?_⟩
    have tb0 : LamX.Tabs [(tP, "law.<locals>.<lambda>")] H := fun p hp => by
      cases hp with
      | head => exact LamX.TabS.nil hP
      | tail _ z => cases z
    refine ⟨6, rfl, by decide, by decide, ?_⟩
    refine for_range (lo := 0) (n := 6) (fun i σ H' => ∃ (x2 x3 x4 x5 x6 x7 x8 : Option V) (d' : List Int), σ = [some (.ref a), some (.ref l), x2, x3, x4, x5, x6, x7, x8] ∧ H' l = some (.lst (d'.map V.int)) ∧ OkD d' ∧ LamX.Tabs [(tP, "law.<locals>.<lambda>")] H') ⟨none, none, none, none, none, none, none, d, rfl, hl, ok, tabs_same tb0 s1⟩ (fun i σ H2 hi z => ?_) (fun σ H2 z => ?_)
    · obtain ⟨x2, x3, x4, x5, x6, x7, x8, d', rfl, hl2, ok2, tb2⟩ := z
      refine ⟨_, rfl, l, d', rfl, hl2, ok2, fun t0 L k m x d3 H3 hk hm hx sb hl3 ok3 hL ht0 => ?_⟩
      have tb3 := tabs_but tb2 sb hl2
      have g1 := all3 okAll hk hm hx
      have g2 := all3 okAll2 hk hm hx
      unfold okGen at g1
      unfold okGen2 at g2
      generalize fGen k m x = gg at *
      obtain ⟨ys, why⟩ := gg
      dsimp only at g1 g2 hL ht0
      simp only [Bool.and_eq_true, decide_eq_true_eq] at g1 g2
      obtain ⟨g11, g12, g13⟩ := g1
      obtain ⟨g21, g22, g23, g24, g25, g26, g27⟩ := g2
      have g26 := Nat.le_of_ble_eq_true g26
      have g24 := Nat.le_of_ble_eq_true g24
      have g25 := Nat.le_of_ble_eq_true g25
      refine ⟨t0, _, rfl, SqT.of ht0, rfl, _, _, rfl, _, _, rfl, rfl, ?_⟩
      refine ⟨⟨_, rfl⟩, _, rfl, "\n", L, ys, rfl, rfl, .inl (SqL.of hL), by show _ + _ * 1 ≤ _; omega, ?_⟩
      refine ⟨_, rfl, _, ys.length, rfl, .inl ⟨_, SqL.of hL, by rw [List.length_map]⟩, _, rfl, by omega, by omega, ?_⟩
      refine for_range (lo := 0) (n := ys.length) (fun j σ H' => ∃ (x6 x7 : Option V), σ = [some (.ref a), some (.ref l), some (.int (0 + (i : Int))), some (.ref L), some (.str why), some (.str (Txt.join "\n" ys)), x6, x7, x8] ∧ Same H3 H' ∧ ∀ p q : Nat, marks 0 (ys.take j) none = some (p, q) → ∃ t, x7 = some (.ref t) ∧ H' t = some (.tup [.int (p : Int), .int (q : Int)])) ⟨x6, x7, rfl, Same.refl _, fun p q z => nomatch z⟩ (fun j σ H4 hj z => ?_) (fun σ H4 z => ?_)
      · obtain ⟨y6, y7, rfl, s4, hmk⟩ := z
        obtain ⟨line, hline⟩ : ∃ line, ys[j]? = some line := ⟨_, List.getElem?_eq_getElem hj⟩
        have hix : (ys.map V.str)[j]? = some (.str line) := by rw [List.getElem?_map, hline]; rfl
        have hat : ∀ (p : Addr) (o : HO), H4 p = none → (upd H4 p o) L = some (.lst (ys.map V.str)) := fun p o np => same_upd np _ _ (s4 _ _ hL)
        have tk : ys.take (j + 1) = ys.take j ++ [line] := take_get hline
        refine ⟨_, rfl, _, rfl, L, _, 0 + (j : Int), .str line, rfl, rfl, SqL.of (s4 _ _ hL), by rw [Int.zero_add]; exact atI_nat hix, 64, line, congrArg V.str (str_eq (by decide +kernel)), rfl, _, rfl, ?_⟩
        by_cases hM : hasM line = true
        · rw [show decide (64 ∈ line.cps.toList) = true from hM]
          obtain ⟨c0, hp⟩ : ∃ c0, posAt line = some c0 := by
            have := List.all_eq_true.mp g21 line (List.mem_of_getElem? hline)
            rw [hM] at this
            exact Option.isSome_iff_exists.mp this
          obtain ⟨rest, hocc⟩ := occ_of hp
          refine iteT ⟨_, rfl, _, rfl, _, rfl, L, _, 0 + (j : Int), .str line, rfl, rfl, SqL.of (s4 _ _ hL), by rw [Int.zero_add]; exact atI_nat hix, ⟨_, rfl⟩, line, "@", c0, rest, rfl, rfl, hocc, by show 2 ≤ sizeLine; decide, fun t nt => ?_⟩
          refine ⟨_, _, rfl, s4.trans (same_upd nt), fun p q e => ⟨t, rfl, ?_⟩⟩
          rw [tk, marks_app, if_pos hM, hp] at e
          simp only [Option.map_some, Option.some.injEq, Prod.mk.injEq, Nat.zero_add, List.length_take] at e
          obtain ⟨e1, e2⟩ := e
          rw [Nat.min_eq_left (Nat.le_of_lt hj)] at e1
          subst e1 e2
          rw [upd_same, Int.zero_add]
        · rw [show decide (64 ∈ line.cps.toList) = false from Bool.eq_false_iff.mpr hM]
          refine iteF ⟨_, _, rfl, s4, fun p q e => ?_⟩
          rw [tk, marks_app, if_neg hM] at e
          exact hmk p q e
      · obtain ⟨y6, y7, rfl, s4, hmk⟩ := z
        obtain ⟨⟨p0, q0⟩, hpq⟩ := Option.isSome_iff_exists.mp g23
        rw [List.take_length, g22, hpq] at hmk
        obtain ⟨t7, rfl, ht7⟩ := hmk p0 q0 rfl
        have esrc := src_eq ys
        have hl4 := s4 _ _ hl3
        refine ⟨tabs_same tb3 s4, fun H5 eN tb5 => ?_⟩
        have keep : ∀ {b : Addr} {o : HO}, H4 b = some o → (∀ ps, o ≠ .tbl ps) → H5 b = some o := fun e n => eN _ _ e n
        have hl5 := keep hl4 (fun _ z => nomatch z)
        have h75 := keep ht7 (fun _ z => nomatch z)
        refine ⟨_, rfl, Txt.join "\n" ys, rfl, ?_, ?_⟩
        · rw [join_mk, mkl, show ("" : Str).length = 0 by decide +kernel]
          omega
        · rw [esrc]
          have hz : (mkS (srcOf ys)).cps.toList = srcOf ys := rfl
          refine ⟨mkS (srcOf ys), fun _ => none, rfl, (fun _ _ z => nomatch z), ?_, by rw [hz]; exact g11, by rw [hz]; exact g12, ?_⟩
          · rw [mkl]
            exact Nat.le_trans (List.length_filter_le _ _) g26
          · rw [hz]
            rw [hpq] at g13
            have t7' : ∀ {H6 : Hp}, Same H5 H6 → H6 t7 = some (.tup [.int (p0 : Int), .int (q0 : Int)]) := fun s6 => s6 _ _ h75
            cases hmf : mFormat (srcOf ys) with
            | ok out =>
              rw [hmf] at g13
              obtain rfl : why = "" := of_decide_eq_true g13
              intro v H6 G6 s6 _ _ _
              refine ⟨_, rfl, _, rfl, rfl, _, rfl, iteF ⟨.none, .none, .non, .non, rfl, rfl, _, rfl, iteF ?_⟩⟩
              exact ⟨_, _, _, _, _, _, _, d3, rfl, s6 _ _ hl5, ok3, tabs_same tb5 s6⟩
            | error er =>
              rw [hmf] at g13
              cases er with
              | syn _ _ => cases g13
              | chk w0 l0 c0 =>
                simp only [Bool.and_eq_true, decide_eq_true_eq, Bool.not_eq_true', decide_eq_false_iff_not] at g13
                obtain ⟨rfl, rfl, rfl, hne⟩ := g13
                intro dd H6 s6 hdd
                refine ⟨.chk why l0 c0, dd, rfl, rfl, hdd, fun r H7 s7 hr7 => ?_⟩
                obtain ⟨r2, hr1, hr2⟩ := hr7
                have s57 := s6.trans s7
                have hdec : (!decide (V.str why = V.str "")) = true := by rw [decide_eq_false fun z => hne (V.str.inj z)]; rfl
                refine ⟨_, rfl, _, rfl, rfl, _, rfl, ?_⟩
                rw [hdec]
                refine iteT ⟨_, rfl, by show 1 ≤ sizeLine; decide, fun t1 n1 => ?_⟩
                have u1 := same_upd (o := .tup [.str why]) n1
                refine ⟨_, rfl, t1, t7, _, _, rfl, rfl, SqT.of upd_same, SqT.of (u1 _ _ (t7' s57)), by simp, by show 3 ≤ sizeLine; decide, (fun z => nomatch z), fun _ t2 n2 => ?_⟩
                have u2 := same_upd (o := .tup [.str why, .int (l0 : Int), .int (c0 : Int)]) n2
                refine ⟨by show 2 ≤ sizeLine; decide, fun t3 n3 => ?_⟩
                have u3 := same_upd (o := .tup [.str "check", .ref t2]) n3
                have u123 := u1.trans (u2.trans u3)
                have shp : SeqAt.shaped (.tuple [.str "check", .tuple [.str why, .int (l0 : Int), .int (c0 : Int)]]) = true := by
                  have ec : PyData.canLay0 (.str "check") = true := by decide +kernel
                  simp [SeqAt.shaped, PyData.canLay0, PyData.canLayAll0, PyData.depth, PyData.depthAll] at g27 ec ⊢
                  exact ⟨ec, g27⟩
                refine ⟨.tuple [.str "check", .tuple [.str why, .int (l0 : Int), .int (c0 : Int)]], .tuple [.str "check", .tuple [.str why, .int (l0 : Int), .int (c0 : Int)]],
                  .tup (SqT.of (u123 _ _ hr1)) (.cons (.str _) (.cons (.tup (SqT.of (u123 _ _ hr2)) (.cons (.str _) (.cons (.int _) (.cons (.int _) .nil)))) .nil)),
                  .tup (SqT.of upd_same) (.cons (.str _) (.cons (.tup (SqT.of (u3 _ _ upd_same)) (.cons (.str _) (.cons (.int _) (.cons (.int _) .nil)))) .nil)), shp, shp, _, rfl, ?_⟩
                rw [SeqAt.eqv_refl]
                rotate_left
                · exact SeqAt.canLay_of_shaped shp
                refine iteF ⟨_, _, _, _, _, _, _, d3, rfl, (s57.trans u123) _ _ hl5, ok3, tabs_same tb5 (s57.trans u123)⟩
    · obtain ⟨x2, x3, x4, x5, x6, x7, x8, d', rfl, hl2, ok2, tb2⟩ := z
      exact q H2
end
end Fs
-- FsE02
set_option Elab.async false
set_option linter.all false
set_option maxRecDepth 100000
set_option maxHeartbeats 0
namespace Fs
open PySem PySem.Spec PyProof.Rows L2
theorem no_out (P : Program) (w : World) (H : Hp) (s : Shared) (e : Value) (s' : Shared) (z : L2.CX P w [] H s (fun _ _ _ => False) e s') : False := by
  obtain ⟨a, B, H', cls, d, _, _, _, _, _, _, _, q⟩ := z
  exact q
theorem law_at (w : World) (mg : Str → Option Value) (fa' : Addr) (h : Heap) (Y : hk.says w h) (G : h.Ns mainGlobals mg) (hmg : mg "law" = some (.ref fa')) :
    ∃ K : PySem.W.Frag, K.In h ∧ LamX.LawAtS PySem.Challenge.rw_fuelshare_k02_check_faults w K (L2.CX (PySem.Challenge.rw_fuelshare_k02_check_faults).prog w) 26 63 "_law_script" mg fa' h := by
  obtain ⟨K, KX, c⟩ := Y
  have T : Txt K w mg h := ⟨KX, G, c.t, c.more⟩
  obtain ⟨fd, F⟩ := f_law T
  have e := hmg.symm.trans (g_law T)
  cases e
  have mem : (("law", none) : He.Defn) ∈ ([("law", none)] : List He.Defn) := .head _
  have hcode : fd.code = .ref (He.cT K ("law", none)).1 := by
    obtain ⟨oc, od, dV, kV, doc, pm, an, cdv, ct, osl, rfl, lk, hcd, _, _⟩ := F.ex
    obtain ⟨cc, rfl⟩ := He.codeIn_ref hcd
    exact congrArg Value.ref (He.codeOf_eq (p := ("law", none)) lk rfl).symm
  have b := FunD.bindsA (ps := ["_law_script"]) F fun _ _ _ _ _ _ us hl => match us, hl with | [_], _ => rfl
  refine ⟨K, KX, fd, [He.cT K ("law", none)], spLaw K (He.cT K ("law", none)).2, fun p hp => ?_, fun p hp => ?_, fun p hp => ?_, fun s u => b s [u] rfl, fun H a ns hl _ hT hS => ⟨a, ns, rfl, hS, hl, hT _ (.head _), fun _ => rfl⟩, fun base KB GB TB => ?_⟩
  · cases hp with
    | head => exact c.empty _ mem
    | tail _ z => cases z
  · cases hp with
    | head => exact c.out _ mem
    | tail _ z => cases z
  · cases hp with
    | head => exact PySem.W.codeHd_of_K KX (c.hd _ mem)
    | tail _ z => cases z
  · exact ok_law T F hcode (TB _ (.head _))
end Fs
open PySem PySem.W PySem.Calls PyProof.Rows
theorem PySem.Challenge.cw_fuelshare_k02_check_faults_holds : PySem.Challenge.rw_fuelshare_k02_check_faults.Holds := by
  w_on; o_law
  refine HandSHeadRun.head_any (r := OpenLaw.row PySem.Challenge.rw_fuelshare_k02_check_faults) (q := view (OpenLaw.row PySem.Challenge.rw_fuelshare_k02_check_faults).prog [Fs.lawAt]) (H := Fs.hk) (ob := Fs.ob) (M := 9000) (loose := Fs.loose) (d := HandSHeadRun.topDef (OpenLaw.row PySem.Challenge.rw_fuelshare_k02_check_faults).prog Fs.lawAt) (kwd := []) Fs.ob_eq
    (by kernel_rfl) (fun s => by kernel_rfl) Fs.run (by kernel_rfl) (by kernel_rfl) (by kernel_rfl) (by rfl) (by first | assumption | decide +kernel) (by decide +kernel) ⟨rfl, rfl, rfl, rfl, rfl, by decide +kernel⟩ ?hw ?hc
  case hw => w_witness2
  case hc =>
    refine LamX.walk_ofTsE (l := PySem.Challenge.rw_fuelshare_k02_check_faults) (n := 63) (k := 26) (x := "_law_script") (CX := fun w => L2.CX (PySem.Challenge.rw_fuelshare_k02_check_faults).prog w) rfl (by decide) (by kernel_rfl) ⟨rfl, by decide, by decide⟩ ?F (fun w H s e s' z => Fs.no_out _ w H s e s' z)
    intro w mg fa h Y G hmg0
    have hmg : mg ("law" : PySem.Str) = some (.ref fa) := by
      have e : (HandSHeadRun.topDef (OpenLaw.row PySem.Challenge.rw_fuelshare_k02_check_faults).prog Fs.lawAt).name = ("law" : PySem.Str) := by kernel_rfl
      rw [← e]
      exact hmg0
    exact Fs.law_at w mg fa h Y G hmg
