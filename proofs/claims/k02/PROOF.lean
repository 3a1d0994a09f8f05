import PyProof.Rows.All
import Wide.All
import OpenK.AllK
import Wide.FinOn
import HandS.WordsList
import HandS.ExcOwn
import HandS.TryOnly
import HandS.Comp
import HandS.Wide
import HandS.More
import PyProof.TypeEq
import PyProof.InstEq
import HandS.ForExc
import HandS.Gcd
import HandS.IsInst
import HandS.ExcIs
import HandS.HotCalls
import HandS.Style
import HandS.Text
import HandS.EndBits
import HandS.Evl
import HandS.Dict
import PySem.Challenge.RW_weighwords_k02_reckoned
set_option Elab.async false
set_option linter.all false
set_option maxRecDepth 100000
set_option maxHeartbeats 4000000
namespace Ww
open PySem PySem.Spec PyProof.Rows L2

/-! ### == and != of two types -/
theorem slot_ty_ne : Slot "type" (cmpInfo .NotEq).2.1 "object.__ne__" :=
  .of (owner := "object") (n := "__ne__") (by rw [typeLookup_type, builtinLookup_eq_fast]; kernel_rfl) (by decide +kernel) (by decide +kernel) (by decide +kernel)
    (by first | exact .inl (by decide +kernel) | exact .inr (by decide +kernel)) (by rw [isSubtype_type]; kernel_rfl)
theorem slot_ty_ne2 : Slot "type" (cmpInfo .NotEq).2.2 "object.__ne__" :=
  .of (owner := "object") (n := "__ne__") (by rw [typeLookup_type, builtinLookup_eq_fast]; kernel_rfl) (by decide +kernel) (by decide +kernel) (by decide +kernel)
    (by first | exact .inl (by decide +kernel) | exact .inr (by decide +kernel)) (by rw [isSubtype_type]; kernel_rfl)
section
variable {prog : Program} {w : World} {A : Around} {E : Value → Shared → Prop} {s : Shared} {Q : Value → Shared → Prop}
theorem ne_ty_same {X : String} (hX : ∀ s' : Shared, s'.TypeIs (.type X) "type") (h : Q (.bool false) s) : wpAny (model prog w) A (compareOp .NotEq (.type X) (.type X)) Q E s := by
  show wpAny _ A (richCompare .NotEq _ _) Q E s
  refine wpAny_richCompare_same (T := "type") (hX s) (hX s) slot_ty_ne ?_
  refine wpAny_call_entry slot_ty_ne (hX s) F.entry_object_ne ?_ (F.args_object_ne_2 _ _)
  unfold Builtin.«object.__ne__»
  repeat (first
    | with_reducible refine wpAny_cRoomFor_or (.inl rfl) ?_
    | (refine wpAny_bind (m := callSpecialIfBound? (.type X) (Str.ofString "__eq__") [.type X])
        (wpAny_callSpecialIfBound?_slot (hX _) TypeEq.slot_type_eq (call_gives TypeEq.slot_type_eq (hX _) F.entry_object_eq (F.args_object_eq_2 _ _) (TypeEq.object_eq_same rfl (by simp)) ?_)))
    | (refine wpAny_bind (m := truthy (.bool _)) (wpAny_truthy_bool ?_))
    | wp_step)
  exact ⟨_, rfl, (by intro z; cases z), h⟩
theorem objNe_other {X Y : String} (hX : ∀ s' : Shared, s'.TypeIs (.type X) "type") (hne : (Value.type X == Value.type Y) = false) {Q : Value → Shared → Prop} (h : Q .notImplemented s) :
    wpAny (model prog w) A (call (.builtin "object.__ne__") [.type X, .type Y]) Q E s := by
  refine wpAny_call_entry slot_ty_ne (hX s) F.entry_object_ne ?_ (F.args_object_ne_2 _ _)
  unfold Builtin.«object.__ne__»
  repeat (first
    | with_reducible refine wpAny_cRoomFor_or (.inl rfl) ?_
    | (refine wpAny_bind (m := callSpecialIfBound? (.type X) (Str.ofString "__eq__") [.type Y])
        (wpAny_callSpecialIfBound?_slot (hX _) TypeEq.slot_type_eq (call_gives TypeEq.slot_type_eq (hX _) F.entry_object_eq (F.args_object_eq_2 _ _) (TypeEq.object_eq_other rfl hne) ?_)))
    | wp_step)
  show wpAny _ _ (ret Value.notImplemented) _ _ _
  first
    | exact wpAny_ret ⟨_, rfl, h⟩
    | exact wpAny_pure ⟨_, rfl, h⟩
theorem ne_ty_other {X Y : String} (hX : ∀ s' : Shared, s'.TypeIs (.type X) "type") (hY : ∀ s' : Shared, s'.TypeIs (.type Y) "type") (hne : (Value.type X == Value.type Y) = false) (h : Q (.bool true) s) : wpAny (model prog w) A (compareOp .NotEq (.type X) (.type Y)) Q E s := by
  have hne' : (Value.type Y == Value.type X) = false := by
    rw [Bool.eq_false_iff] at hne ⊢
    intro e
    exact hne (by rw [beq_iff_eq] at e ⊢; exact e.symm)
  show wpAny _ A (richCompare .NotEq (.type X) (.type Y)) Q E s
  have h1 : Slot "type" "__ne__" "object.__ne__" := slot_ty_ne
  have h2 : Slot "type" "__ne__" "object.__ne__" := slot_ty_ne2
  simp only [richCompare, cmpInfo_NotEq, (hX s).oneThing_none]
  try with_reducible refine wpAny_holding ?_
  refine wpAny_bind (wpAny_cRoomFor_or (.inl rfl) ?_)
  refine wpAny_bind (wpAny_typeOf (hX s) (wpAny_bind (wpAny_typeOf (hY s) ?_)))
  simp only [bne_self_eq_false, Bool.false_eq_true, if_false, pure_bind, Bool.not_false, if_true]
  refine wpAny_bind (m := tryCompare (.type X) _ (.type Y)) (wpAny_tryCompare_declines (hX s) h1 (objNe_other hX hne ⟨rfl, ?_⟩))
  refine wpAny_bind (m := tryCompare (.type Y) _ (.type X)) (wpAny_tryCompare_declines (hY s) h2 (objNe_other hY hne' ⟨rfl, ?_⟩))
  refine wpAny_bind (wpAny_rule (wpAny_bind (wpAny_of_eq (isSame_plain rfl) ?_)))
  rw [hne]
  exact wpAny_pure h
end
/-- the built-in types that the rules below tell apart -/
def isTy (n : String) : Bool := ["int", "str", "bool", "NoneType", "float", "list", "tuple", "dict", "set", "frozenset", "bytes", "complex", "range", "object", "type"].contains n
theorem isTy_meta {n : String} (h : isTy n = true) : ∀ s' : Shared, s'.TypeIs (.type n) "type" := by
  have h' : n ∈ ["int", "str", "bool", "NoneType", "float", "list", "tuple", "dict", "set", "frozenset", "bytes", "complex", "range", "object", "type"] := by
    unfold isTy at h
    exact List.contains_iff_mem.mp h
  simp only [List.mem_cons, List.not_mem_nil, or_false] at h'
  rcases h' with e | e | e | e | e | e | e | e | e | e | e | e | e | e | e <;> subst e
  · exact TypeEq.meta_int
  · exact TypeEq.meta_str
  · exact TypeEq.meta_bool
  · exact TypeEq.meta_NoneType
  · exact TypeEq.meta_float
  · exact TypeEq.meta_list
  · exact TypeEq.meta_tuple
  · exact TypeEq.meta_dict
  · exact TypeEq.meta_set
  · exact TypeEq.meta_frozenset
  · exact TypeEq.meta_bytes
  · exact TypeEq.meta_complex
  · exact TypeEq.meta_range
  · exact TypeEq.meta_object
  · exact TypeEq.meta_type
def rEqTy : R2 := fun x y H Q => ∃ a b, x = .ty a ∧ y = .ty b ∧ isTy a = true ∧ isTy b = true ∧ Q (.bl (decide (a = b))) H
def rNeTy : R2 := fun x y H Q => ∃ a b, x = .ty a ∧ y = .ty b ∧ isTy a = true ∧ isTy b = true ∧ Q (.bl (!decide (a = b))) H
section
variable {X : Cx}
theorem op_eqTy : OpR X (compareOp .Eq) rEqTy := by
  intro pins s σ H x y v u Q I rx ry h
  obtain ⟨a, b, rfl, rfl, ha, hb, q⟩ := h
  cases (show v = Value.type a from rx)
  cases (show u = Value.type b from ry)
  by_cases e : a = b
  · subst e
    exact TypeEq.eq_type_same (isTy_meta ha) ⟨.bl true, H, I, rfl, by simpa using q⟩
  · exact TypeEq.eq_type_other (isTy_meta ha) (isTy_meta hb) (beq_eq_false_iff_ne.mpr fun z => e (Value.type.inj z)) ⟨.bl false, H, I, rfl, by simpa [e] using q⟩
theorem op_neTy : OpR X (compareOp .NotEq) rNeTy := by
  intro pins s σ H x y v u Q I rx ry h
  obtain ⟨a, b, rfl, rfl, ha, hb, q⟩ := h
  cases (show v = Value.type a from rx)
  cases (show u = Value.type b from ry)
  by_cases e : a = b
  · subst e
    exact ne_ty_same (isTy_meta ha) ⟨.bl false, H, I, rfl, by simpa using q⟩
  · exact ne_ty_other (isTy_meta ha) (isTy_meta hb) (beq_eq_false_iff_ne.mpr fun z => e (Value.type.inj z)) ⟨.bl true, H, I, rfl, by simpa [e] using q⟩
end
end Ww
namespace Ww
open PySem PySem.Spec PyProof.Rows L2

/-! ### great whole numbers -/
def CMulG (i j : Int) : Prop := i.natAbs.log2 + j.natAbs.log2 < 134000000
theorem CMulG.ok {i j : Int} (h : CMulG i j) : IntMulOk i j := by
  have b : ∀ x : Int, Builtin.Int.intBits x ≤ x.natAbs.log2 + 1 := fun x => by
    unfold Builtin.Int.intBits
    split <;> omega
  have h1 := b i
  have h2 := b j
  have h3 : i.natAbs.log2 + j.natAbs.log2 < 134000000 := h
  have e : bitsLine = 134217728 := by decide
  unfold IntMulOk
  intro z
  rw [Bool.and_eq_true] at z
  have z2 := z.2
  unfold Builtin.Int.intTooBig at z2
  have z3 := of_decide_eq_true z2
  rw [e] at z3
  omega
def CDivG (_ j : Int) : Prop := j ≠ 0 ∧ j.natAbs.log2 < 9000
section
variable {X : Cx}
theorem op_mulG : OpR X (binaryOp .Mult) (rI CMulG fun i j => .int (i * j)) := opI fun _ _ _ _ _ _ _ hc q => mul_int q hc.ok
theorem op_fdivG : OpR X (binaryOp .FloorDiv) (rI CDivG fun i j => .int (i.fdiv j)) := opI fun _ _ _ _ _ _ _ hc q => floordiv_int hc.1 q (.inl (PyProof.noPylong_of_log2 hc.2))
end
theorem log2_lt {n b : Nat} (hb : 0 < b) (h : n < 2 ^ b) : n.log2 < b := PySem.Flt.log2_lt_of hb h
theorem mulG_of {i j : Int} {a b : Nat} (ha : i.natAbs < 2 ^ a) (hb : j.natAbs < 2 ^ b) (h0 : 0 < a) (h1 : 0 < b) (h : a + b ≤ 134000000) : CMulG i j := by
  have x := log2_lt h0 ha
  have y := log2_lt h1 hb
  unfold CMulG
  omega
theorem divG_of {i j : Int} {b : Nat} (h : j ≠ 0) (hb : j.natAbs < 2 ^ b) (h0 : 0 < b) (h9 : b ≤ 9000) : CDivG i j := ⟨h, Nat.lt_of_lt_of_le (log2_lt h0 hb) h9⟩

/-! ### a def called in an except suite with the exception as its argument -/
/-- what the callee may know of the exception that is held -/
def ExcZ (C : Addr) (p : Addr × Obj) : Prop := Zc (.ref C) none p.2 ∧ ∃ vs, p.2.data = .fields vs
structure FnZ (P : Program) (w : World) (K : PySem.W.Frag) (mg : Str → Option Value) (base : Heap) (CX : CXT) (k : Nat) (f : Addr) (fd : FuncData) (ps : List Str) (C : Addr) (sp : Addr → Sp) : Prop where
  len : ∀ a vs H Q E, sp a vs H Q E → vs.length = ps.length
  run : ∀ (A : Around) (outer : List Env) (s : Shared) (H : Hp) (args : Args) (us : List Value) (vs : List V) (Q : VK) (E : XK) (p : Addr × Obj), L2H.RoomH k A → ExcZ C p → L2H.PinOk outer H s p → Env0 P w K mg base A outer s H → BindsTo s fd args (ps.zip us) → Vals vs us → sp p.1 vs H Q E →
    codeAny (model P w) A (.call (.ref f) args) (CR CX outer P w H s Q E) s
theorem fn_ofZ {CX : CXT} {P : Program} {w : World} {K : PySem.W.Frag} {mg : Str → Option Value} {base : Heap} {k : Nat} {f : Addr} {name qual : Str} {params : Arguments} {body : List Stmt} {scope : Scope} {dV kV doc pm cdv ct oc : Value} {an od : Option Addr}
    {osl : Array (Option Value)} {N ps : List Str} {C : Addr} {sp : Addr → Sp} (lk : K.lookup f = some ⟨oc, od, .func (PySem.W.fnOf name qual params body scope dV kV doc pm an cdv ct), osl⟩) (hcd : PySem.W.codeIn K cdv qual = true) (S : FnScope N ps scope)
    (len : ∀ a vs H Q E, sp a vs H Q E → vs.length = ps.length)
    (hbody : ∀ (A : Around) (outer : List Env) (s : Shared) (H : Hp) (vs : List V) (Q : VK) (E : XK) (p : Addr × Obj), ExcZ C p → L2H.RoomH k (A.deeper (envOfC qual scope s.heap.objs.size f cdv)) → sp p.1 vs H Q E →
      ∃ t, PSs (L2H.cxH CX P w K mg base N qual scope f cdv A outer s H E p) body t ∧ t { nx := fun _ H' => Q .non H', rt := Q } (L2.start N vs) H) :
    FnZ P w K mg base CX (k + 1) f (PySem.W.fnOf name qual params body scope dV kV doc pm an cdv ct) ps C sp := by
  refine ⟨len, fun A outer s H args us vs Q E p hr hz hpin e0 hb r hsp => ?_⟩
  have hl := len _ _ _ _ _ hsp
  have KX : K.In s.heap := e0.mod.kin.keeps fun b o e => (e0.bs b o e).1
  have lim : s.heap.NoLimit := e0.mod.nolimit.keeps fun b o e => (e0.bs b o e).1
  have hkind : ∀ y ∈ ps.zip us, scope.names.lookup y.1 = some .local ∨ (scope.names.lookup y.1 = some .cell ∧ ((cellsFrom (s.heap.objs.size + 1) scope.names []).lookup y.1).isSome = true) := fun ⟨n, v⟩ hy => by
    rcases S.par n (List.of_mem_zip hy).1 with q | q
    · exact .inl q
    · exact .inr ⟨q, PySem.W.cellsFrom_some _ _ _ (.inl q)⟩
  refine codeAny_call_function hr.depth (KX _ _ lk) rfl S.co S.gen rfl (PySem.W.codeRec_of KX hcd) (hb _ _ _ _ ?_)
  refine wpAny_newFunctionEnv_cells S.kind hkind fun env he s1 x => ?_
  subst he
  refine ⟨lim.keeps x.toInCall.keep, codeAny_func ?_⟩
  obtain ⟨t, ht, hq⟩ := hbody A outer s H vs Q E p hz (hr.deeper _) hsp
  have I : Inv (L2H.cxH CX P w K mg base N qual scope f cdv A outer s H E p) [] (L2.start N vs) H s1 := L2H.inv_startH S hpin e0 hl r x
  refine wpAny_mono (ht.run [] s1 (L2.start N vs) H _ I hq) (fun fl s' hs => ?_) fun e s' hs => hs
  have fin : ∀ {σ' : L2.St} {H' : Hp} {v : V} {u : Value}, Inv (L2H.cxH CX P w K mg base N qual scope f cdv A outer s H E p) [] σ' H' s' → RelV v u → Q v H' → CE outer P w H s Q u s' :=
    fun {σ' H' v u} J rv q => ⟨v, H', J.os, J.bare, J.base, J.hok, rv, q⟩
  cases fl with
  | ret u =>
    obtain ⟨v, σ', H', J, rv, q⟩ := hs
    exact fin J rv q
  | next =>
    obtain ⟨σ', H', J, q⟩ := hs
    exact fin (v := V.non) (u := Value.none) J rfl q
  | brk =>
    obtain ⟨_, _, _, q⟩ := hs
    exact False.elim q
  | cont =>
    obtain ⟨_, _, _, q⟩ := hs
    exact False.elim q
theorem _root_.L2.Fun.okZ {P : Program} {w : World} {K : PySem.W.Frag} {mg : Str → Option Value} {base : Heap} {x qual : Str} {st : Stmt} {f : Addr} {fd : FuncData} {N ps : List Str} {k : Nat} {C : Addr} {sp : Addr → Sp} (F : Fun K x qual st f fd) (S : FnScope N ps (defScope st)) (len : ∀ a vs H Q E, sp a vs H Q E → vs.length = ps.length)
    (hbody : ∀ (cdv : Value) (A : Around) (outer : List Env) (s : Shared) (H : Hp) (vs : List V) (Q : VK) (E : XK) (p : Addr × Obj), ExcZ C p → L2H.RoomH k (A.deeper (envOfC qual (defScope st) s.heap.objs.size f cdv)) → sp p.1 vs H Q E →
      ∃ t, PSs (L2H.cxH (L2.CX P w) P w K mg base N qual (defScope st) f cdv A outer s H E p) (defBody st) t ∧ t { nx := fun _ H' => Q .non H', rt := Q } (L2.start N vs) H) : FnZ P w K mg base (L2.CX P w) (k + 1) f fd ps C sp := by
  obtain ⟨oc, od, kV, doc, pm, an, cdv, ct, osl, rfl, lk, hcd⟩ := F.ex
  exact fn_ofZ lk hcd S len fun A outer s H vs Q E p hz hr hsp => hbody cdv A outer s H vs Q E p hz hr hsp

/-- the context of a suite (or of a def called in one) that holds the exception a of the class C -/
structure InSuite (X : Cx) (C a : Addr) : Prop where
  pin : ∃ oe, ExcZ C (a, oe) ∧ (a, oe) ∈ X.pn
  pass : X.xe = fun _ _ => False
def tCallZ (sp : Addr → Sp) (a : Addr) (t : TA) : TE := fun σ H Q => t σ H fun vs H1 => sp a vs H1 Q E0
section
variable {X : Cx} {k : Nat} {f C a : Addr} {fd : FuncData} {ps : List Str} {sp : Addr → Sp} {x : Str} {q pos : Pos} {e : Expr} {es : List Expr} {t : TA}
theorem pe_callZ (F : FnZ X.prog X.w X.K X.mg X.base (L2.CX X.prog X.w) k f fd ps C sp) (hr : L2H.RoomH k X.A) (hc : ∃ oe, ExcZ C (a, oe) ∧ (a, oe) ∈ X.pn) (hg : Gl X x) (hm : X.mg x = some (.ref f)) (hk : PySem.W.keepIn X.K (.ref f) = true) (hb : Binds X.K fd ps [])
    (ha : PA X (e :: es) t) (hdb : (x == ("__debug__" : Str)) = false := by decide) (he : starEach (e :: es) X.env = (false, eval e X.env) :: starEach es X.env := by rfl) (hpl : (backTo pos (starEach es X.env)).any (·.1) = false := by rfl) :
    PE X (.Call (.Name x q) (e :: es) [] pos) (tCallZ sp a t) := by
  refine ⟨fun pins s σ H Q I h => ?_⟩
  refine wpAny_Call_Name_kw (ld_glob I hg hm ?_ hdb)
  refine PySem.W.callWith_K (h₀ := X.base) I.ok.mod.kin hk (thn (ha.run pos pins s σ H _ I h) fun us s1 ⟨vs, H1, I1, r, q⟩ => ⟨I1.kIn, ?_⟩) he hpl
  obtain ⟨oe, hz, hp⟩ := hc
  have hl : us.length = ps.length := by rw [← r.length]; exact F.len _ _ _ _ _ q
  have b := hb s1 us I1.kIn (by rw [List.append_nil]; exact hl)
  rw [List.append_nil] at b
  have P1 := I1.pin (a, oe) (List.mem_append_left _ hp)
  have hpin : L2H.PinOk X.stack H1 s1 (a, oe) := ⟨P1.1, P1.2.1, fun hm => (List.mem_cons.mp (I1.stkSub a hm)).elim P1.2.2.1 P1.2.2.2.1, P1.2.2.2.2⟩
  refine wpAny_call (codeAny_mono (F.run X.A X.stack s1 H1 ⟨us, []⟩ us vs Q E0 (a, oe) hr hz hpin I1.env0 b r q) fun r s' hq => ?_)
  cases r with
  | error e => exact passL pins σ H1 s1 e s' I1 hq
  | ok fl =>
    cases fl with
    | ret u => exact I1.after hq
    | next => exact False.elim hq
    | brk => exact False.elim hq
    | cont => exact False.elim hq
/-- isinstance(e, c), e the exception that is held -/
theorem call_isZ (C' : ExcC X.K C) (hc : ∃ oe, ExcZ C (a, oe) ∧ (a, oe) ∈ X.pn) : CallR X (.builtin "isinstance") (rIsE X.K C a) := by
  intro pins s σ H xs us Q I r h
  obtain ⟨c, cv, b, rfl, hcv, e, q⟩ := h
  obtain ⟨oe, ⟨hz, vs, hv⟩, hp⟩ := hc
  cases r with
  | cons rx rr =>
    cases rr with
    | cons rt rr =>
      cases rr
      cases rx
      have ec := hcv _ rt
      subst ec
      obtain ⟨hget, _⟩ := I.pin (a, oe) (List.mem_append.mpr (.inl hp))
      have J : PySem.W.InstAt s.heap a oe C none := by
        obtain ⟨oc, od, oda, osl⟩ := oe
        obtain ⟨h1, h2⟩ := hz
        dsimp only at h1 h2 hv
        subst h1 h2 hv
        exact ⟨hget, rfl, rfl, trivial⟩
      exact PySem.W.kia_one (PySem.W.handS_kitx_exc C'.hg C'.hk C'.hs C'.hd C'.ha C'.hn C'.ht C'.hm) I.kIn J e (fun z => nomatch z) fun tk => ⟨.bl b, H, I.kept (t' := tk) fun _ _ z => z, rfl, q⟩
end
end Ww

namespace Ww
open PySem PySem.Spec PyProof.Rows L2
section
variable {K : PySem.W.Frag} {C D : Addr}
theorem kit_sub {b : Bool} (h2 : PySem.W.isClsIn K D = true) (h3 : PySem.W.typeIn K (.ref D) = some (.type "type")) (h4 : PySem.W.subIn K (.ref C) (.ref D) = some b) : PySem.W.kitCls K (.ref C) (.ref D) = some b := by
  have e2 : ((PySem.W.clsIn K D).isSome && PySem.W.typeIn K (.ref D) == some (.type "type")) = true := by
    have h2' : (PySem.W.clsIn K D).isSome = true := h2
    rw [h2', h3] <;> rfl
  show (if ((PySem.W.clsIn K D).isSome && PySem.W.typeIn K (.ref D) == some (.type "type")) = true then PySem.W.subIn K (.ref C) (.ref D) else none) = some b
  rw [if_pos e2]
  exact h4
theorem kit_self : PySem.W.kitOne K (.ref C) (.ref C) = some true := if_pos (beq_self_eq_true _)
theorem kit_other (h2 : PySem.W.isClsIn K D = true) (h3 : PySem.W.typeIn K (.ref D) = some (.type "type")) (h4 : PySem.W.subIn K (.ref C) (.ref D) = some false) (h5 : PySem.W.subIn K (.ref C) (.ref C) = some true) : PySem.W.kitOne K (.ref C) (.ref D) = some false := by
  have ne : ((Value.ref C : Value) == Value.ref D) = false := by
    refine beq_eq_false_iff_ne.mpr fun z => ?_
    have e : C = D := Value.ref.inj z
    subst e
    rw [h4] at h5
    cases h5
  unfold PySem.W.kitOne
  rw [ne]
  exact kit_sub h2 h3 h4
theorem kit_ve (h : PySem.W.subIn K (.ref C) (.type "ValueError") = some true) : PySem.W.kitOne K (.ref C) (.type "ValueError") = some true := by
  have ne : ((Value.ref C : Value) == Value.type "ValueError") = false := by
    refine beq_eq_false_iff_ne.mpr fun z => ?_
    cases z
  unfold PySem.W.kitOne
  rw [ne]
  show (if PySem.W.kitMeta "ValueError" = true then PySem.W.subIn K (.ref C) (.type "ValueError") else none) = some true
  rw [if_pos (by decide +kernel)]
  exact h
theorem exm_sub {b : Bool} (h1 : PySem.W.subIn K (.ref D) (.type "BaseException") = some true) (h2 : PySem.W.isClsIn K D = true) (h3 : PySem.W.typeIn K (.ref D) = some (.type "type")) (h4 : PySem.W.subIn K (.ref C) (.ref D) = some b) :
    PySem.W.exmOne K (.ref C) (.ref D) = some b := by
  have e1 : (PySem.W.subIn K (.ref D) (.type "BaseException") == some true) = true := by rw [h1] <;> rfl
  show (if (PySem.W.subIn K (.ref D) (.type "BaseException") == some true) = true then PySem.W.kitCls K (.ref C) (.ref D) else none) = some b
  rw [if_pos e1]
  exact kit_sub h2 h3 h4
end
end Ww
namespace Ww
open PySem PySem.Spec PyProof.Rows L2
open Evl (Ex)

/-! ### kinds of things -/
def Any (K : PySem.W.Frag) (H : Hp) (x : V) : Prop := ∃ n, TyB K H x n ∧ TyX K H x (.type n) ∧ isTy n = true
section
variable {K : PySem.W.Frag} {H H' : Hp} {a : Addr} {x : V} {xs : List V}
theorem tyx_tup (h : SqT K H a xs) : TyX K H (.ref a) (.type "tuple") := by
  rcases h with (h | ⟨o, h⟩) | ⟨o, its, n, h1, h2, h3, h4, h5⟩
  · exact .base (.tup h)
  · exact .fTuple h
  · exact .kTuple h1 h2
theorem tyx_lst (h : SqL K H a xs) : TyX K H (.ref a) (.type "list") := by
  rcases h with (h | ⟨o, h⟩) | ⟨o, its, n, h1, h2, h3, h4, h5⟩
  · exact .base (.lst h)
  · exact .base (.frz h)
  · exact .kList h1 h2
theorem any_non : Any K H .non := ⟨_, .non, .base .non, by decide⟩
theorem any_bl (b : Bool) : Any K H (.bl b) := ⟨_, .bl b, .base (.bl b), by decide⟩
theorem any_int (i : Int) : Any K H (.int i) := ⟨_, .int i, .base (.int i), by decide⟩
theorem any_str (s : Str) : Any K H (.str s) := ⟨_, .str s, .base (.str s), by decide⟩
theorem any_lst (h : SqL K H a xs) : Any K H (.ref a) := ⟨_, .lst h, tyx_lst h, by decide⟩
theorem any_tup (h : SqT K H a xs) : Any K H (.ref a) := ⟨_, .tup h, tyx_tup h, by decide⟩
theorem any_dK {kvs : List (Key × V)} (h : H a = some (.dK kvs)) : Any K H (.ref a) := ⟨_, .dK h, .base (.dK h), by decide⟩
theorem tyb_mono {n : String} (e : Ex H H') (h : TyB K H x n) : TyB K H' x n := by
  cases h with
  | non => exact .non
  | bl b => exact .bl b
  | int i => exact .int i
  | str s => exact .str s
  | byt b => exact .byt b
  | lst h => exact .lst (Evl.ex_l e h)
  | tup h => exact .tup (Evl.ex_t e h)
  | dK h => exact .dK (e _ _ h)
theorem tyx_of_b {n : String} (h : TyB K H x n) : TyX K H x (.type n) := by
  cases h with
  | non => exact .base .non
  | bl b => exact .base (.bl b)
  | int i => exact .base (.int i)
  | str s => exact .base (.str s)
  | byt b => exact .byt b
  | lst h => exact tyx_lst h
  | tup h => exact tyx_tup h
  | dK h => exact .base (.dK h)
theorem Any.mono (e : Ex H H') (h : Any K H x) : Any K H' x := by
  obtain ⟨n, h1, _, h3⟩ := h
  exact ⟨n, tyb_mono e h1, tyx_of_b (tyb_mono e h1), h3⟩
end

/-! ### shares -/
def gcdI (a b : Int) : Int := ((Nat.gcd a.natAbs b.natAbs : Nat) : Int)
def isSh (a b : Int) : Bool := decide (1 ≤ b) && decide (Nat.gcd a.natAbs b.natAbs = 1)
/-- whether the items of a tuple are a share -/
def shB : List V → Bool
  | [.int a, .int b] => isSh a b
  | _ => false
inductive Thing (K : PySem.W.Frag) (H : Hp) : V → Bool → Prop
  | no {x : V} {n : String} (h : TyB K H x n) (hn : n ≠ "tuple") (ht : isTy n = true) : Thing K H x false
  | tup {a : Addr} {xs : List V} (h : SqT K H a xs) (hx : ∀ y ∈ xs, Any K H y) : Thing K H (.ref a) (shB xs)
theorem Thing.mono {K : PySem.W.Frag} {H H' : Hp} {x : V} {b : Bool} (e : Ex H H') (h : Thing K H x b) : Thing K H' x b := by
  cases h with
  | no h hn ht => exact .no (tyb_mono e h) hn ht
  | tup h hx => exact .tup (Evl.ex_t e h) fun y hy => (hx y hy).mono e

/-- the share of top by bottom -/
def shC (top bottom : Int) : Int := if bottom < 0 then -(gcdI top bottom) else gcdI top bottom
def shT (top bottom : Int) : Int := top.fdiv (shC top bottom)
def shBt (top bottom : Int) : Int := bottom.fdiv (shC top bottom)
theorem gcdI_pos {a b : Int} (h : b ≠ 0) : 0 < gcdI a b := by
  unfold gcdI
  have : 0 < Nat.gcd a.natAbs b.natAbs := Nat.gcd_pos_of_pos_right _ (Int.natAbs_pos.mpr h)
  omega
theorem gcdI_dvd_left (a b : Int) : gcdI a b ∣ a := by
  unfold gcdI
  exact Int.ofNat_dvd_left.mpr (Nat.gcd_dvd_left _ _)
theorem gcdI_dvd_right (a b : Int) : gcdI a b ∣ b := by
  unfold gcdI
  exact Int.ofNat_dvd_left.mpr (Nat.gcd_dvd_right _ _)
theorem fdiv_of_mul {a c k : Int} (hc : c ≠ 0) (h : a = c * k) : a.fdiv c = k := by
  subst h
  exact Int.mul_fdiv_cancel_left k hc
theorem share_ok {top bottom : Int} (h : bottom ≠ 0) :
    shC top bottom ≠ 0 ∧ 0 < shBt top bottom ∧ Nat.gcd (shT top bottom).natAbs (shBt top bottom).natAbs = 1 ∧ shT top bottom * bottom = top * shBt top bottom ∧
    (shT top bottom).natAbs ≤ top.natAbs ∧ (shBt top bottom).natAbs ≤ bottom.natAbs ∧ (shC top bottom).natAbs ≤ bottom.natAbs := by
  have gp : 0 < gcdI top bottom := gcdI_pos h
  obtain ⟨k, hk⟩ := gcdI_dvd_left top bottom
  obtain ⟨l, hl⟩ := gcdI_dvd_right top bottom
  have key : Nat.gcd k.natAbs l.natAbs = 1 := by
    have e : gcdI top bottom = ((Nat.gcd top.natAbs bottom.natAbs : Nat) : Int) := rfl
    have en : (gcdI top bottom).natAbs = Nat.gcd top.natAbs bottom.natAbs := by rw [e]; rfl
    have e1 : top.natAbs = (gcdI top bottom).natAbs * k.natAbs := by rw [← Int.natAbs_mul, ← hk]
    have e2 : bottom.natAbs = (gcdI top bottom).natAbs * l.natAbs := by rw [← Int.natAbs_mul, ← hl]
    have e3 : Nat.gcd top.natAbs bottom.natAbs = (gcdI top bottom).natAbs * Nat.gcd k.natAbs l.natAbs := by
      rw [e1, e2, Nat.gcd_mul_left]
    rw [← en] at e3
    have hp : 0 < (gcdI top bottom).natAbs := Int.natAbs_pos.mpr (by omega)
    exact Nat.eq_of_mul_eq_mul_left hp (by rw [Nat.mul_one]; exact e3.symm)
  have gle : (gcdI top bottom).natAbs ≤ bottom.natAbs := by
    have e2 : bottom.natAbs = (gcdI top bottom).natAbs * l.natAbs := by rw [← Int.natAbs_mul, ← hl]
    have hl0 : 0 < l.natAbs := by
      refine Nat.pos_of_ne_zero fun z => h ?_
      rw [z, Nat.mul_zero] at e2
      exact Int.natAbs_eq_zero.mp e2
    rw [e2]
    exact Nat.le_mul_of_pos_right _ hl0
  have kle : k.natAbs ≤ top.natAbs := by
    have e1 : top.natAbs = (gcdI top bottom).natAbs * k.natAbs := by rw [← Int.natAbs_mul, ← hk]
    rw [e1]
    exact Nat.le_mul_of_pos_left _ (Int.natAbs_pos.mpr (by omega))
  have lle : l.natAbs ≤ bottom.natAbs := by
    have e2 : bottom.natAbs = (gcdI top bottom).natAbs * l.natAbs := by rw [← Int.natAbs_mul, ← hl]
    rw [e2]
    exact Nat.le_mul_of_pos_left _ (Int.natAbs_pos.mpr (by omega))
  by_cases hb : bottom < 0
  · have ec : shC top bottom = -(gcdI top bottom) := if_pos hb
    have et : shT top bottom = -k := by
      unfold shT
      rw [ec]
      exact fdiv_of_mul (by omega) (by rw [Int.neg_mul_neg]; exact hk)
    have eb : shBt top bottom = -l := by
      unfold shBt
      rw [ec]
      exact fdiv_of_mul (by omega) (by rw [Int.neg_mul_neg]; exact hl)
    rw [ec, et, eb, Int.natAbs_neg, Int.natAbs_neg, Int.natAbs_neg]
    refine ⟨by omega, ?_, key, ?_, kle, lle, gle⟩
    · refine Int.neg_pos_of_neg ?_
      refine Int.lt_of_not_ge fun z => ?_
      have : 0 ≤ gcdI top bottom * l := Int.mul_nonneg (by omega) z
      omega
    · rw [Int.neg_mul, Int.mul_neg]
      congr 1
      conv => lhs; rw [hl]
      conv => rhs; rw [hk]
      rw [Int.mul_left_comm, Int.mul_assoc]
  · have ec : shC top bottom = gcdI top bottom := if_neg hb
    have et : shT top bottom = k := by
      unfold shT
      rw [ec]
      exact fdiv_of_mul (by omega) hk
    have eb : shBt top bottom = l := by
      unfold shBt
      rw [ec]
      exact fdiv_of_mul (by omega) hl
    rw [ec, et, eb]
    refine ⟨by omega, ?_, key, ?_, kle, lle, gle⟩
    · refine Int.lt_of_not_ge fun z => ?_
      have : gcdI top bottom * l ≤ 0 := Int.mul_nonpos_of_nonneg_of_nonpos (by omega) z
      omega
    · conv => lhs; rw [hl]
      conv => rhs; rw [hk]
      rw [Int.mul_left_comm, Int.mul_assoc]
theorem isSh_share {top bottom : Int} (h : bottom ≠ 0) : isSh (shT top bottom) (shBt top bottom) = true := by
  obtain ⟨_, h1, h2, _⟩ := share_ok h (top := top)
  unfold isSh
  rw [decide_eq_true h2, decide_eq_true (show 1 ≤ shBt top bottom by omega)]
  rfl

/-! ### Euclid -/
theorem gcd_step {a b : Int} (ha : 0 ≤ a) (hb : 0 < b) : gcdI b (a % b) = gcdI a b := by
  unfold gcdI
  congr 1
  have e : (a % b).natAbs = a.natAbs % b.natAbs := by
    rw [Int.natAbs_emod_of_nonneg ha]
  rw [e, Nat.gcd_comm a.natAbs b.natAbs, Nat.gcd_rec b.natAbs a.natAbs, Nat.gcd_comm]
theorem gcd_zero {a : Int} (ha : 0 ≤ a) : gcdI a 0 = a := by
  unfold gcdI
  show ((Nat.gcd a.natAbs 0 : Nat) : Int) = a
  rw [Nat.gcd_zero_right]
  omega

/-! ### the law's numbers -/
def big : Nat := 10 ^ 60
/-- a cell of the script -/
def wCell (ns : List Int) (k : Int) : Int := if k < (ns.length : Int) then ns.getD k.toNat 0 else 0
def bitTop : Nat := 1048577
def Bits (c : Int) : Prop := c.natAbs < 2 ^ bitTop
theorem bits_of {c : Int} (h : Builtin.Int.intBits c ≤ 1048576) : Bits c := by
  unfold Bits
  unfold Builtin.Int.intBits at h
  split at h
  · rename_i z
    first
      | (rw [z]; exact Nat.two_pow_pos _)
      | (have : c = 0 := by simpa using z
         rw [this]; exact Nat.two_pow_pos _)
  · have h2 : c.natAbs.log2 < bitTop := by show c.natAbs.log2 < 1048577; omega
    exact (Nat.log2_lt (by intro z; simp_all)).mp h2
end Ww
namespace Ww
open PySem PySem.Spec PyProof.Rows L2
open Evl (Ex)
/-- as Fun.ok, with the exceptions' own lying -/
theorem _root_.L2.Fun.okN {P : Program} {w : World} {K : PySem.W.Frag} {mg : Str → Option Value} {base : Heap} {x qual : Str} {st : Stmt} {f : Addr} {fd : FuncData} {N ps : List Str} {k : Nat} {sp : Sp} (F : Fun K x qual st f fd) (S : FnScope N ps (defScope st)) (len : ∀ vs H Q E, sp vs H Q E → vs.length = ps.length)
    (hbody : ∀ (cdv : Value) (A : Around) (outer : List Env) (s : Shared) (H : Hp) (vs : List V) (Q : VK) (E : XK), Room k (A.deeper (envOfC qual (defScope st) s.heap.objs.size f cdv)) → sp vs H Q E →
      ∃ t, PSs (cxOf (L2.CX P w) P w K mg base N qual (defScope st) f cdv A outer s H E).nox (defBody st) t ∧ t { nx := fun _ H' => Q .non H', rt := Q } (start N vs) H) : FnOk P w K mg base (L2.CX P w) (k + 1) f fd ps sp := by
  obtain ⟨oc, od, kV, doc, pm, an, cdv, ct, osl, rfl, lk, hcd⟩ := F.ex
  refine fn_of lk hcd S len fun A outer s H vs Q E hr hsp => ?_
  obtain ⟨t, h, q⟩ := hbody cdv A outer s H vs Q E hr hsp
  exact ⟨t, h.nox, q⟩
theorem roomH_mark {k : Nat} {A : Around} {v : Option Value} (r : Room k A) : L2H.RoomH k (A.mark v) := ⟨r.dp, r.un⟩
/-- f(e) in a suite that holds an exception of the class C: cls and d are what the suite is told -/
def tCallZs (cls : Value) (d : Option Addr) (C : Addr) (sp : Addr → Sp) (a : Addr) (t : TA) : TE := fun σ H Q => cls = .ref C ∧ d = none ∧ t σ H fun vs H1 => sp a vs H1 Q E0
section
variable {X : Cx} {k : Nat} {f C a : Addr} {fd : FuncData} {ps : List Str} {sp : Addr → Sp} {x : Str} {q pos : Pos} {e : Expr} {es : List Expr} {t : TA}
theorem pe_callZs {cls : Value} {d : Option Addr} {oe : Obj} {pn : List (Addr × Obj)} (hz : Zc cls d oe) (hf : ∃ vs, oe.data = .fields vs) (F : FnZ X.prog X.w X.K X.mg X.base (L2.CX X.prog X.w) k f fd ps C sp) (hr : Room k X.A) (hg : Gl (X.suite a ((a, oe) :: pn)) x) (hm : X.mg x = some (.ref f)) (hk : PySem.W.keepIn X.K (.ref f) = true) (hb : Binds X.K fd ps [])
    (ha : PA (X.suite a ((a, oe) :: pn)) (e :: es) t) (hdb : (x == ("__debug__" : Str)) = false := by decide) (he : starEach (e :: es) X.env = (false, eval e X.env) :: starEach es X.env := by rfl) (hpl : (backTo pos (starEach es X.env)).any (·.1) = false := by rfl) :
    PE (X.suite a ((a, oe) :: pn)) (.Call (.Name x q) (e :: es) [] pos) (tCallZs cls d C sp a t) := by
  refine ⟨fun pins s σ H Q I h => ?_⟩
  obtain ⟨e1, e2, h⟩ := h
  subst e1
  subst e2
  exact (pe_callZ (X := X.suite a ((a, oe) :: pn)) (a := a) F (roomH_mark hr) ⟨oe, ⟨hz, hf⟩, List.Mem.head _⟩ hg hm hk hb ha hdb he hpl).run pins s σ H Q I h
end
end Ww
namespace Ww
open PySem PySem.Spec PyProof.Rows L2
open Evl (Ex)
theorem vi {i j : Int} : (V.int i = V.int j) ↔ i = j := ⟨fun z => V.int.inj z, fun z => z ▸ rfl⟩
theorem eqT {i j : Int} (h : i = j) : decide (V.int i = V.int j) = true := decide_eq_true (vi.mpr h)
theorem eqF {i j : Int} (h : i ≠ j) : decide (V.int i = V.int j) = false := decide_eq_false fun z => h (vi.mp z)
theorem neT {i j : Int} (h : i ≠ j) : (!decide (V.int i = V.int j)) = true := by rw [eqF h]; rfl
theorem neF {i j : Int} (h : i = j) : (!decide (V.int i = V.int j)) = false := by rw [eqT h]; rfl
/-- an if whose test is known by an equation -/
theorem itT {c : Bool} {A B : Prop} (e : c = true) (h : A) : if c = true then A else B := by rw [if_pos e]; exact h
theorem itF {c : Bool} {A B : Prop} (e : c = false) (h : B) : if c = true then A else B := by rw [e]; exact iteF h
theorem itC {c : Bool} {A B : Prop} (h1 : c = true → A) (h2 : c = false → B) : if c = true then A else B := by
  cases c with
  | true => exact iteT (h1 rfl)
  | false => exact iteF (h2 rfl)
theorem shB_len {xs : List V} (h : xs.length ≠ 2) : shB xs = false := by
  match xs, h with
  | [], _ => rfl
  | [x], _ => cases x <;> rfl
  | [_, _], h => exact absurd rfl h
  | x :: y :: z :: r, _ => cases x <;> cases y <;> rfl
theorem two_of {xs : List V} (h : xs.length = 2) : ∃ x y, xs = [x, y] := by
  match xs, h with
  | [x, y], _ => exact ⟨x, y, rfl⟩
theorem tyb_int {K : PySem.W.Frag} {H : Hp} {x : V} {n : String} (h : TyB K H x n) (hn : n = "int") : ∃ i, x = .int i := by
  cases h with
  | int i => exact ⟨i, rfl⟩
  | _ => exact absurd hn (by decide)
theorem shB_fst {x y : V} (h : ∀ i, x ≠ .int i) : shB [x, y] = false := by
  cases x <;> cases y <;> first | rfl | exact absurd rfl (h _)
theorem shB_snd {x y : V} (h : ∀ i, y ≠ .int i) : shB [x, y] = false := by
  cases x <;> cases y <;> first | rfl | exact absurd rfl (h _)
theorem tyb_not {K : PySem.W.Frag} {H : Hp} {x : V} {n : String} (h : TyB K H x n) (hn : n ≠ "int") : ∀ i, x ≠ .int i := by
  intro i e
  subst e
  cases h with
  | int => exact hn rfl
end Ww
namespace Ww
open PySem PySem.Spec PyProof.Rows L2
theorem isTy_cases {n : String} (h : isTy n = true) (p : String → Prop) (h1 : p "int") (h2 : p "str") (h3 : p "bool") (h4 : p "NoneType") (h5 : p "float") (h6 : p "list") (h7 : p "tuple") (h8 : p "dict") (h9 : p "set") (ha : p "frozenset") (hb : p "bytes") (hc : p "complex") (hd : p "range") (he : p "object") (hf : p "type") : p n := by
  have h' : n ∈ ["int", "str", "bool", "NoneType", "float", "list", "tuple", "dict", "set", "frozenset", "bytes", "complex", "range", "object", "type"] := by
    unfold isTy at h
    exact List.contains_iff_mem.mp h
  simp only [List.mem_cons, List.not_mem_nil, or_false] at h'
  rcases h' with e | e | e | e | e | e | e | e | e | e | e | e | e | e | e <;> subst e <;> assumption
theorem isI_int {n : String} (h : isTy n = true) : kitB n "int" = some (decide (n = "int" ∨ n = "bool")) := by
  refine isTy_cases h (fun n => kitB n "int" = some (decide (n = "int" ∨ n = "bool"))) ?_ ?_ ?_ ?_ ?_ ?_ ?_ ?_ ?_ ?_ ?_ ?_ ?_ ?_ ?_ <;> decide +kernel
theorem isI_bool {n : String} (h : isTy n = true) : kitB n "bool" = some (decide (n = "bool")) := by
  refine isTy_cases h (fun n => kitB n "bool" = some (decide (n = "bool"))) ?_ ?_ ?_ ?_ ?_ ?_ ?_ ?_ ?_ ?_ ?_ ?_ ?_ ?_ ?_ <;> decide +kernel
theorem isI_tuple {n : String} (h : isTy n = true) : kitB n "tuple" = some (decide (n = "tuple")) := by
  refine isTy_cases h (fun n => kitB n "tuple" = some (decide (n = "tuple"))) ?_ ?_ ?_ ?_ ?_ ?_ ?_ ?_ ?_ ?_ ?_ ?_ ?_ ?_ ?_ <;> decide +kernel
end Ww
namespace Ww
open PySem PySem.Spec PyProof.Rows L2
open Evl

/-! ### what an expression gives, by a property that stands in greater heaps -/
def Mono (P : V → Hp → Prop) : Prop := ∀ v H H', Ex H H' → P v H → P v H'
def EvX (te : TE) (σ : L2.St) (H : Hp) (P : V → Hp → Prop) : Prop := ∀ H1, Ex H H1 → ∀ Q : VK, (∀ v H2, Ex H1 H2 → P v H2 → Q v H2) → te σ H1 Q
def EvAs (ta : TA) (σ : L2.St) (H : Hp) (n : Nat) (P : V → Hp → Prop) : Prop := ∀ H1, Ex H H1 → ∀ Q : List V → Hp → Prop, (∀ vs H2, Ex H1 H2 → vs.length = n → (∀ v ∈ vs, P v H2) → Q vs H2) → ta σ H1 Q
section
variable {K : PySem.W.Frag} {σ : L2.St} {H H' : Hp} {ta tb te tx : TE} {tr : TA} {t u : TT} {x y z v : V} {r : R2} {P P' : V → Hp → Prop}
theorem EvX.mono (e : Ex H H') (h : EvX te σ H P) : EvX te σ H' P := fun H1 a Q q => h H1 (e.trans a) Q q
theorem EvX.imp (h : EvX te σ H P) (i : ∀ v H1, Ex H H1 → P v H1 → P' v H1) : EvX te σ H P' := fun H1 a Q q => h H1 a Q fun v H2 e p => q v H2 e (i v H2 (a.trans e) p)
theorem ex_of (h : Ev te σ H v) (p : ∀ H1, Ex H H1 → P v H1) : EvX te σ H P := fun H1 a Q q => h H1 a Q fun H2 e => q v H2 e (p H2 (a.trans e))
theorem ex_ofU {xs : List V} (h : EvU te σ H xs) (p : ∀ a H1, Ex H H1 → H1 a = some (.tup xs) → P (.ref a) H1) : EvX te σ H P := fun H1 a Q q => h H1 a Q fun b H2 _ e hb => q (.ref b) H2 e (p b H2 (a.trans e) hb)
theorem ex_ofL {xs : List V} (h : EvL te σ H xs) (p : ∀ a H1, Ex H H1 → H1 a = some (.lst xs) → P (.ref a) H1) : EvX te σ H P := fun H1 a Q q => h H1 a Q fun b H2 _ e hb => q (.ref b) H2 e (p b H2 (a.trans e) hb)
theorem eas_nil : EvAs tNil σ H 0 P := fun H1 _ Q q => q [] H1 (Ex.refl H1) rfl (fun v h => absurd h (by simp))
theorem eas_cons {n : Nat} (m : Mono P) (h : EvX te σ H P) (hr : EvAs tr σ H n P) : EvAs (tCons te tr) σ H (n + 1) P := fun H1 a Q q =>
  h H1 a _ fun v H2 e2 p => hr H2 (a.trans e2) _ fun vs H3 e3 hl hp => q (v :: vs) H3 (e2.trans e3) (by simp [hl]) fun w hw => by
    rcases List.mem_cons.mp hw with z | z
    · subst z
      exact m _ _ _ e3 p
    · exact hp w z
/-- a new tuple, a new list, of such items -/
theorem ex_tup {n : Nat} {P' : V → Hp → Prop} (h : EvAs tr σ H n P) (hn : n ≤ 100000) (k : ∀ a xs H1, H1 a = some (.tup xs) → xs.length = n → (∀ x ∈ xs, P x H1) → P' (.ref a) H1) (m : Mono P) : EvX (tTup tr) σ H P' := fun H1 a Q q =>
  h H1 a _ fun vs H2 e hl hp => ⟨sz_of (by omega), fun p hp' => q _ _ (e.trans (Ex.new hp')) (k p vs _ upd_same hl fun x hx => m _ _ _ (Ex.new hp') (hp x hx))⟩
theorem ex_lst {n : Nat} {P' : V → Hp → Prop} (h : EvAs tr σ H n P) (hn : n ≤ 100000) (k : ∀ a xs H1, H1 a = some (.lst xs) → xs.length = n → (∀ x ∈ xs, P x H1) → P' (.ref a) H1) (m : Mono P) : EvX (tLst tr) σ H P' := fun H1 a Q q =>
  h H1 a _ fun vs H2 e hl hp => ⟨sz_of (by omega), fun p hp' => q _ _ (e.trans (Ex.new hp')) (k p vs _ upd_same hl fun x hx => m _ _ _ (Ex.new hp') (hp x hx))⟩
/-- a list of such items that stands in the heap -/
def IsL (n : Nat) (P : V → Hp → Prop) : V → Hp → Prop := fun v H => ∃ a xs, v = .ref a ∧ H a = some (.lst xs) ∧ xs.length = n ∧ ∀ x ∈ xs, P x H
theorem isL_mono {n : Nat} (m : Mono P) : Mono (IsL n P) := fun v H H' e h => by
  obtain ⟨a, xs, rfl, h1, h2, h3⟩ := h
  exact ⟨a, xs, rfl, e _ _ h1, h2, fun x hx => m _ _ _ e (h3 x hx)⟩
theorem ex_lstL {n : Nat} (h : EvAs tr σ H n P) (hn : n ≤ 100000) (m : Mono P) : EvX (tLst tr) σ H (IsL n P) := ex_lst h hn (fun a xs H1 h1 h2 h3 => ⟨a, xs, rfl, h1, h2, h3⟩) m
theorem ex_catL {n k : Nat} (ha : EvX ta σ H (IsL n P)) (hb : EvX tb σ H (IsL k P)) (hz : n + k ≤ 100000) (m : Mono P) : EvX (tOp rCat ta tb) σ H (IsL (n + k) P) := fun H1 e Q q =>
  ha H1 e _ fun v H2 e2 p => hb H2 (e.trans e2) _ fun w H3 e3 p' => by
    obtain ⟨a, xs, rfl, h1, h2, h3⟩ := p
    obtain ⟨b, ys, rfl, g1, g2, g3⟩ := p'
    exact ⟨a, b, xs, ys, rfl, rfl, e3 _ _ h1, g1, sz_of (by omega), fun l hl => q _ _ ((e2.trans e3).trans (Ex.new hl)) ⟨l, _, rfl, upd_same, by rw [List.length_append]; omega, fun x hx => by
      rcases List.mem_append.mp hx with z | z
      · exact m _ _ _ (e3.trans (Ex.new hl)) (h3 x z)
      · exact m _ _ _ (Ex.new hl) (g3 x z)⟩⟩
/-- an item of such a list -/
theorem ex_ixL {n : Nat} {i : Int} (ha : EvX ta σ H (IsL n P)) (hb : Ev tb σ H (.int i)) (h0 : 0 ≤ i) (h1 : i < n) (m : Mono P) : EvX (tOp (rIxL K) ta tb) σ H P := fun H1 e Q q =>
  ha H1 e _ fun v H2 e2 p => hb H2 (e.trans e2) _ fun H3 e3 => by
    obtain ⟨a, xs, rfl, g1, g2, g3⟩ := p
    have hi : i.toNat < xs.length := by omega
    refine ⟨a, xs, i, xs[i.toNat], rfl, rfl, sq_of (e3 _ _ g1), at_of (j := i.toNat) (by omega) (List.getElem?_eq_getElem hi), q _ _ (e2.trans e3) (m _ _ _ e3 (g3 _ (List.getElem_mem hi)))⟩
theorem s_asgX {D : Ends} {i : Nat} (h : EvX te σ H P) (k : ∀ v H1, Ex H H1 → P v H1 → D.nx (σ.set i (some v)) H1) : tAsg te (gName i) D σ H := h H (Ex.refl H) _ fun v H1 e p => k v H1 e p
theorem s_retX {D : Ends} (h : EvX te σ H P) (k : ∀ v H1, Ex H H1 → P v H1 → D.rt v H1) : tRet te D σ H := h H (Ex.refl H) _ fun v H1 e p => k v H1 e p
theorem q_asgX {D : Ends} {tz : TS} {i : Nat} (h : EvX te σ H P) (k : ∀ v H1, Ex H H1 → P v H1 → tz D (σ.set i (some v)) H1) : tSeq (tAsg te (gName i)) tz D σ H := s_asgX (D := { D with nx := tz D }) h k
/-- new lists, joined; taken some times -/
theorem el_cat {xs ys : List V} (ha : EvL ta σ H xs) (hb : EvL tb σ H ys) (hz : xs.length + ys.length ≤ 100000) : EvL (tOp rCat ta tb) σ H (xs ++ ys) := fun H1 e Q q =>
  ha H1 e _ fun a H2 n2 e2 h2 => hb H2 (e.trans e2) _ fun b H3 n3 e3 h3 =>
    ⟨a, b, xs, ys, rfl, rfl, e3 _ _ h2, h3, sz_of hz, fun l hl => q l _ (fresh_back (e2.trans e3) hl) ((e2.trans e3).trans (Ex.new hl)) upd_same⟩
theorem el_rep {xs : List V} {k : Int} (ha : EvL ta σ H xs) (hb : Ev tb σ H (.int k)) (h0 : 0 ≤ k) (h1 : k ≤ 100000) (hz : xs.length * k.toNat ≤ 100000) : EvL (tOp rRep ta tb) σ H (List.replicate k.toNat xs).flatten := fun H1 e Q q =>
  ha H1 e _ fun a H2 n2 e2 h2 => hb H2 (e.trans e2) _ fun H3 e3 =>
    ⟨a, k, xs, rfl, rfl, e3 _ _ h2, by omega, by omega, sz_of hz, fun l hl => q l _ (fresh_back (e2.trans e3) hl) ((e2.trans e3).trans (Ex.new hl)) upd_same⟩
/-- one list that stands, another one new -/
theorem el_cat1 {a : Addr} {xs ys : List V} (ha : Ev ta σ H (.ref a)) (h : H a = some (.lst xs)) (hb : EvL tb σ H ys) (hz : xs.length + ys.length ≤ 100000) : EvL (tOp rCat ta tb) σ H (xs ++ ys) := fun H1 e Q q =>
  ha H1 e _ fun H2 e2 => hb H2 (e.trans e2) _ fun b H3 n3 e3 h3 =>
    ⟨a, b, xs, ys, rfl, rfl, ((e.trans e2).trans e3) _ _ h, h3, sz_of hz, fun l hl => q l _ (fresh_back (e2.trans e3) hl) ((e2.trans e3).trans (Ex.new hl)) upd_same⟩
end

/-! ### which refusal: the law's word of an exception -/
def pick (b : Bool) (s : Str) : List V := if b = true then [.str s] else []
theorem pick_len (b : Bool) (s : Str) : (pick b s).length ≤ 1 := by
  unfold pick
  split <;> simp
/-- [s] * int(isinstance(e, c)) -/
theorem el_pick {K : PySem.W.Frag} {C a : Addr} {σ : L2.St} {H : Hp} {s : Str} {c : V} {cv : Value} {b : Bool} (h0 : σ[0]? = some (some (.ref a))) (hc : ∀ u, RelV c u → u = cv) (hk : PySem.W.kitOne K (.ref C) cv = some b) :
    EvL (tOp rRep (tLst (tCons (tC (.str s)) tNil)) (tCB (fun xs H Q => (∃ i, xs = [.int i] ∧ Q (.int i) H) ∨ ∃ k, xs = [.bl k] ∧ Q (.int (if k then 1 else 0)) H) (tCons (tCB (rIsE K C a) (tCons (tVar 0) (tCons (tC c) tNil))) tNil))) σ H (pick b s) := by
  have e : pick b s = (List.replicate ((if b then 1 else 0 : Int)).toNat [V.str s]).flatten := by
    cases b <;> rfl
  rw [e]
  refine el_rep (k := if b then 1 else 0) (el_lst (ea_cons ev_c ea_nil) (by simp)) (ev_cb (vs := [.bl b]) (ea_cons ?_ ea_nil) ?_) (by cases b <;> decide) (by cases b <;> decide) (by cases b <;> simp)
  · exact ev_cb (vs := [.ref a, c]) (ea_cons (ev_var h0) (ea_cons ev_c ea_nil)) fun H1 e1 Q q => ⟨c, cv, b, rfl, hc, hk, q H1 (Ex.refl H1)⟩
  · exact fun H1 e1 Q q => Or.inr ⟨b, rfl, q H1 (Ex.refl H1)⟩
/-- isinstance(e, ValueError) is True: [s] * int(not ..) is nothing -/
theorem el_pickN {K : PySem.W.Frag} {C a : Addr} {σ : L2.St} {H : Hp} {s : Str} {c : V} {cv : Value} {b : Bool} (h0 : σ[0]? = some (some (.ref a))) (hc : ∀ u, RelV c u → u = cv) (hk : PySem.W.kitOne K (.ref C) cv = some b) :
    EvL (tOp rRep (tLst (tCons (tC (.str s)) tNil)) (tCB (fun xs H Q => (∃ i, xs = [.int i] ∧ Q (.int i) H) ∨ ∃ k, xs = [.bl k] ∧ Q (.int (if k then 1 else 0)) H) (tCons (tNotV (tCB (rIsE K C a) (tCons (tVar 0) (tCons (tC c) tNil)))) tNil))) σ H (pick (!b) s) := by
  have e : pick (!b) s = (List.replicate ((if !b then 1 else 0 : Int)).toNat [V.str s]).flatten := by
    cases b <;> rfl
  rw [e]
  refine el_rep (k := if !b then 1 else 0) (el_lst (ea_cons ev_c ea_nil) (by simp)) (ev_cb (vs := [.bl (!b)]) (ea_cons (ev_notV ?_) ea_nil) ?_) (by cases b <;> decide) (by cases b <;> decide) (by cases b <;> simp)
  · exact ev_cb (vs := [.ref a, c]) (ea_cons (ev_var h0) (ea_cons ev_c ea_nil)) fun H1 e1 Q q => ⟨c, cv, b, rfl, hc, hk, q H1 (Ex.refl H1)⟩
  · exact fun H1 e1 Q q => Or.inr ⟨!b, rfl, q H1 (Ex.refl H1)⟩
end Ww
namespace Ww
open PySem PySem.Spec PyProof.Rows L2
open Evl
theorem bits_mono {a b : Int} (h : a.natAbs ≤ b.natAbs) (hb : Bits b) : Bits a := Nat.lt_of_le_of_lt h hb
theorem natAbs_ediv {a k : Int} (hk : 0 < k) : (a / k).natAbs ≤ a.natAbs := by
  have h2 := Int.emod_nonneg a (show k ≠ 0 by omega)
  have h3 := Int.emod_lt_of_pos a hk
  by_cases h : 0 ≤ a
  · have q0 : 0 ≤ a / k := Int.ediv_nonneg h (by omega)
    have : a / k ≤ a := Int.ediv_le_self _ h
    omega
  · have q1 : a / k < 0 := Int.ediv_neg_of_neg_of_pos (by omega) hk
    have : a ≤ a / k := by
      rw [Int.le_ediv_iff_mul_le hk]
      have h4 : a * k ≤ a * 1 := Int.mul_le_mul_of_nonpos_left (by omega) (by omega)
      omega
    omega
theorem mulBits {c : Int} (h : Bits c) : CMulG (c / 5) (48271 ^ (12 : Int).toNat) :=
  mulG_of (a := bitTop) (b := 200) (bits_mono (natAbs_ediv (by decide)) h) (by decide +kernel) (by decide) (by decide) (by decide)
/-- a number of at most sixty figures -/
def Num (v : V) (_ : Hp) : Prop := ∃ n : Int, v = .int n ∧ n.natAbs < big
theorem num_mono : Mono Num := fun _ _ _ _ h => h
theorem big_small {n : Int} (h : n.natAbs ≤ 1000000) : n.natAbs < big := Nat.lt_of_le_of_lt h (by decide +kernel)
theorem num_last (x : Int) : (x % (2 * 10 ^ (60 : Int).toNat - 1) - (10 ^ (60 : Int).toNat - 1)).natAbs < big := by
  have e : (10 : Int) ^ (60 : Int).toNat = ((big : Nat) : Int) := by decide +kernel
  rw [e]
  have hb : 1000000 < big := by decide +kernel
  have h2 := Int.emod_nonneg x (show (2 * ((big : Nat) : Int) - 1) ≠ 0 by omega)
  have h3 := Int.emod_lt_of_pos x (show 0 < (2 * ((big : Nat) : Int) - 1) by omega)
  generalize x % (2 * ((big : Nat) : Int) - 1) = y at *
  omega
theorem big_pow : big ≤ 2 ^ 200 := by decide +kernel
/-- the five numbers at the bounds -/
theorem ev_powI {σ : L2.St} {H : Hp} {ta tb : TE} {i j : Int} (ha : Ev ta σ H (.int i)) (hb : Ev tb σ H (.int j)) (h : CPow i j) : Ev (tOp (rI CPow fun i j => .int (i ^ j.toNat)) ta tb) σ H (.int (i ^ j.toNat)) := ev_op ha hb (rv_I h)
theorem cpow (i : Int) (j : Int) (h : decide (0 ≤ j ∧ j ≤ 1000000 ∧ i.natAbs < 2 ^ 64) = true) : CPow i j := of_decide_eq_true (p := 0 ≤ j ∧ j ≤ 1000000 ∧ i.natAbs < 2 ^ 64) h
theorem num_five {σ : L2.St} {H : Hp} : EvX (tLst (tCons (tOp (rI0 fun i j => .int (i - j)) (tOp (rI CPow fun i j => .int (i ^ j.toNat)) (tC (.int 10)) (tC (.int 60))) (tC (.int 1)))
    (tCons (tOp (rI0 fun i j => .int (i - j)) (tC (.int 1)) (tOp (rI CPow fun i j => .int (i ^ j.toNat)) (tC (.int 10)) (tC (.int 60))))
    (tCons (tOp (rI CPow fun i j => .int (i ^ j.toNat)) (tC (.int 2)) (tC (.int 64))) (tCons (tC (.int 0)) (tCons (tC (.int 1)) tNil)))))) σ H (IsL 5 Num) := by
  refine ex_lstL (eas_cons num_mono (ex_of (ev_op (ev_powI ev_c ev_c (cpow _ _ rfl)) ev_c rv_I0) fun _ _ => ⟨_, rfl, by decide +kernel⟩)
    (eas_cons num_mono (ex_of (ev_op ev_c (ev_powI ev_c ev_c (cpow _ _ rfl)) rv_I0) fun _ _ => ⟨_, rfl, by decide +kernel⟩)
    (eas_cons num_mono (ex_of (ev_powI ev_c ev_c (cpow _ _ rfl)) fun _ _ => ⟨_, rfl, by decide +kernel⟩)
    (eas_cons num_mono (ex_of ev_c fun _ _ => ⟨_, rfl, by decide +kernel⟩) (eas_cons num_mono (ex_of ev_c fun _ _ => ⟨_, rfl, by decide +kernel⟩) eas_nil))))) (by decide) num_mono
end Ww
namespace Ww
open PySem PySem.Spec PyProof.Rows L2
open Evl
def pickS (b : Bool) (s : Str) : List Str := if b = true then [s] else []
theorem pick_map (b : Bool) (s : Str) : pick b s = (pickS b s).map V.str := by cases b <;> rfl
theorem pickS_len (b : Bool) (s : Str) : (pickS b s).length ≤ 1 := by cases b <;> simp [pickS]
/-- sep.join(xs) -/
def rJoin (K : PySem.W.Frag) : V → List V → Hp → VK → Prop := fun x xs H Q => ∃ a p, ∃ ys : List Str, x = .str a ∧ xs = [.ref p] ∧ (SqL K H p (ys.map V.str) ∨ SqT K H p (ys.map V.str)) ∧
  (ys.map (·.length)).sum + ys.length * a.length ≤ 16777216 ∧ Q (.str (Txt.join a ys)) H
theorem ev_join {K : PySem.W.Frag} {σ : L2.St} {H : Hp} {to te : TE} {a : Str} {p : Addr} {ys : List Str} (h : Ev to σ H (.str a)) (h2 : Ev te σ H (.ref p)) (hs : H p = some (.lst (ys.map V.str))) (hz : (ys.map (·.length)).sum + ys.length * a.length ≤ 16777216) :
    Ev (tM1 (rJoin K) to te) σ H (.str (Txt.join a ys)) := fun H1 e Q q =>
  h H1 e _ fun H2 e2 => ⟨⟨a, rfl⟩, h2 H2 (e.trans e2) _ fun H3 e3 => ⟨a, p, ys, rfl, rfl, .inl (sq_of (((e.trans e2).trans e3) _ _ hs)), hz, q H3 (e2.trans e3)⟩⟩
end Ww
namespace Ww
open PySem PySem.Spec PyProof.Rows L2
theorem bits_zero : Bits 0 := by
  unfold Bits
  exact Nat.two_pow_pos _
theorem wCell_bits {ns : List Int} (h : ∀ z ∈ ns, Bits z) (i : Int) : Bits (wCell ns i) := by
  unfold wCell
  split
  · rw [List.getD_eq_getElem?_getD]
    cases e : ns[i.toNat]? with
    | none => exact bits_zero
    | some z => exact h z (List.mem_of_getElem? e)
  · exact bits_zero
end Ww
namespace Ww
open PySem PySem.Spec PyProof.Rows L2
open Evl
section
variable {K : PySem.W.Frag} {σ : L2.St} {H H' : Hp} {ta tb te tl : TE} {tr : TA} {P : V → Hp → Prop} {D : Ends} {tu tz : TS}
theorem ex_call {sp : Sp} {dvs vs : List V} {E : XK} {tr : TA} (h : EvA tr σ H vs) (hs : ∀ H1, Ex H H1 → ∀ Q : VK, (∀ v H2, Ex H1 H2 → P v H2 → Q v H2) → ∀ E : XK, sp (vs ++ dvs) H1 Q E) : EvX (tCall sp dvs E tr) σ H P := fun H1 e Q q =>
  h H1 e _ fun H2 e2 => hs H2 (e.trans e2) Q (fun v H3 e3 p => q v H3 (e2.trans e3) p) E
/-- for x in a list whose items have a property; each turn makes the heap greater -/
theorem q_forX {n j : Nat} (h : EvX tl σ H (IsL n P)) (m : Mono P) (Pv : Nat → L2.St → Hp → Prop) (h0 : ∀ H1, Ex H H1 → Pv 0 σ H1)
    (hs : ∀ i x σ' H', i < n → P x H' → Pv i σ' H' → ∀ N : L2.St → Hp → Prop, (∀ σ2 H2, Ex H' H2 → Pv (i + 1) σ2 H2 → N σ2 H2) → tu { D with nx := N, ct := N, bk := tz D } (σ'.set j (some x)) H')
    (hd : ∀ σ' H', Pv n σ' H' → tz D σ' H') : tSeq (tFor (iList K tl) (gName j) tu) tz D σ H := h H (Ex.refl H) _ fun v H1 e p => by
  obtain ⟨a, xs, rfl, ha, hl, hP⟩ := p
  refine ⟨a, rfl, ⟨xs, sq_of ha⟩, for_list (xs := xs) (fun i σ' H' => Ex H1 H' ∧ Pv i σ' H') ⟨Ex.refl _, h0 H1 e⟩ (fun i σ' H' _ p => sq_of (p.1 _ _ ha)) (fun i x σ' H' hi p => ?_) (fun σ' H' p => ?_)⟩
  · obtain ⟨hx, _⟩ := List.getElem?_eq_some_iff.mp hi
    refine hs i x σ' H' (by omega) (m _ _ _ p.1 (hP x (List.mem_of_getElem? hi))) p.2 _ fun σ2 H2 e2 p2 => ⟨p.1.trans e2, p2⟩
  · rw [hl] at p
    exact hd σ' H' p.2
end
end Ww
namespace Ww
open L2
theorem nxt {D : Ends} {σ : L2.St} {H : Hp} (h : D.nx σ H) : tNext D σ H := h
end Ww
namespace My
open PySem PySem.Spec PyProof.Rows L2 Ww
open Evl (Ex)
def top (i : Nat) : Stmt := PySem.Challenge.pw_weighwords_k02_reckoned.main.body.getD i (.Pass ⟨0, 0, 0, 0⟩)
abbrev s_share : Stmt := top 11
abbrev s_plus : Stmt := top 12
abbrev s_less : Stmt := top 13
abbrev s_times : Stmt := top 14
abbrev s_over : Stmt := top 15
abbrev s_l_cell_at : Stmt := top 17
abbrev s_l_whole : Stmt := top 18
abbrev s_l_common : Stmt := top 19
abbrev s_l_share : Stmt := top 20
abbrev s_l_is : Stmt := top 21
abbrev s_l_number : Stmt := top 22
abbrev s_l_word_of : Stmt := top 23
abbrev s_l_over : Stmt := top 24
abbrev s_l_quotient : Stmt := top 25
abbrev s_law : Stmt := top 26
abbrev N_share : List Str := ["top", "bottom", "common"]
theorem sc_share : FnScope N_share ["top", "bottom"] (defScope s_share) := ⟨rfl, rfl, rfl, by decide +kernel, rfl, by decide +kernel, by decide +kernel⟩
abbrev N_plus : List Str := ["one", "other"]
theorem sc_plus : FnScope N_plus ["one", "other"] (defScope s_plus) := ⟨rfl, rfl, rfl, by decide +kernel, rfl, by decide +kernel, by decide +kernel⟩
abbrev N_less : List Str := ["one", "other"]
theorem sc_less : FnScope N_less ["one", "other"] (defScope s_less) := ⟨rfl, rfl, rfl, by decide +kernel, rfl, by decide +kernel, by decide +kernel⟩
abbrev N_times : List Str := ["one", "other"]
theorem sc_times : FnScope N_times ["one", "other"] (defScope s_times) := ⟨rfl, rfl, rfl, by decide +kernel, rfl, by decide +kernel, by decide +kernel⟩
abbrev N_over : List Str := ["one", "other"]
theorem sc_over : FnScope N_over ["one", "other"] (defScope s_over) := ⟨rfl, rfl, rfl, by decide +kernel, rfl, by decide +kernel, by decide +kernel⟩
abbrev N_l_cell_at : List Str := ["_law_script", "_law_k"]
theorem sc_l_cell_at : FnScope N_l_cell_at ["_law_script", "_law_k"] (defScope s_l_cell_at) := ⟨rfl, rfl, rfl, by decide +kernel, rfl, by decide +kernel, by decide +kernel⟩
abbrev N_l_whole : List Str := ["_law_found"]
theorem sc_l_whole : FnScope N_l_whole ["_law_found"] (defScope s_l_whole) := ⟨rfl, rfl, rfl, by decide +kernel, rfl, by decide +kernel, by decide +kernel⟩
abbrev N_l_common : List Str := ["_law_one", "_law_other"]
theorem sc_l_common : FnScope N_l_common ["_law_one", "_law_other"] (defScope s_l_common) := ⟨rfl, rfl, rfl, by decide +kernel, rfl, by decide +kernel, by decide +kernel⟩
abbrev N_l_share : List Str := ["_law_top", "_law_bottom", "_law_common_here"]
theorem sc_l_share : FnScope N_l_share ["_law_top", "_law_bottom"] (defScope s_l_share) := ⟨rfl, rfl, rfl, by decide +kernel, rfl, by decide +kernel, by decide +kernel⟩
abbrev N_l_is : List Str := ["_law_found", "_law_due"]
theorem sc_l_is : FnScope N_l_is ["_law_found", "_law_due"] (defScope s_l_is) := ⟨rfl, rfl, rfl, by decide +kernel, rfl, by decide +kernel, by decide +kernel⟩
abbrev N_l_number : List Str := ["_law_cell"]
theorem sc_l_number : FnScope N_l_number ["_law_cell"] (defScope s_l_number) := ⟨rfl, rfl, rfl, by decide +kernel, rfl, by decide +kernel, by decide +kernel⟩
abbrev N_l_word_of : List Str := ["_law_e", "_law_found"]
theorem sc_l_word_of : FnScope N_l_word_of ["_law_e"] (defScope s_l_word_of) := ⟨rfl, rfl, rfl, by decide +kernel, rfl, by decide +kernel, by decide +kernel⟩
abbrev N_l_over : List Str := ["_law_one", "_law_other", "_law_e"]
theorem sc_l_over : FnScope N_l_over ["_law_one", "_law_other"] (defScope s_l_over) := ⟨rfl, rfl, rfl, by decide +kernel, rfl, by decide +kernel, by decide +kernel⟩
abbrev N_l_quotient : List Str := ["_law_one", "_law_other", "_law_top"]
theorem sc_l_quotient : FnScope N_l_quotient ["_law_one", "_law_other"] (defScope s_l_quotient) := ⟨rfl, rfl, rfl, by decide +kernel, rfl, by decide +kernel, by decide +kernel⟩
abbrev N_law : List Str := ["_law_script", "_law_cells", "_law_one", "_law_other", "_law_bottom", "_law_k"]
theorem sc_law : FnScope N_law ["_law_script"] (defScope s_law) := ⟨rfl, rfl, rfl, by decide +kernel, rfl, by decide +kernel, by decide +kernel⟩
structure Txt (K : PySem.W.Frag) (mg : Str → Option Value) where
  f_share : Addr
  fd_share : FuncData
  F_share : Fun K "share" "share" s_share f_share fd_share
  b_share : Binds K fd_share ["top", "bottom"] []
  m_share : mg "share" = some (.ref f_share)
  f_plus : Addr
  fd_plus : FuncData
  F_plus : Fun K "plus" "plus" s_plus f_plus fd_plus
  b_plus : Binds K fd_plus ["one", "other"] []
  m_plus : mg "plus" = some (.ref f_plus)
  f_less : Addr
  fd_less : FuncData
  F_less : Fun K "less" "less" s_less f_less fd_less
  b_less : Binds K fd_less ["one", "other"] []
  m_less : mg "less" = some (.ref f_less)
  f_times : Addr
  fd_times : FuncData
  F_times : Fun K "times" "times" s_times f_times fd_times
  b_times : Binds K fd_times ["one", "other"] []
  m_times : mg "times" = some (.ref f_times)
  f_over : Addr
  fd_over : FuncData
  F_over : Fun K "over" "over" s_over f_over fd_over
  b_over : Binds K fd_over ["one", "other"] []
  m_over : mg "over" = some (.ref f_over)
  f_l_cell_at : Addr
  fd_l_cell_at : FuncData
  F_l_cell_at : Fun K "_law_cell_at" "_law_cell_at" s_l_cell_at f_l_cell_at fd_l_cell_at
  b_l_cell_at : Binds K fd_l_cell_at ["_law_script", "_law_k"] []
  m_l_cell_at : mg "_law_cell_at" = some (.ref f_l_cell_at)
  f_l_whole : Addr
  fd_l_whole : FuncData
  F_l_whole : Fun K "_law_whole" "_law_whole" s_l_whole f_l_whole fd_l_whole
  b_l_whole : Binds K fd_l_whole ["_law_found"] []
  m_l_whole : mg "_law_whole" = some (.ref f_l_whole)
  f_l_common : Addr
  fd_l_common : FuncData
  F_l_common : Fun K "_law_common" "_law_common" s_l_common f_l_common fd_l_common
  b_l_common : Binds K fd_l_common ["_law_one", "_law_other"] []
  m_l_common : mg "_law_common" = some (.ref f_l_common)
  f_l_share : Addr
  fd_l_share : FuncData
  F_l_share : Fun K "_law_share" "_law_share" s_l_share f_l_share fd_l_share
  b_l_share : Binds K fd_l_share ["_law_top", "_law_bottom"] []
  m_l_share : mg "_law_share" = some (.ref f_l_share)
  f_l_is : Addr
  fd_l_is : FuncData
  F_l_is : Fun K "_law_is" "_law_is" s_l_is f_l_is fd_l_is
  b_l_is : Binds K fd_l_is ["_law_found", "_law_due"] []
  m_l_is : mg "_law_is" = some (.ref f_l_is)
  f_l_number : Addr
  fd_l_number : FuncData
  F_l_number : Fun K "_law_number" "_law_number" s_l_number f_l_number fd_l_number
  b_l_number : Binds K fd_l_number ["_law_cell"] []
  m_l_number : mg "_law_number" = some (.ref f_l_number)
  f_l_word_of : Addr
  fd_l_word_of : FuncData
  F_l_word_of : Fun K "_law_word_of" "_law_word_of" s_l_word_of f_l_word_of fd_l_word_of
  b_l_word_of : Binds K fd_l_word_of ["_law_e"] []
  m_l_word_of : mg "_law_word_of" = some (.ref f_l_word_of)
  f_l_over : Addr
  fd_l_over : FuncData
  F_l_over : Fun K "_law_over" "_law_over" s_l_over f_l_over fd_l_over
  b_l_over : Binds K fd_l_over ["_law_one", "_law_other"] []
  m_l_over : mg "_law_over" = some (.ref f_l_over)
  f_l_quotient : Addr
  fd_l_quotient : FuncData
  F_l_quotient : Fun K "_law_quotient" "_law_quotient" s_l_quotient f_l_quotient fd_l_quotient
  b_l_quotient : Binds K fd_l_quotient ["_law_one", "_law_other"] []
  m_l_quotient : mg "_law_quotient" = some (.ref f_l_quotient)
  f_law : Addr
  fd_law : FuncData
  F_law : Fun K "law" "law" s_law f_law fd_law
  b_law : Binds K fd_law ["_law_script"] []
  m_law : mg "law" = some (.ref f_law)
  n_len : mg "len" = none
  n_isinstance : mg "isinstance" = none
  n_int : mg "int" = none
  n_bool : mg "bool" = none
  n_abs : mg "abs" = none
  n_tuple : mg "tuple" = none
  n_ValueError : mg "ValueError" = none
  n_max : mg "max" = none
  n_range : mg "range" = none
  g_gcd : mg "gcd" = some (.builtin "math.gcd")
  c_WeighError : Addr
  mc_WeighError : mg "WeighError" = some (.ref c_WeighError)
  c_Nought : Addr
  mc_Nought : mg "Nought" = some (.ref c_Nought)
  x_Nought : PySem.W.excIn K c_Nought [.type "ValueError", .type "Exception", .type "BaseException", .type "object"] "ValueError.__new__" = true
  k_Nought : PySem.W.keepIn K (.ref c_Nought) = true
  sB_Nought : PySem.W.subIn K (.ref c_Nought) (.type "BaseException") = some true
  tB_Nought : PySem.W.typeIn K (.ref c_Nought) = some (.type "type")
  c_NoText : Addr
  mc_NoText : mg "NoText" = some (.ref c_NoText)
  c_NoRow : Addr
  mc_NoRow : mg "NoRow" = some (.ref c_NoRow)
  c_NoMachine : Addr
  mc_NoMachine : mg "NoMachine" = some (.ref c_NoMachine)
  c_NoWord : Addr
  mc_NoWord : mg "NoWord" = some (.ref c_NoWord)
  c_OtherSigns : Addr
  mc_OtherSigns : mg "OtherSigns" = some (.ref c_OtherSigns)
  c_TooMany : Addr
  mc_TooMany : mg "TooMany" = some (.ref c_TooMany)
section
variable {P : Program} {w : World} {K : PySem.W.Frag} {mg : Str → Option Value} {base : Heap}

def sp_share (C : Addr) : Sp := fun vs H Q E => ∃ a b, vs = [.int a, .int b] ∧ (b.natAbs < 2 ^ 9000) ∧ (b = 0 → E (.ref C) none H) ∧ (b ≠ 0 → ∀ p H', H p = none → Ex H H' → H' p = some (.tup [.int (shT a b), .int (shBt a b)]) → Q (.ref p) H')
theorem ok_share (T : Txt K mg) : FnOk P w K mg base (L2.CX P w) 1 T.f_share T.fd_share ["top", "bottom"] (sp_share T.c_Nought) := by
  refine T.F_share.okX sc_share (fun vs H Q E h => ?_) (fun cdv A outer s H vs Q E hr h => ?_)
  · obtain ⟨a, b, rfl, _⟩ := h
    rfl
  obtain ⟨a, b, rfl, hb, hE, k⟩ := h
  refine ⟨_, (pss_cons (ps_if (pt_cmpR op_eq (pv 1) pe_int (nomark _)) (pss_one (ps_raise rfl (takes_of rfl rfl rfl rfl) (pmk_own PySem.F.excBase_ValueError T.x_Nought T.mc_Nought T.k_Nought (raises_own T.sB_Nought T.tB_Nought) (by rfl)))) pss_nil)
    (pss_cons (ps_set (i := 2) sc_share.nd rfl (Or.inl rfl) (pe_callBfun cr_gcd (by rfl) T.g_gcd (pa_cons (pv 0) (pa_cons (pv 1) pa_nil))))
    (pss_cons (ps_if (pt_cmpR op_lt (pv 1) pe_int (nomark _)) (pss_one (ps_set (i := 2) sc_share.nd rfl (Or.inl rfl) (pe_un un_neg (pv 2)))) pss_nil)
    (pss_one (ps_ret (pe_tup (pa_cons (pe_op op_fdivG (pv 0) (pv 2)) (pa_cons (pe_op op_fdivG (pv 1) (pv 2)) pa_nil)))))))), ?_⟩
  refine ⟨_, rfl, rfl, _, rfl, ?_⟩
  by_cases h0 : b = 0
  · refine itT (eqT h0) ?_
    exact hE h0
  · refine itF (eqF h0) ?_
    obtain ⟨c0, bp, _, _, _, _, cb⟩ := share_ok (top := a) h0
    have hc : CDivG a (shC a b) := divG_of c0 (Nat.lt_of_le_of_lt cb hb) (by decide) (Nat.le_refl _)
    have hc2 : CDivG b (shC a b) := hc
    have fin : ∀ c : Int, c = shC a b → ∀ s1 : Option V, tRet (tTup (tCons (tOp (rI CDivG fun i j => V.int (i.fdiv j)) (tVar 0) (tVar 2)) (tCons (tOp (rI CDivG fun i j => V.int (i.fdiv j)) (tVar 1) (tVar 2)) tNil))) { nx := fun _ H' => Q .non H', rt := Q } [some (.int a), some (.int b), some (.int c)] H := by
      intro c e _
      subst e
      refine ⟨_, rfl, _, rfl, _, _, rfl, rfl, hc, _, rfl, _, rfl, _, _, rfl, rfl, hc2, (by show 2 ≤ sizeLine; decide), fun p hp => ?_⟩
      exact k h0 p _ hp (Ex.new hp) upd_same
    refine ⟨_, rfl, _, rfl, a, b, rfl, ?_⟩
    refine ⟨_, rfl, _, _, rfl, rfl, _, rfl, ?_⟩
    by_cases hn : b < 0
    · refine itT (decide_eq_true hn) ?_
      refine ⟨_, rfl, _, rfl, ?_⟩
      exact fin _ (by unfold shC; rw [if_pos hn]; rfl) none
    · refine itF (decide_eq_false hn) ?_
      exact fin _ (by unfold shC; rw [if_neg hn]; rfl) none

/-- a share of two known numbers, handed in at an address -/
def Sh (K : PySem.W.Frag) (H : Hp) (x : V) (a b : Int) : Prop := ∃ p, x = .ref p ∧ SqT K H p [.int a, .int b]
def Sz (n : Int) : Prop := n.natAbs < 2 ^ 4000
theorem sz_mul {a b : Int} (ha : Sz a) (hb : Sz b) : CMulG a b ∧ (a * b).natAbs < 2 ^ 8000 := by
  refine ⟨mulG_of ha hb (by decide) (by decide) (by decide), ?_⟩
  rw [Int.natAbs_mul, show (8000 : Nat) = 4000 + 4000 from rfl, Nat.pow_add]
  exact Nat.mul_lt_mul'' ha hb
theorem pow_9000 {n : Nat} (h : n < 2 ^ 8000) : n < 2 ^ 9000 := Nat.lt_of_lt_of_le h (Nat.pow_le_pow_right (by decide) (by decide))
/-- what is told: the share of top by bottom, new -/
def RetSh (a b : Int) (H : Hp) (Q : VK) : Prop := ∀ p H', H p = none → Ex H H' → H' p = some (.tup [.int (shT a b), .int (shBt a b)]) → Q (.ref p) H'
def sp_bin (K : PySem.W.Frag) (f g : Int → Int → Int → Int → Int) : Sp := fun vs H Q _ => ∃ x y a b c d, vs = [x, y] ∧ Sh K H x a b ∧ Sh K H y c d ∧ 0 < b ∧ 0 < d ∧ Sz a ∧ Sz b ∧ Sz c ∧ Sz d ∧ RetSh (f a b c d) (g a b c d) H Q
theorem ok_plus (T : Txt K mg) : FnOk P w K mg base (L2.CX P w) 2 T.f_plus T.fd_plus ["one", "other"] (sp_bin K (fun a b c d => a * d + c * b) (fun _ b _ d => b * d)) := by
  have G_share := ok_share (P := P) (w := w) (base := base) T
  refine T.F_plus.okN sc_plus (fun vs H Q E h => ?_) (fun cdv A outer s H vs Q E hr h => ?_)
  · obtain ⟨_, _, a, b, c, d, rfl, _⟩ := h
    rfl
  obtain ⟨_, _, a, b, c, d, rfl, ⟨p, rfl, hp⟩, ⟨q, rfl, hq⟩, b0, d0, sa, sb, sc, sd, k⟩ := h
  refine ⟨_, (pss_one (ps_ret (pe_call G_share (hr.mono (by decide)) (by rfl) T.m_share T.F_share.kp T.b_share .nil passL (pa_cons (pe_op op_add (pe_op op_mulG (pe_ix ix_tup (pv 0) pe_int (fun _ _ => rfl)) (pe_ix ix_tup (pv 1) pe_int (fun _ _ => rfl))) (pe_op op_mulG (pe_ix ix_tup (pv 1) pe_int (fun _ _ => rfl)) (pe_ix ix_tup (pv 0) pe_int (fun _ _ => rfl)))) (pa_cons (pe_op op_mulG (pe_ix ix_tup (pv 0) pe_int (fun _ _ => rfl)) (pe_ix ix_tup (pv 1) pe_int (fun _ _ => rfl))) pa_nil))))), ?_⟩
  refine ⟨_, rfl, p, _, 0, _, rfl, rfl, hp, rfl, _, rfl, q, _, 1, _, rfl, rfl, hq, rfl, _, _, rfl, rfl, (sz_mul sa sd).1, ?_⟩
  refine ⟨_, rfl, q, _, 0, _, rfl, rfl, hq, rfl, _, rfl, p, _, 1, _, rfl, rfl, hp, rfl, _, _, rfl, rfl, (sz_mul sc sb).1, _, _, rfl, rfl, ?_⟩
  refine ⟨_, rfl, p, _, 1, _, rfl, rfl, hp, rfl, _, rfl, q, _, 1, _, rfl, rfl, hq, rfl, _, _, rfl, rfl, (sz_mul sb sd).1, ?_⟩
  refine ⟨_, _, rfl, pow_9000 (sz_mul sb sd).2, fun z => ?_, fun _ => k⟩
  have := Int.mul_pos b0 d0
  omega
theorem ok_less (T : Txt K mg) : FnOk P w K mg base (L2.CX P w) 2 T.f_less T.fd_less ["one", "other"] (sp_bin K (fun a b c d => a * d - c * b) (fun _ b _ d => b * d)) := by
  have G_share := ok_share (P := P) (w := w) (base := base) T
  refine T.F_less.okN sc_less (fun vs H Q E h => ?_) (fun cdv A outer s H vs Q E hr h => ?_)
  · obtain ⟨_, _, a, b, c, d, rfl, _⟩ := h
    rfl
  obtain ⟨_, _, a, b, c, d, rfl, ⟨p, rfl, hp⟩, ⟨q, rfl, hq⟩, b0, d0, sa, sb, sc, sd, k⟩ := h
  refine ⟨_, (pss_one (ps_ret (pe_call G_share (hr.mono (by decide)) (by rfl) T.m_share T.F_share.kp T.b_share .nil passL (pa_cons (pe_op op_sub (pe_op op_mulG (pe_ix ix_tup (pv 0) pe_int (fun _ _ => rfl)) (pe_ix ix_tup (pv 1) pe_int (fun _ _ => rfl))) (pe_op op_mulG (pe_ix ix_tup (pv 1) pe_int (fun _ _ => rfl)) (pe_ix ix_tup (pv 0) pe_int (fun _ _ => rfl)))) (pa_cons (pe_op op_mulG (pe_ix ix_tup (pv 0) pe_int (fun _ _ => rfl)) (pe_ix ix_tup (pv 1) pe_int (fun _ _ => rfl))) pa_nil))))), ?_⟩
  refine ⟨_, rfl, p, _, 0, _, rfl, rfl, hp, rfl, _, rfl, q, _, 1, _, rfl, rfl, hq, rfl, _, _, rfl, rfl, (sz_mul sa sd).1, ?_⟩
  refine ⟨_, rfl, q, _, 0, _, rfl, rfl, hq, rfl, _, rfl, p, _, 1, _, rfl, rfl, hp, rfl, _, _, rfl, rfl, (sz_mul sc sb).1, _, _, rfl, rfl, ?_⟩
  refine ⟨_, rfl, p, _, 1, _, rfl, rfl, hp, rfl, _, rfl, q, _, 1, _, rfl, rfl, hq, rfl, _, _, rfl, rfl, (sz_mul sb sd).1, ?_⟩
  refine ⟨_, _, rfl, pow_9000 (sz_mul sb sd).2, fun z => ?_, fun _ => k⟩
  have := Int.mul_pos b0 d0
  omega
theorem ok_times (T : Txt K mg) : FnOk P w K mg base (L2.CX P w) 2 T.f_times T.fd_times ["one", "other"] (sp_bin K (fun a _ c _ => a * c) (fun _ b _ d => b * d)) := by
  have G_share := ok_share (P := P) (w := w) (base := base) T
  refine T.F_times.okN sc_times (fun vs H Q E h => ?_) (fun cdv A outer s H vs Q E hr h => ?_)
  · obtain ⟨_, _, a, b, c, d, rfl, _⟩ := h
    rfl
  obtain ⟨_, _, a, b, c, d, rfl, ⟨p, rfl, hp⟩, ⟨q, rfl, hq⟩, b0, d0, sa, sb, sc, sd, k⟩ := h
  refine ⟨_, (pss_one (ps_ret (pe_call G_share (hr.mono (by decide)) (by rfl) T.m_share T.F_share.kp T.b_share .nil passL (pa_cons (pe_op op_mulG (pe_ix ix_tup (pv 0) pe_int (fun _ _ => rfl)) (pe_ix ix_tup (pv 1) pe_int (fun _ _ => rfl))) (pa_cons (pe_op op_mulG (pe_ix ix_tup (pv 0) pe_int (fun _ _ => rfl)) (pe_ix ix_tup (pv 1) pe_int (fun _ _ => rfl))) pa_nil))))), ?_⟩
  refine ⟨_, rfl, p, _, 0, _, rfl, rfl, hp, rfl, _, rfl, q, _, 0, _, rfl, rfl, hq, rfl, _, _, rfl, rfl, (sz_mul sa sc).1, ?_⟩
  refine ⟨_, rfl, p, _, 1, _, rfl, rfl, hp, rfl, _, rfl, q, _, 1, _, rfl, rfl, hq, rfl, _, _, rfl, rfl, (sz_mul sb sd).1, ?_⟩
  refine ⟨_, _, rfl, pow_9000 (sz_mul sb sd).2, fun z => ?_, fun _ => k⟩
  have := Int.mul_pos b0 d0
  omega
def sp_over (K : PySem.W.Frag) (C : Addr) : Sp := fun vs H Q E => ∃ x y a b c d, vs = [x, y] ∧ Sh K H x a b ∧ Sh K H y c d ∧ 0 < b ∧ 0 < d ∧ Sz a ∧ Sz b ∧ Sz c ∧ Sz d ∧ (c = 0 → E (.ref C) none H) ∧ (c ≠ 0 → RetSh (a * d) (b * c) H Q)
theorem ok_over (T : Txt K mg) : FnOk P w K mg base (L2.CX P w) 2 T.f_over T.fd_over ["one", "other"] (sp_over K T.c_Nought) := by
  have G_share := ok_share (P := P) (w := w) (base := base) T
  refine T.F_over.okX sc_over (fun vs H Q E h => ?_) (fun cdv A outer s H vs Q E hr h => ?_)
  · obtain ⟨_, _, a, b, c, d, rfl, _⟩ := h
    rfl
  obtain ⟨_, _, a, b, c, d, rfl, ⟨p, rfl, hp⟩, ⟨q, rfl, hq⟩, b0, d0, sa, sb, sc, sd, kE, k⟩ := h
  refine ⟨_, (pss_cons (ps_if (pt_cmpR op_eq (pe_ix ix_tup (pv 1) pe_int (fun _ _ => rfl)) pe_int (nomark _)) (pss_one (ps_raise rfl (takes_of rfl rfl rfl rfl) (pmk_own PySem.F.excBase_ValueError T.x_Nought T.mc_Nought T.k_Nought (raises_own T.sB_Nought T.tB_Nought) (by rfl)))) pss_nil)
    (pss_one (ps_ret (pe_callS G_share (hr.mono (by decide)) (by rfl) T.m_share T.F_share.kp T.b_share (fun σ => passAt (takes_of rfl rfl rfl rfl) σ) (pa_cons (pe_op op_mulG (pe_ix ix_tup (pv 0) pe_int (fun _ _ => rfl)) (pe_ix ix_tup (pv 1) pe_int (fun _ _ => rfl))) (pa_cons (pe_op op_mulG (pe_ix ix_tup (pv 0) pe_int (fun _ _ => rfl)) (pe_ix ix_tup (pv 1) pe_int (fun _ _ => rfl))) pa_nil)))))), ?_⟩
  refine ⟨_, rfl, q, _, 0, _, rfl, rfl, hq, rfl, rfl, _, rfl, ?_⟩
  by_cases c0 : c = 0
  · refine itT (eqT c0) ?_
    exact kE c0
  refine itF (eqF c0) ?_
  refine ⟨_, rfl, p, _, 0, _, rfl, rfl, hp, rfl, _, rfl, q, _, 1, _, rfl, rfl, hq, rfl, _, _, rfl, rfl, (sz_mul sa sd).1, ?_⟩
  refine ⟨_, rfl, p, _, 1, _, rfl, rfl, hp, rfl, _, rfl, q, _, 0, _, rfl, rfl, hq, rfl, _, _, rfl, rfl, (sz_mul sb sc).1, ?_⟩
  refine ⟨_, _, rfl, pow_9000 (sz_mul sb sc).2, fun z => ?_, fun _ => k c0⟩
  rcases Int.mul_eq_zero.mp z with h | h
  · omega
  · exact absurd h c0
def sp_l_cell_at (K : PySem.W.Frag) : Sp := fun vs H Q _ => ∃ a ns k, vs = [.ref a, .int k] ∧ SqL K H a (ns.map V.int) ∧ 0 ≤ k ∧ ∀ H', Ex H H' → Q (.int (wCell ns k)) H'
theorem ok_l_cell_at (T : Txt K mg) : FnOk P w K mg base (L2.CX P w) 1 T.f_l_cell_at T.fd_l_cell_at ["_law_script", "_law_k"] (sp_l_cell_at K) := by
  refine T.F_l_cell_at.okN sc_l_cell_at (fun vs H Q E h => ?_) (fun cdv A outer s H vs Q E hr h => ?_)
  · obtain ⟨x, n, k, rfl, _⟩ := h
    rfl
  obtain ⟨a, ns, k, rfl, hs, h0, q⟩ := h
  refine ⟨_, (pss_cons (ps_if (pt_cmpR op_lt (pv 1) (pe_callB call_len (by rfl) T.n_len (by decide +kernel) (pa_cons (pv 0) pa_nil)) (nomark _)) (pss_one (ps_ret (pe_ix ix_list (pv 0) (pv 1) (fun _ _ => rfl)))) pss_nil)
    (pss_one (ps_ret pe_int))), ?_⟩
  refine ⟨_, rfl, _, rfl, _, _, rfl, .inl ⟨_, hs, rfl⟩, _, _, rfl, rfl, _, rfl, ?_⟩
  by_cases hk : k < (ns.length : Int)
  · refine itT (decide_eq_true (by rw [List.length_map]; exact hk)) ?_
    have hn : k.toNat < ns.length := by omega
    refine ⟨_, rfl, _, rfl, a, _, k, _, rfl, rfl, hs, at_of (j := k.toNat) (v := .int (ns.getD k.toNat 0)) (by omega) ?_, ?_⟩
    · rw [List.getElem?_map, List.getElem?_eq_getElem hn, List.getD_eq_getElem?_getD, List.getElem?_eq_getElem hn]
      rfl
    · have z := q H (Ex.refl H)
      unfold wCell at z
      rw [if_pos hk] at z
      exact z
  · refine itF (decide_eq_false (by rw [List.length_map]; exact hk)) ?_
    have z := q H (Ex.refl H)
    unfold wCell at z
    rw [if_neg hk] at z
    exact z
def sp_l_whole (K : PySem.W.Frag) : Sp := fun vs H Q _ => ∃ x n, vs = [x] ∧ TyB K H x n ∧ isTy n = true ∧ ∀ H', Ex H H' → Q (.bl (decide (n = "int"))) H'
theorem ok_l_whole (T : Txt K mg) : FnOk P w K mg base (L2.CX P w) 1 T.f_l_whole T.fd_l_whole ["_law_found"] (sp_l_whole K) := by
  refine T.F_l_whole.okN sc_l_whole (fun vs H Q E h => ?_) (fun cdv A outer s H vs Q E hr h => ?_)
  · obtain ⟨x, n, rfl, _⟩ := h
    rfl
  obtain ⟨x, n, rfl, hty, hi, k⟩ := h
  refine ⟨_, (pss_one (ps_ret (pe_and (pe_callB call_isi (by rfl) T.n_isinstance (by decide +kernel) (pa_cons (pv 0) (pa_cons (pe_bltn (v := .ty "int") (by rfl) T.n_int (by decide +kernel) rfl) pa_nil))) (pe_one (pe_not (pe_callB call_isi (by rfl) T.n_isinstance (by decide +kernel) (pa_cons (pv 0) (pa_cons (pe_bltn (v := .ty "bool") (by rfl) T.n_bool (by decide +kernel) rfl) pa_nil)))))))), ?_⟩
  refine ⟨_, rfl, _, _, _, _, _, rfl, .ty "int", tyx_of_b hty, kit_ty (isI_int hi), ?_⟩
  refine ⟨_, rfl, ?_⟩
  by_cases h1 : n = "int" ∨ n = "bool"
  · refine itT (decide_eq_true h1) ?_
    refine ⟨_, rfl, _, _, _, _, _, rfl, .ty "bool", tyx_of_b hty, kit_ty (isI_bool hi), ?_⟩
    refine ⟨_, rfl, ?_⟩
    have e : (!decide (n = "bool")) = decide (n = "int") := by
      rcases h1 with z | z <;> subst z <;> decide
    rw [e]
    exact k H (Ex.refl H)
  · refine itF (decide_eq_false h1) ?_
    rw [decide_eq_false (fun z => h1 (.inl z))] at k
    exact k H (Ex.refl H)
def sp_l_common : Sp := fun vs H Q _ => ∃ a b, vs = [.int a, .int b] ∧ 0 ≤ a ∧ 0 ≤ b ∧ ∀ H', Ex H H' → Q (.int (gcdI a b)) H'
theorem ok_l_common (T : Txt K mg) : FnOk P w K mg base (L2.CX P w) 1 T.f_l_common T.fd_l_common ["_law_one", "_law_other"] sp_l_common := by
  refine T.F_l_common.okN sc_l_common (fun vs H Q E h => ?_) (fun cdv A outer s H vs Q E hr h => ?_)
  · obtain ⟨a, b, rfl, _⟩ := h
    rfl
  obtain ⟨a, b, rfl, h0, h1, k⟩ := h
  refine ⟨_, (pss_cons (ps_while PassesOwn.never (pt_cmpR op_gt (pv 1) pe_int (nomark _)) (pss_one (ps_par (i := 0) (j := 1) (by rfl) sc_l_common.nd rfl rfl (by decide) rfl rfl (pa_cons (pv 1) (pa_cons (pe_op op_mod (pv 0) (pv 1)) pa_nil)) (by rfl))))
    (pss_one (ps_ret (pv 0)))), ?_⟩
  refine Evl.q_while (fun m σ' H' => ∃ x y, σ' = [some (.int x), some (.int y)] ∧ 0 ≤ x ∧ 0 ≤ y ∧ gcdI x y = gcdI a b ∧ Ex H H' ∧ m = y.toNat) b.toNat ⟨a, b, rfl, h0, h1, rfl, Ex.refl H, rfl⟩ ?_
  rintro m σ' H' ⟨x, y, rfl, hx, hy, e, eH, rfl⟩
  refine ⟨decide (0 < y), Evl.et_test (Evl.ev_op (Evl.ev_var rfl) Evl.ev_c Evl.rv_I0), fun c H1 e1 => ?_, fun c H1 e1 => ?_⟩
  · have c' : 0 < y := of_decide_eq_true c
    refine ⟨_, fun _ _ h => h, ⟨_, rfl, _, rfl, _, rfl, _, _, rfl, rfl, c', _, _, rfl, ?_⟩⟩
    refine ⟨(x % y).toNat, ?_, y, x % y, rfl, hy, Int.emod_nonneg _ (by omega), ?_, eH.trans e1, rfl⟩
    · have := Int.emod_lt_of_pos x c'
      have := Int.emod_nonneg x (show y ≠ 0 by omega)
      omega
    · rw [gcd_step hx c', e]
  · have c' : ¬ 0 < y := of_decide_eq_false c
    have y0 : y = 0 := by omega
    subst y0
    refine ⟨_, rfl, ?_⟩
    have z : x = gcdI a b := by rw [← e, gcd_zero hx]
    rw [z]
    exact k _ (eH.trans e1)
theorem gcdI_abs (a b : Int) : gcdI (if a < 0 then -a else a) b = gcdI a b := by
  unfold gcdI
  have : (if a < 0 then -a else a).natAbs = a.natAbs := by split <;> omega
  rw [this]
theorem shC_pos {a b : Int} (h : 0 < b) : shC a b = gcdI a b := if_neg (by omega)
def sp_l_share : Sp := fun vs H Q _ => ∃ a b, vs = [.int a, .int b] ∧ 0 < b ∧ b.natAbs < 2 ^ 9000 ∧ RetSh a b H Q
theorem ok_l_share (T : Txt K mg) : FnOk P w K mg base (L2.CX P w) 2 T.f_l_share T.fd_l_share ["_law_top", "_law_bottom"] sp_l_share := by
  have G_l_common := ok_l_common (P := P) (w := w) (base := base) T
  refine T.F_l_share.okN sc_l_share (fun vs H Q E h => ?_) (fun cdv A outer s H vs Q E hr h => ?_)
  · obtain ⟨a, b, rfl, _⟩ := h
    rfl
  obtain ⟨a, b, rfl, b0, hb, k⟩ := h
  refine ⟨_, (pss_cons (ps_set (i := 2) sc_l_share.nd rfl (Or.inl rfl) (pe_call G_l_common (hr.mono (by decide)) (by rfl) T.m_l_common T.F_l_common.kp T.b_l_common .nil passL (pa_cons (pe_callB call_abs (by rfl) T.n_abs (by decide +kernel) (pa_cons (pv 0) pa_nil)) (pa_cons (pv 1) pa_nil))))
    (pss_one (ps_ret (pe_tup (pa_cons (pe_op op_fdivG (pv 0) (pv 2)) (pa_cons (pe_op op_fdivG (pv 1) (pv 2)) pa_nil)))))), ?_⟩
  obtain ⟨c0, _, _, _, _, _, cb⟩ := share_ok (top := a) (bottom := b) (by omega)
  have hc : CDivG a (shC a b) := divG_of c0 (Nat.lt_of_le_of_lt cb hb) (by decide) (Nat.le_refl _)
  have hc2 : CDivG b (shC a b) := hc
  refine ⟨_, rfl, _, rfl, _, rfl, _, _, rfl, (by split <;> omega), (by omega), fun H1 e1 => ?_⟩
  rw [gcdI_abs, ← shC_pos b0]
  refine ⟨_, rfl, _, rfl, _, _, rfl, rfl, hc, _, rfl, _, rfl, _, _, rfl, rfl, hc2, (by show 2 ≤ sizeLine; decide), fun p hp => ?_⟩
  exact k p _ (Evl.fresh_back e1 hp) (e1.trans (Ex.new hp)) upd_same
def sp_l_is (K : PySem.W.Frag) : Sp := fun vs H Q _ => ∃ x y p q u v, vs = [x, y] ∧ Sh K H x p q ∧ Sh K H y u v ∧ ∀ H', Ex H H' → Q (.bl (decide (p = u ∧ q = v))) H'
theorem eqv_two (p q u v : Int) : PyData.eqv (.tuple [.int p, .int q]) (.tuple [.int u, .int v]) = decide (p = u ∧ q = v) := by
  show (p == u && (q == v && true)) = _
  rw [Bool.and_true, Bool.beq_eq_decide_eq, Bool.beq_eq_decide_eq, Bool.decide_and]
theorem ok_l_is (T : Txt K mg) : FnOk P w K mg base (L2.CX P w) 2 T.f_l_is T.fd_l_is ["_law_found", "_law_due"] (sp_l_is K) := by
  have G_l_whole := ok_l_whole (P := P) (w := w) (base := base) T
  refine T.F_l_is.okN sc_l_is (fun vs H Q E h => ?_) (fun cdv A outer s H vs Q E hr h => ?_)
  · obtain ⟨_, _, p, q, u, v, rfl, _⟩ := h
    rfl
  obtain ⟨_, _, p, q, u, v, rfl, ⟨x, rfl, hx⟩, ⟨y, rfl, hy⟩, k⟩ := h
  refine ⟨_, (pss_cons (ps_if (PW.pt (pw_or (pt_not (pt_val (pe_callB call_isi (by rfl) T.n_isinstance (by decide +kernel) (pa_cons (pv 0) (pa_cons (pe_bltn (v := .ty "tuple") (by rfl) T.n_tuple (by decide +kernel) rfl) pa_nil))))) (pw_or (pt_cmpR op_ne (pe_callB call_len (by rfl) T.n_len (by decide +kernel) (pa_cons (pv 0) pa_nil)) pe_int (nomark _)) (pw_or (pt_not (pt_val (pe_call G_l_whole (hr.mono (by decide)) (by rfl) T.m_l_whole T.F_l_whole.kp T.b_l_whole .nil passL (pa_cons (pe_ix ix_tup (pv 0) pe_int (fun _ _ => rfl)) pa_nil)))) (pw_or1 (pt_not (pt_val (pe_call G_l_whole (hr.mono (by decide)) (by rfl) T.m_l_whole T.F_l_whole.kp T.b_l_whole .nil passL (pa_cons (pe_ix ix_tup (pv 0) pe_int (fun _ _ => rfl)) pa_nil))))))))) (pss_one (ps_ret pe_bl)) pss_nil)
    (pss_one (ps_ret (pe_cmpR (op_eqD hr.units) (pv 0) (pv 1) (nomark _))))), ?_⟩
  refine ⟨_, rfl, _, _, _, _, _, rfl, .ty "tuple", tyx_tup hx, kit_ty (isI_tuple (by decide)), ?_⟩
  refine ⟨_, rfl, iteF ?_⟩
  refine ⟨_, rfl, _, _, rfl, .inr ⟨_, hx, rfl⟩, rfl, ⟨_, rfl, itF (neF rfl) ?_⟩⟩
  refine ⟨_, rfl, x, _, 0, _, rfl, rfl, hx, rfl, _, _, rfl, .int _, (by decide), fun H1 e1 => ⟨_, rfl, iteF ?_⟩⟩
  refine ⟨_, rfl, x, _, 1, _, rfl, rfl, Evl.ex_t e1 hx, rfl, _, _, rfl, .int _, (by decide), fun H2 e2 => ⟨_, rfl, iteF ?_⟩⟩
  have e12 := e1.trans e2
  refine ⟨_, rfl, _, rfl, .tuple [.int p, .int q], .tuple [.int u, .int v], .tup (Evl.ex_t e12 hx) (.cons (.int _) (.cons (.int _) .nil)), .tup (Evl.ex_t e12 hy) (.cons (.int _) (.cons (.int _) .nil)), rfl, rfl, ?_⟩
  rw [eqv_two]
  exact k H2 e12
def sp_l_number : Sp := fun vs H Q _ => ∃ c, vs = [.int c] ∧ Bits c ∧ ∀ n H', n.natAbs < big → Ex H H' → Q (.int n) H'
theorem ok_l_number (T : Txt K mg) : FnOk P w K mg base (L2.CX P w) 1 T.f_l_number T.fd_l_number ["_law_cell"] sp_l_number := by
  refine T.F_l_number.okN sc_l_number (fun vs H Q E h => ?_) (fun cdv A outer s H vs Q E hr h => ?_)
  · obtain ⟨c, rfl, _⟩ := h
    rfl
  obtain ⟨c, rfl, hc, k⟩ := h
  refine ⟨_, (pss_cons (ps_if (pt_cmpR op_lt (pe_op op_mod (pv 0) pe_int) pe_int (nomark _)) (pss_one (ps_ret (pe_op op_sub (pe_op op_mod (pe_op op_fdiv (pv 0) pe_int) pe_int) pe_int))) pss_nil)
    (pss_cons (ps_if (pt_cmpR op_eq (pe_op op_mod (pv 0) pe_int) pe_int (nomark _)) (pss_one (ps_ret (pe_ix ix_list (pe_lst (pa_cons (pe_op op_sub (pe_op op_pow pe_int pe_int) pe_int) (pa_cons (pe_op op_sub pe_int (pe_op op_pow pe_int pe_int)) (pa_cons (pe_op op_pow pe_int pe_int) (pa_cons pe_int (pa_cons pe_int pa_nil)))))) (pe_op op_mod (pe_op op_fdiv (pv 0) pe_int) pe_int) (fun _ _ => rfl)))) pss_nil)
    (pss_one (ps_ret (pe_op op_sub (pe_op op_mod (pe_op op_mulG (pe_op op_fdiv (pv 0) pe_int) (pe_op op_pow pe_int pe_int)) (pe_op op_sub (pe_op op_mulG pe_int (pe_op op_pow pe_int pe_int)) pe_int)) (pe_op op_sub (pe_op op_pow pe_int pe_int) pe_int)))))), ?_⟩
  refine ⟨_, rfl, _, _, rfl, rfl, (by show (0 : Int) < 5; decide), _, _, rfl, rfl, _, rfl, ?_⟩
  refine itC (fun c1 => ?_) (fun c1 => ?_)
  · refine ⟨_, rfl, _, _, rfl, rfl, ⟨by decide, by decide⟩, _, _, rfl, rfl, (by show (0 : Int) < 61; decide), _, _, rfl, rfl, ?_⟩
    refine k _ _ (big_small ?_) (Ex.refl H)
    have := Int.emod_nonneg (c / 5) (show (61 : Int) ≠ 0 by decide)
    have := Int.emod_lt_of_pos (c / 5) (show (0 : Int) < 61 by decide)
    show (c / 5 % 61 - 30).natAbs ≤ 1000000
    omega
  refine ⟨_, rfl, _, _, rfl, rfl, (by show (0 : Int) < 5; decide), rfl, _, rfl, ?_⟩
  refine itC (fun c2 => ?_) (fun c2 => ?_)
  · refine s_retX (ex_ixL num_five (Evl.ev_op (Evl.ev_op (Evl.ev_var rfl) Evl.ev_c (Evl.rv_I ⟨by decide, by decide⟩)) Evl.ev_c (Evl.rv_I (by show (0 : Int) < 5; decide))) ?_ ?_ num_mono) ?_
    · exact Int.emod_nonneg _ (by decide)
    · exact Int.emod_lt_of_pos _ (by decide)
    · rintro v H1 e1 ⟨n, rfl, hn⟩
      exact k n H1 hn e1
  · refine ⟨_, rfl, _, _, rfl, rfl, ⟨by decide, by decide⟩, _, _, rfl, rfl, cpow _ _ rfl, _, _, rfl, rfl, mulBits hc, _, _, rfl, rfl, cpow _ _ rfl, _, _, rfl, rfl, ?_⟩
    refine ⟨(by unfold CMulG; decide +kernel : CMulG 2 (10 ^ (60 : Int).toNat)), _, _, rfl, rfl, _, _, rfl, rfl, (by decide +kernel : (0 : Int) < 2 * 10 ^ (60 : Int).toNat - 1), _, _, rfl, rfl, cpow _ _ rfl, _, _, rfl, rfl, _, _, rfl, rfl, ?_⟩
    exact k _ _ (num_last _) (Ex.refl H)
structure KitC (T : Txt K mg) (C : Addr) (b1 b2 b3 b4 b5 b6 b7 : Bool) : Prop where
  e : ExcC K C
  k1 : PySem.W.kitOne K (.ref C) (.ref T.c_Nought) = some b1
  k2 : PySem.W.kitOne K (.ref C) (.ref T.c_NoText) = some b2
  k3 : PySem.W.kitOne K (.ref C) (.ref T.c_NoRow) = some b3
  k4 : PySem.W.kitOne K (.ref C) (.ref T.c_NoMachine) = some b4
  k5 : PySem.W.kitOne K (.ref C) (.ref T.c_NoWord) = some b5
  k6 : PySem.W.kitOne K (.ref C) (.ref T.c_OtherSigns) = some b6
  k7 : PySem.W.kitOne K (.ref C) (.ref T.c_TooMany) = some b7
  k8 : PySem.W.kitOne K (.ref C) (.type "ValueError") = some true
def words (b1 b2 b3 b4 b5 b6 b7 : Bool) : List Str := (pickS b1 "nought" ++ pickS b2 "text") ++ pickS b3 "row" ++ pickS b4 "machine" ++ pickS b5 "word" ++ pickS b6 "signs" ++ pickS b7 "many" ++ pickS (!true) "bare"
def sp_l_word_of (b1 b2 b3 b4 b5 b6 b7 : Bool) : Addr → Sp := fun a vs H Q _ => vs = [.ref a] ∧ ∀ p H', H p = none → Ex H H' → H' p = some (.tup [.str "refused", .str (Txt.join "/" (words b1 b2 b3 b4 b5 b6 b7))]) → Q (.ref p) H'
theorem ok_l_word_of (T : Txt K mg) {C : Addr} {b1 b2 b3 b4 b5 b6 b7 : Bool} (kc : KitC T C b1 b2 b3 b4 b5 b6 b7) : FnZ P w K mg base (L2.CX P w) 1 T.f_l_word_of T.fd_l_word_of ["_law_e"] C (sp_l_word_of b1 b2 b3 b4 b5 b6 b7) := by
  have C' := kc.e
  refine T.F_l_word_of.okZ sc_l_word_of (fun a vs H Q E h => ?_) (fun cdv A outer s H vs Q E p hz hr h => ?_)
  · obtain ⟨rfl, _⟩ := h
    rfl
  obtain ⟨rfl, k⟩ := h
  refine ⟨_, (pss_cons (ps_set (i := 1) sc_l_word_of.nd rfl (Or.inl rfl) (pe_op op_cat (pe_op op_rep (pe_lst (pa_cons pe_str pa_nil)) (pe_callTy call_int1 (by rfl) T.n_int (by decide +kernel) (pa_cons (pe_callB (call_isZ (a := p.1) C' ⟨p.2, hz, List.Mem.head _⟩) (by rfl) T.n_isinstance (by decide +kernel) (pa_cons (pv 0) (pa_cons (pe_glob (v := .ref T.c_Nought) (by rfl) T.mc_Nought rfl) pa_nil))) pa_nil))) (pe_op op_rep (pe_lst (pa_cons pe_str pa_nil)) (pe_callTy call_int1 (by rfl) T.n_int (by decide +kernel) (pa_cons (pe_callB (call_isZ (a := p.1) C' ⟨p.2, hz, List.Mem.head _⟩) (by rfl) T.n_isinstance (by decide +kernel) (pa_cons (pv 0) (pa_cons (pe_glob (v := .ref T.c_NoText) (by rfl) T.mc_NoText rfl) pa_nil))) pa_nil)))))
    (pss_cons (ps_set (i := 1) sc_l_word_of.nd rfl (Or.inl rfl) (pe_op op_cat (pe_op op_cat (pv 1) (pe_op op_rep (pe_lst (pa_cons pe_str pa_nil)) (pe_callTy call_int1 (by rfl) T.n_int (by decide +kernel) (pa_cons (pe_callB (call_isZ (a := p.1) C' ⟨p.2, hz, List.Mem.head _⟩) (by rfl) T.n_isinstance (by decide +kernel) (pa_cons (pv 0) (pa_cons (pe_glob (v := .ref T.c_NoRow) (by rfl) T.mc_NoRow rfl) pa_nil))) pa_nil)))) (pe_op op_rep (pe_lst (pa_cons pe_str pa_nil)) (pe_callTy call_int1 (by rfl) T.n_int (by decide +kernel) (pa_cons (pe_callB (call_isZ (a := p.1) C' ⟨p.2, hz, List.Mem.head _⟩) (by rfl) T.n_isinstance (by decide +kernel) (pa_cons (pv 0) (pa_cons (pe_glob (v := .ref T.c_NoMachine) (by rfl) T.mc_NoMachine rfl) pa_nil))) pa_nil)))))
    (pss_cons (ps_set (i := 1) sc_l_word_of.nd rfl (Or.inl rfl) (pe_op op_cat (pe_op op_cat (pv 1) (pe_op op_rep (pe_lst (pa_cons pe_str pa_nil)) (pe_callTy call_int1 (by rfl) T.n_int (by decide +kernel) (pa_cons (pe_callB (call_isZ (a := p.1) C' ⟨p.2, hz, List.Mem.head _⟩) (by rfl) T.n_isinstance (by decide +kernel) (pa_cons (pv 0) (pa_cons (pe_glob (v := .ref T.c_NoWord) (by rfl) T.mc_NoWord rfl) pa_nil))) pa_nil)))) (pe_op op_rep (pe_lst (pa_cons pe_str pa_nil)) (pe_callTy call_int1 (by rfl) T.n_int (by decide +kernel) (pa_cons (pe_callB (call_isZ (a := p.1) C' ⟨p.2, hz, List.Mem.head _⟩) (by rfl) T.n_isinstance (by decide +kernel) (pa_cons (pv 0) (pa_cons (pe_glob (v := .ref T.c_OtherSigns) (by rfl) T.mc_OtherSigns rfl) pa_nil))) pa_nil)))))
    (pss_cons (ps_set (i := 1) sc_l_word_of.nd rfl (Or.inl rfl) (pe_op op_cat (pe_op op_cat (pv 1) (pe_op op_rep (pe_lst (pa_cons pe_str pa_nil)) (pe_callTy call_int1 (by rfl) T.n_int (by decide +kernel) (pa_cons (pe_callB (call_isZ (a := p.1) C' ⟨p.2, hz, List.Mem.head _⟩) (by rfl) T.n_isinstance (by decide +kernel) (pa_cons (pv 0) (pa_cons (pe_glob (v := .ref T.c_TooMany) (by rfl) T.mc_TooMany rfl) pa_nil))) pa_nil)))) (pe_op op_rep (pe_lst (pa_cons pe_str pa_nil)) (pe_callTy call_int1 (by rfl) T.n_int (by decide +kernel) (pa_cons (pe_not (pe_callB (call_isZ (a := p.1) C' ⟨p.2, hz, List.Mem.head _⟩) (by rfl) T.n_isinstance (by decide +kernel) (pa_cons (pv 0) (pa_cons (pe_bltn (v := .ty "ValueError") (by rfl) T.n_ValueError (by decide +kernel) rfl) pa_nil)))) pa_nil)))))
    (pss_one (ps_ret (pe_tup (pa_cons pe_str (pa_cons (pe_join pe_str (pv 1)) pa_nil))))))))), ?_⟩
  have l1 := pickS_len b1 "nought"
  have l2 := pickS_len b2 "text"
  have l3 := pickS_len b3 "row"
  have l4 := pickS_len b4 "machine"
  have l5 := pickS_len b5 "word"
  have l6 := pickS_len b6 "signs"
  have l7 := pickS_len b7 "many"
  have l8 := pickS_len (!true) "bare"
  have r1 : ∀ {c : Addr} u, L2.RelV (.ref c) u → u = .ref c := fun u h => h
  have lp : ∀ b n, (pick b n).length ≤ 1 := pick_len
  have p1 := lp b1 "nought"
  have p2 := lp b2 "text"
  have p3 := lp b3 "row"
  have p4 := lp b4 "machine"
  have p5 := lp b5 "word"
  have p6 := lp b6 "signs"
  have p7 := lp b7 "many"
  have p8 := lp (!true) "bare"
  refine Evl.q_asgL (el_cat (el_pick rfl r1 kc.k1) (el_pick rfl r1 kc.k2) (by omega)) fun a1 H1 n1 e1 h1 => ?_
  refine Evl.q_asgL (el_cat (el_cat1 (Evl.ev_var rfl) h1 (el_pick rfl r1 kc.k3) (by simp only [List.length_append]; omega)) (el_pick rfl r1 kc.k4) (by simp only [List.length_append]; omega)) fun a2 H2 n2 e2 h2 => ?_
  refine Evl.q_asgL (el_cat (el_cat1 (Evl.ev_var rfl) h2 (el_pick rfl r1 kc.k5) (by simp only [List.length_append]; omega)) (el_pick rfl r1 kc.k6) (by simp only [List.length_append]; omega)) fun a3 H3 n3 e3 h3 => ?_
  refine Evl.q_asgL (el_cat (el_cat1 (Evl.ev_var rfl) h3 (el_pick rfl r1 kc.k7) (by simp only [List.length_append]; omega)) (el_pickN rfl (fun u h => h) kc.k8) (by simp only [List.length_append]; omega)) fun a4 H4 n4 e4 h4 => ?_
  have hw : H4 a4 = some (.lst ((words b1 b2 b3 b4 b5 b6 b7).map V.str)) := by
    rw [h4]
    unfold words
    simp only [List.map_append, pick_map, List.append_assoc]
  have hz : ((words b1 b2 b3 b4 b5 b6 b7).map (·.length)).sum + (words b1 b2 b3 b4 b5 b6 b7).length * ("/" : Str).length ≤ 16777216 := by
    cases b1 <;> cases b2 <;> cases b3 <;> cases b4 <;> cases b5 <;> cases b6 <;> cases b7 <;> decide +kernel
  refine Evl.s_retU (Evl.eu_tup (Evl.ea_cons Evl.ev_c (Evl.ea_cons (ev_join Evl.ev_c (Evl.ev_var rfl) hw hz) Evl.ea_nil)) (by simp)) fun p H5 n5 e5 h5 => ?_
  exact k p H5 (Evl.fresh_back (((e1.trans e2).trans e3).trans e4) n5) ((((e1.trans e2).trans e3).trans e4).trans e5) h5

def sp_l_over (K : PySem.W.Frag) : Sp := fun vs H Q _ => ∃ x y a b c d, vs = [x, y] ∧ Sh K H x a b ∧ Sh K H y c d ∧ 0 < b ∧ 0 < d ∧ Sz a ∧ Sz b ∧ Sz c ∧ Sz d ∧ (c = 0 → ∀ p H', Ex H H' → H' p = some (.tup [.str "refused", .str "nought"]) → Q (.ref p) H') ∧ (c ≠ 0 → RetSh (a * d) (b * c) H Q)
theorem ok_l_over (T : Txt K mg) (kc : KitC T T.c_Nought true false false false false false false) (eP : PySem.W.exmOne K (.ref T.c_Nought) (.ref T.c_WeighError) = some true) : FnOk P w K mg base (L2.CX P w) 3 T.f_l_over T.fd_l_over ["_law_one", "_law_other"] (sp_l_over K) := by
  have G_over := ok_over (P := P) (w := w) (base := base) T
  have Z_l_word_of := ok_l_word_of (P := P) (w := w) (base := base) T kc
  refine T.F_l_over.okN sc_l_over (fun vs H Q E h => ?_) (fun cdv A outer s H vs Q E hr h => ?_)
  · obtain ⟨_, _, a, b, c, d, rfl, _⟩ := h
    rfl
  obtain ⟨x, y, a, b, c, d, rfl, hx, hy, b0, d0, sa, sb, sc, sd, k0, k⟩ := h
  refine ⟨_, (pss_one (ps_try_as (i := 2) rfl rfl sc_l_over.nd rfl rfl ⟨rfl, by decide, .inl T.mc_WeighError⟩ takes0 (fun W pn xe tk _ => (pss_one (ps_ret (pe_callS G_over (hr.mono (by decide)) (by rfl) T.m_over T.F_over.kp T.b_over (fun σ => passAt tk σ) (pa_cons (pv 0) (pa_cons (pv 1) pa_nil)))))) (fun a oe cls dd pn hz0 hf => (pss_one (ps_ret (pe_callZs hz0 hf Z_l_word_of (hr.mono (by decide)) (by rfl) T.m_l_word_of T.F_l_word_of.kp T.b_l_word_of (pa_cons (pv 2) pa_nil))))))), ?_⟩
  refine ⟨_, rfl, _, rfl, x, y, a, b, c, d, rfl, hx, hy, b0, d0, sa, sb, sc, sd, fun c0 => ?_, fun c0 p H' np e hp => ?_⟩
  · refine ⟨true, eP, fun _ x nx => ?_, fun z => nomatch z⟩
    refine ⟨rfl, rfl, _, rfl, rfl, fun p H' np e hp => ?_⟩
    refine k0 c0 p H' e ?_
    rw [hp, show Txt.join "/" (words true false false false false false false) = ("nought" : Str) by decide +kernel]
  · exact k c0 p H' np e hp
theorem share_neg {a b : Int} (h : b < 0) : shT a b = shT (-a) (-b) ∧ shBt a b = shBt (-a) (-b) := by
  have e1 : shC a b = -(gcdI a b) := if_pos h
  have e2 : shC (-a) (-b) = gcdI a b := by
    unfold shC
    rw [if_neg (by omega)]
    unfold gcdI
    rw [Int.natAbs_neg, Int.natAbs_neg]
  have q : ∀ x g : Int, x.fdiv (-g) = (-x).fdiv g := fun x g => by rw [← Int.neg_fdiv_neg (-x) g, Int.neg_neg]
  unfold shT shBt
  rw [e1, e2]
  exact ⟨q _ _, q _ _⟩
def sp_l_quotient (K : PySem.W.Frag) : Sp := fun vs H Q _ => ∃ x y a b c d, vs = [x, y] ∧ Sh K H x a b ∧ Sh K H y c d ∧ 0 < b ∧ 0 < d ∧ Sz a ∧ Sz b ∧ Sz c ∧ Sz d ∧ c ≠ 0 ∧ RetSh (a * d) (b * c) H Q
theorem ok_l_quotient (T : Txt K mg) : FnOk P w K mg base (L2.CX P w) 3 T.f_l_quotient T.fd_l_quotient ["_law_one", "_law_other"] (sp_l_quotient K) := by
  have G_l_share := ok_l_share (P := P) (w := w) (base := base) T
  refine T.F_l_quotient.okN sc_l_quotient (fun vs H Q E h => ?_) (fun cdv A outer s H vs Q E hr h => ?_)
  · obtain ⟨_, _, a, b, c, d, rfl, _⟩ := h
    rfl
  obtain ⟨_, _, a, b, c, d, rfl, ⟨p, rfl, hp⟩, ⟨q, rfl, hq⟩, b0, d0, sa, sb, sc, sd, c0, k⟩ := h
  refine ⟨_, (pss_cons (ps_set (i := 2) sc_l_quotient.nd rfl (Or.inl rfl) (pe_op op_mulG (pe_ix ix_tup (pv 0) pe_int (fun _ _ => rfl)) (pe_ix ix_tup (pv 1) pe_int (fun _ _ => rfl))))
    (pss_cons (ps_if (pt_cmpR op_lt (pe_ix ix_tup (pv 1) pe_int (fun _ _ => rfl)) pe_int (nomark _)) (pss_one (ps_set (i := 2) sc_l_quotient.nd rfl (Or.inl rfl) (pe_op op_sub pe_int (pv 2)))) pss_nil)
    (pss_one (ps_ret (pe_call G_l_share (hr.mono (by decide)) (by rfl) T.m_l_share T.F_l_share.kp T.b_l_share .nil passL (pa_cons (pv 2) (pa_cons (pe_op op_mulG (pe_ix ix_tup (pv 0) pe_int (fun _ _ => rfl)) (pe_callB call_abs (by rfl) T.n_abs (by decide +kernel) (pa_cons (pe_ix ix_tup (pv 1) pe_int (fun _ _ => rfl)) pa_nil))) pa_nil))))))), ?_⟩
  refine ⟨_, rfl, p, _, 0, _, rfl, rfl, hp, rfl, _, rfl, q, _, 1, _, rfl, rfl, hq, rfl, _, _, rfl, rfl, (sz_mul sa sd).1, ?_⟩
  refine ⟨_, rfl, q, _, 0, _, rfl, rfl, hq, rfl, _, _, rfl, rfl, _, rfl, ?_⟩
  have bc : 0 < b * (if c < 0 then -c else c) := Int.mul_pos b0 (by split <;> omega)
  have sc' : Sz (if c < 0 then -c else c) := by
    have : (if c < 0 then -c else c).natAbs = c.natAbs := by split <;> omega
    unfold Sz at *
    rw [this]
    exact sc
  by_cases cn : c < 0
  · refine itT (decide_eq_true cn) ?_
    refine ⟨_, rfl, _, _, rfl, rfl, ?_⟩
    refine ⟨_, rfl, _, rfl, p, _, 1, _, rfl, rfl, hp, rfl, _, rfl, q, _, 0, _, rfl, rfl, hq, rfl, _, rfl, _, _, rfl, rfl, (sz_mul sb sc').1, ?_⟩
    refine ⟨_, _, rfl, bc, pow_9000 (sz_mul sb sc').2, ?_⟩
    have e := share_neg (a := a * d) (b := b * c) (Int.mul_neg_of_pos_of_neg b0 cn)
    unfold RetSh at *
    rw [e.1, e.2] at k
    rw [if_pos cn, Int.mul_neg, Int.zero_sub]
    exact k
  · refine itF (decide_eq_false cn) ?_
    refine ⟨_, rfl, _, rfl, p, _, 1, _, rfl, rfl, hp, rfl, _, rfl, q, _, 0, _, rfl, rfl, hq, rfl, _, rfl, _, _, rfl, rfl, (sz_mul sb sc').1, ?_⟩
    refine ⟨_, _, rfl, bc, pow_9000 (sz_mul sb sc').2, ?_⟩
    rw [if_neg cn]
    exact k
def sp_law (K : PySem.W.Frag) : Sp := fun vs H Q _ => ∃ (a : Addr) (ns : List Int), vs = [.ref a] ∧ SqL K H a (ns.map V.int) ∧ (∀ z ∈ ns, Bits z) ∧ ∀ H', Q (.bl true) H'
/-- a share with a positive bottom, of small numbers -/
def Good (K : PySem.W.Frag) (v : V) (H : Hp) : Prop := ∃ a b, Sh K H v a b ∧ 0 < b ∧ Sz a ∧ Sz b
theorem Sh.mono {K : PySem.W.Frag} {H H' : Hp} {v : V} {a b : Int} (e : Ex H H') (h : Sh K H v a b) : Sh K H' v a b := by
  obtain ⟨p, rfl, h⟩ := h
  exact ⟨p, rfl, Evl.ex_t e h⟩
theorem good_mono : Mono (Good K) := fun v H H' e h => by
  obtain ⟨a, b, h, r⟩ := h
  exact ⟨a, b, h.mono e, r⟩
theorem ok_law (T : Txt K mg) (kc : KitC T T.c_Nought true false false false false false false) (eP : PySem.W.exmOne K (.ref T.c_Nought) (.ref T.c_WeighError) = some true) : FnOk P w K mg base (L2.CX P w) 4 T.f_law T.fd_law ["_law_script"] (sp_law K) := by
  have G_l_cell_at := ok_l_cell_at (P := P) (w := w) (base := base) T
  have G_l_number := ok_l_number (P := P) (w := w) (base := base) T
  have G_l_over := ok_l_over (P := P) (w := w) (base := base) T kc eP
  have G_l_share := ok_l_share (P := P) (w := w) (base := base) T
  have G_l_is := ok_l_is (P := P) (w := w) (base := base) T
  have G_l_quotient := ok_l_quotient (P := P) (w := w) (base := base) T
  have G_plus := ok_plus (P := P) (w := w) (base := base) T
  have G_less := ok_less (P := P) (w := w) (base := base) T
  have G_times := ok_times (P := P) (w := w) (base := base) T
  refine T.F_law.okN sc_law (fun vs H Q E h => ?_) (fun cdv A outer s H vs Q E hr h => ?_)
  · obtain ⟨a, ns, rfl, _⟩ := h
    rfl
  obtain ⟨a, ns, rfl, hs, hbits, k⟩ := h
  have hr : Room (4 - 1) _ := hr
  refine ⟨_, (pss_cons (ps_setLc (i := 1) (own := [("_law_k", 5)]) (by rfl) sc_law.nd rfl rfl (sw_true rfl rfl rfl (by decide +kernel)) (pi_range1 (by rfl) T.n_range (pa_cons pe_int pa_nil)) (blkOk_by (own := [("_law_k", 5)]) (N := N_law) (sc := defScope s_law) (by decide +kernel)) (fun _ _ _ _ _ => pg_name (i := 5) sc_law.nd rfl (Or.inl rfl)) (fun _ _ _ _ _ => pts_nil) (fun _ _ _ _ _ => (pe_call G_l_cell_at (hr.mono (by decide)) (by rfl) T.m_l_cell_at T.F_l_cell_at.kp T.b_l_cell_at .nil passL (pa_cons (pv 0) (pa_cons (pv 5) pa_nil)))))
    (pss_cons (ps_set (i := 2) sc_law.nd rfl (Or.inl rfl) (pe_call G_l_share (hr.mono (by decide)) (by rfl) T.m_l_share T.F_l_share.kp T.b_l_share .nil passL (pa_cons (pe_call G_l_number (hr.mono (by decide)) (by rfl) T.m_l_number T.F_l_number.kp T.b_l_number .nil passL (pa_cons (pe_ix ix_list (pv 1) pe_int (fun _ _ => rfl)) pa_nil)) (pa_cons (pe_callB (call_max2 rfl) (by rfl) T.n_max (by decide +kernel) (pa_cons pe_int (pa_cons (pe_callB call_abs (by rfl) T.n_abs (by decide +kernel) (pa_cons (pe_call G_l_number (hr.mono (by decide)) (by rfl) T.m_l_number T.F_l_number.kp T.b_l_number .nil passL (pa_cons (pe_ix ix_list (pv 1) pe_int (fun _ _ => rfl)) pa_nil)) pa_nil)) pa_nil))) pa_nil))))
    (pss_cons (ps_set (i := 3) sc_law.nd rfl (Or.inl rfl) (pe_call G_l_share (hr.mono (by decide)) (by rfl) T.m_l_share T.F_l_share.kp T.b_l_share .nil passL (pa_cons (pe_call G_l_number (hr.mono (by decide)) (by rfl) T.m_l_number T.F_l_number.kp T.b_l_number .nil passL (pa_cons (pe_ix ix_list (pv 1) pe_int (fun _ _ => rfl)) pa_nil)) (pa_cons (pe_callB (call_max2 rfl) (by rfl) T.n_max (by decide +kernel) (pa_cons pe_int (pa_cons (pe_callB call_abs (by rfl) T.n_abs (by decide +kernel) (pa_cons (pe_call G_l_number (hr.mono (by decide)) (by rfl) T.m_l_number T.F_l_number.kp T.b_l_number .nil passL (pa_cons (pe_ix ix_list (pv 1) pe_int (fun _ _ => rfl)) pa_nil)) pa_nil)) pa_nil))) pa_nil))))
    (Evl.pss_cut (ps_if (pt_cmpR op_eq (pe_op op_mod (pe_ix ix_list (pv 1) pe_int (fun _ _ => rfl)) pe_int) pe_int (nomark _)) (pss_one (ps_set (i := 3) sc_law.nd rfl (Or.inl rfl) (pe_ix ix_list (pe_lst (pa_cons (pv 2) (pa_cons (pe_tup (pa_cons (pe_op op_sub pe_int (pe_ix ix_tup (pv 2) pe_int (fun _ _ => rfl))) (pa_cons (pe_ix ix_tup (pv 2) pe_int (fun _ _ => rfl)) pa_nil))) pa_nil))) (pe_op op_mod (pe_op op_fdiv (pe_ix ix_list (pv 1) pe_int (fun _ _ => rfl)) pe_int) pe_int) (fun _ _ => rfl)))) pss_nil)
    (pss_cons (ps_set (i := 4) sc_law.nd rfl (Or.inl rfl) (pe_op op_mulG (pe_ix ix_tup (pv 2) pe_int (fun _ _ => rfl)) (pe_ix ix_tup (pv 3) pe_int (fun _ _ => rfl))))
    (pss_cons (ps_if (pt_not (pt_val (pe_call G_l_is (hr.mono (by decide)) (by rfl) T.m_l_is T.F_l_is.kp T.b_l_is .nil passL (pa_cons (pe_call G_plus (hr.mono (by decide)) (by rfl) T.m_plus T.F_plus.kp T.b_plus .nil passL (pa_cons (pv 2) (pa_cons (pv 3) pa_nil))) (pa_cons (pe_call G_l_share (hr.mono (by decide)) (by rfl) T.m_l_share T.F_l_share.kp T.b_l_share .nil passL (pa_cons (pe_op op_add (pe_op op_mulG (pe_ix ix_tup (pv 2) pe_int (fun _ _ => rfl)) (pe_ix ix_tup (pv 3) pe_int (fun _ _ => rfl))) (pe_op op_mulG (pe_ix ix_tup (pv 3) pe_int (fun _ _ => rfl)) (pe_ix ix_tup (pv 2) pe_int (fun _ _ => rfl)))) (pa_cons (pv 4) pa_nil))) pa_nil))))) (pss_one (ps_ret pe_bl)) pss_nil)
    (pss_cons (ps_if (pt_not (pt_val (pe_call G_l_is (hr.mono (by decide)) (by rfl) T.m_l_is T.F_l_is.kp T.b_l_is .nil passL (pa_cons (pe_call G_less (hr.mono (by decide)) (by rfl) T.m_less T.F_less.kp T.b_less .nil passL (pa_cons (pv 2) (pa_cons (pv 3) pa_nil))) (pa_cons (pe_call G_l_share (hr.mono (by decide)) (by rfl) T.m_l_share T.F_l_share.kp T.b_l_share .nil passL (pa_cons (pe_op op_sub (pe_op op_mulG (pe_ix ix_tup (pv 2) pe_int (fun _ _ => rfl)) (pe_ix ix_tup (pv 3) pe_int (fun _ _ => rfl))) (pe_op op_mulG (pe_ix ix_tup (pv 3) pe_int (fun _ _ => rfl)) (pe_ix ix_tup (pv 2) pe_int (fun _ _ => rfl)))) (pa_cons (pv 4) pa_nil))) pa_nil))))) (pss_one (ps_ret pe_bl)) pss_nil)
    (pss_cons (ps_if (pt_not (pt_val (pe_call G_l_is (hr.mono (by decide)) (by rfl) T.m_l_is T.F_l_is.kp T.b_l_is .nil passL (pa_cons (pe_call G_times (hr.mono (by decide)) (by rfl) T.m_times T.F_times.kp T.b_times .nil passL (pa_cons (pv 2) (pa_cons (pv 3) pa_nil))) (pa_cons (pe_call G_l_share (hr.mono (by decide)) (by rfl) T.m_l_share T.F_l_share.kp T.b_l_share .nil passL (pa_cons (pe_op op_mulG (pe_ix ix_tup (pv 2) pe_int (fun _ _ => rfl)) (pe_ix ix_tup (pv 3) pe_int (fun _ _ => rfl))) (pa_cons (pv 4) pa_nil))) pa_nil))))) (pss_one (ps_ret pe_bl)) pss_nil)
    (pss_cons (ps_if (pt_cmpR op_eq (pe_ix ix_tup (pv 3) pe_int (fun _ _ => rfl)) pe_int (nomark _)) (pss_one (ps_ret (pe_cmpR (op_eqD hr.units) (pe_call G_l_over (hr.mono (by decide)) (by rfl) T.m_l_over T.F_l_over.kp T.b_l_over .nil passL (pa_cons (pv 2) (pa_cons (pv 3) pa_nil))) (pe_tup (pa_cons pe_str (pa_cons pe_str pa_nil))) (nomark _)))) pss_nil)
    (pss_one (ps_ret (pe_call G_l_is (hr.mono (by decide)) (by rfl) T.m_l_is T.F_l_is.kp T.b_l_is .nil passL (pa_cons (pe_call G_l_over (hr.mono (by decide)) (by rfl) T.m_l_over T.F_l_over.kp T.b_l_over .nil passL (pa_cons (pv 2) (pa_cons (pv 3) pa_nil))) (pa_cons (pe_call G_l_quotient (hr.mono (by decide)) (by rfl) T.m_l_quotient T.F_l_quotient.kp T.b_l_quotient .nil passL (pa_cons (pv 2) (pa_cons (pv 3) pa_nil))) pa_nil)))))))))))))), ?_⟩
  have cb : ∀ i, Bits (wCell ns i) := wCell_bits hbits
  refine Evl.q_asgL (Evl.el_lcR1 (fun _ => true) (fun i => .int (wCell ns i)) (Evl.ea_cons Evl.ev_c Evl.ea_nil) (by decide) (fun _ => rfl) (fun i H1 _ _ H2 _ Q q => q H2 (Ex.refl H2)) fun i H1 e1 _ _ => ?_) fun l H1 n1 e1 h1 => ?_
  · exact Evl.ev_call (vs := [.ref a, .int (i : Int)]) (Evl.ea_cons (Evl.ev_var rfl) (Evl.ea_cons (Evl.ev_var rfl) Evl.ea_nil)) fun H2 e2 Q q E => ⟨a, ns, i, rfl, Evl.ex_l (e1.trans e2) hs, by omega, q⟩
  have h1 : H1 l = some (.lst [.int (wCell ns 0), .int (wCell ns 1), .int (wCell ns 2), .int (wCell ns 3), .int (wCell ns 4)]) := h1
  have two9 : ∀ {n : Int}, n.natAbs < big → n.natAbs < 2 ^ 9000 := fun h => Nat.lt_of_lt_of_le h (Nat.le_trans big_pow (Nat.pow_le_pow_right (by decide) (by decide)))
  have sz : ∀ {n : Int}, n.natAbs < big → Sz n := fun h => Nat.lt_of_lt_of_le h (Nat.le_trans big_pow (Nat.pow_le_pow_right (by decide) (by decide)))
  have mx : ∀ {y : Int}, y.natAbs < big → 0 < (if (if y < 0 then -y else y) > 1 then (if y < 0 then -y else y) else 1) ∧ (if (if y < 0 then -y else y) > 1 then (if y < 0 then -y else y) else 1).natAbs < big := fun {y} h => by
    have hb : 1 < big := by decide +kernel
    split <;> (constructor <;> (split at * <;> omega))
  have good : ∀ {x y : Int}, x.natAbs < big → 0 < y → y.natAbs < big → 0 < shBt x y ∧ Sz (shT x y) ∧ Sz (shBt x y) := fun {x y} hx y0 hy => by
    obtain ⟨_, bp, _, _, lt, lb, _⟩ := share_ok (top := x) (bottom := y) (by omega)
    exact ⟨bp, sz (by omega), sz (by omega)⟩
  -- the first share
  refine ⟨_, rfl, l, _, 0, _, rfl, rfl, SqL.of h1, rfl, _, rfl, cb 0, fun x H2 hx e2 => ?_⟩
  refine ⟨_, rfl, l, _, 1, _, rfl, rfl, SqL.of (e2 _ _ h1), rfl, _, rfl, cb 1, fun y H3 hy e3 => ?_⟩
  refine ⟨_, rfl, _, _, rfl, _, _, rfl, (mx hy).1, two9 (mx hy).2, fun p H4 n4 e4 hp => ?_⟩
  obtain ⟨g1, g2, g3⟩ := good hx (mx hy).1 (mx hy).2
  generalize hA : shT x _ = A at hp g2
  generalize hB : shBt x _ = B at hp g1 g3
  have l4 := e4 _ _ (e3 _ _ (e2 _ _ h1))
  -- the second
  refine ⟨_, rfl, l, _, 2, _, rfl, rfl, SqL.of l4, rfl, _, rfl, cb 2, fun x' H5 hx' e5 => ?_⟩
  refine ⟨_, rfl, l, _, 3, _, rfl, rfl, SqL.of (e5 _ _ l4), rfl, _, rfl, cb 3, fun y' H6 hy' e6 => ?_⟩
  refine ⟨_, rfl, _, _, rfl, _, _, rfl, (mx hy').1, two9 (mx hy').2, fun q H7 n7 e7 hq => ?_⟩
  obtain ⟨f1, f2, f3⟩ := good hx' (mx hy').1 (mx hy').2
  generalize hC : shT x' _ = C at hq f2
  generalize hD : shBt x' _ = D at hq f1 f3
  have l7 := e7 _ _ (e6 _ _ (e5 _ _ l4))
  have p7 := e7 _ _ (e6 _ _ (e5 _ _ hp))
  refine Evl.q_cut (M := fun σ' H' => ∃ v, σ' = [some (.ref a), some (.ref l), some (.ref p), some v, none, none] ∧ Ex H7 H' ∧ Good K v H') ?_ ?_
  · refine ⟨_, rfl, l, _, 4, _, rfl, rfl, SqL.of l7, rfl, _, _, rfl, rfl, (by show (0 : Int) < 6; decide), rfl, _, rfl, ?_⟩
    refine itC (fun c1 => ?_) (fun c1 => ?_)
    · have pG : Good K (.ref p) H7 := ⟨A, B, ⟨p, rfl, SqT.of p7⟩, g1, g2, g3⟩
      refine s_asgX (ex_ixL (n := 2) (ex_lstL (n := 2) (eas_cons good_mono (ex_of (Evl.ev_var rfl) fun H' e => good_mono _ _ _ e pG) (eas_cons good_mono (ex_ofU (Evl.eu_tup (Evl.ea_cons (Evl.ev_op Evl.ev_c (Evl.ev_op (Evl.ev_var rfl) Evl.ev_c (Evl.rv_ixT (SqT.of p7) rfl)) Evl.rv_I0) (Evl.ea_cons (Evl.ev_op (Evl.ev_var rfl) Evl.ev_c (Evl.rv_ixT (SqT.of p7) rfl)) Evl.ea_nil)) (by simp)) fun r H' e hr => ?_) eas_nil)) (by decide) good_mono) (Evl.ev_op (Evl.ev_op (Evl.ev_op (Evl.ev_var rfl) Evl.ev_c (Evl.rv_ixL (SqL.of l7) rfl)) Evl.ev_c (Evl.rv_I ⟨by decide, by decide⟩)) Evl.ev_c (Evl.rv_I (by show (0 : Int) < 2; decide))) (Int.emod_nonneg _ (by decide)) (Int.emod_lt_of_pos _ (by decide)) good_mono) fun v H' e hv => ⟨v, rfl, e, hv⟩
      refine ⟨_, _, ⟨r, rfl, SqT.of hr⟩, g1, ?_, g3⟩
      unfold Sz at *
      omega
    · exact ⟨_, rfl, Ex.refl _, C, D, ⟨q, rfl, SqT.of hq⟩, f1, f2, f3⟩
  · rintro σ' H8 ⟨v, rfl, e8, C', D', ⟨q', rfl, hq'⟩, d1, d2, d3⟩
    have hp8 : SqT K H8 p [.int A, .int B] := SqT.of (e8 _ _ p7)
    have bd := Int.mul_pos g1 d1
    have bd9 := pow_9000 (sz_mul g3 d3).2
    refine ⟨_, rfl, p, _, 1, _, rfl, rfl, hp8, rfl, _, rfl, q', _, 1, _, rfl, rfl, hq', rfl, _, _, rfl, rfl, (sz_mul g3 d3).1, ?_⟩
    -- the sum
    refine ⟨_, rfl, _, rfl, _, _, A, B, C', D', rfl, ⟨p, rfl, hp8⟩, ⟨q', rfl, hq'⟩, g1, d1, g2, g3, d2, d3, fun r1 H9 n9 e9 h9 => ?_⟩
    have hp9 := Evl.ex_t e9 hp8
    have hq9 := Evl.ex_t e9 hq'
    refine ⟨_, rfl, p, _, 0, _, rfl, rfl, hp9, rfl, _, rfl, q', _, 1, _, rfl, rfl, hq9, rfl, _, _, rfl, rfl, (sz_mul g2 d3).1, ?_⟩
    refine ⟨_, rfl, q', _, 0, _, rfl, rfl, hq9, rfl, _, rfl, p, _, 1, _, rfl, rfl, hp9, rfl, _, _, rfl, rfl, (sz_mul d2 g3).1, _, _, rfl, rfl, ?_⟩
    refine ⟨_, rfl, _, _, rfl, bd, bd9, fun r2 H10 n10 e10 h10 => ?_⟩
    refine ⟨_, _, _, _, _, _, rfl, ⟨r1, rfl, SqT.of (e10 _ _ h9)⟩, ⟨r2, rfl, SqT.of h10⟩, fun H11 e11 => ⟨_, rfl, itF (by simp) ?_⟩⟩
    have x11 := (e9.trans e10).trans e11
    have hp11 := Evl.ex_t x11 hp8
    have hq11 := Evl.ex_t x11 hq'
    -- the difference
    refine ⟨_, rfl, _, rfl, _, _, A, B, C', D', rfl, ⟨p, rfl, hp11⟩, ⟨q', rfl, hq11⟩, g1, d1, g2, g3, d2, d3, fun r3 H12 n12 e12 h12 => ?_⟩
    have hp12 := Evl.ex_t e12 hp11
    have hq12 := Evl.ex_t e12 hq11
    refine ⟨_, rfl, p, _, 0, _, rfl, rfl, hp12, rfl, _, rfl, q', _, 1, _, rfl, rfl, hq12, rfl, _, _, rfl, rfl, (sz_mul g2 d3).1, ?_⟩
    refine ⟨_, rfl, q', _, 0, _, rfl, rfl, hq12, rfl, _, rfl, p, _, 1, _, rfl, rfl, hp12, rfl, _, _, rfl, rfl, (sz_mul d2 g3).1, _, _, rfl, rfl, ?_⟩
    refine ⟨_, rfl, _, _, rfl, bd, bd9, fun r4 H13 n13 e13 h13 => ?_⟩
    refine ⟨_, _, _, _, _, _, rfl, ⟨r3, rfl, SqT.of (e13 _ _ h12)⟩, ⟨r4, rfl, SqT.of h13⟩, fun H14 e14 => ⟨_, rfl, itF (by simp) ?_⟩⟩
    have x14 := (e12.trans e13).trans e14
    have hp14 := Evl.ex_t x14 hp11
    have hq14 := Evl.ex_t x14 hq11
    -- the product
    refine ⟨_, rfl, _, rfl, _, _, A, B, C', D', rfl, ⟨p, rfl, hp14⟩, ⟨q', rfl, hq14⟩, g1, d1, g2, g3, d2, d3, fun r5 H15 n15 e15 h15 => ?_⟩
    have hp15 := Evl.ex_t e15 hp14
    have hq15 := Evl.ex_t e15 hq14
    refine ⟨_, rfl, p, _, 0, _, rfl, rfl, hp15, rfl, _, rfl, q', _, 0, _, rfl, rfl, hq15, rfl, _, _, rfl, rfl, (sz_mul g2 d2).1, ?_⟩
    refine ⟨_, rfl, _, _, rfl, bd, bd9, fun r6 H16 n16 e16 h16 => ?_⟩
    refine ⟨_, _, _, _, _, _, rfl, ⟨r5, rfl, SqT.of (e16 _ _ h15)⟩, ⟨r6, rfl, SqT.of h16⟩, fun H17 e17 => ⟨_, rfl, itF (by simp) ?_⟩⟩
    have x17 := (e15.trans e16).trans e17
    have hp17 := Evl.ex_t x17 hp14
    have hq17 := Evl.ex_t x17 hq14
    -- the quotient
    refine ⟨_, rfl, q', _, 0, _, rfl, rfl, hq17, rfl, rfl, _, rfl, ?_⟩
    by_cases c0 : C' = 0
    · refine itT (eqT c0) ?_
      refine ⟨_, rfl, _, rfl, _, _, A, B, C', D', rfl, ⟨p, rfl, hp17⟩, ⟨q', rfl, hq17⟩, g1, d1, g2, g3, d2, d3, fun _ r H18 e18 h18 => ?_, fun z => absurd c0 z⟩
      refine ⟨(by show 2 ≤ sizeLine; decide), fun t nt => ?_⟩
      refine ⟨.tuple [.str "refused", .str "nought"], .tuple [.str "refused", .str "nought"], .tup (SqT.of ((Ex.new nt) _ _ h18)) (.cons (.str _) (.cons (.str _) .nil)), .tup (SqT.of upd_same) (.cons (.str _) (.cons (.str _) .nil)), by decide +kernel, by decide +kernel, ?_⟩
      rw [show PyData.eqv (.tuple [.str "refused", .str "nought"]) (.tuple [.str "refused", .str "nought"]) = true by decide +kernel]
      exact k _
    · refine itF (eqF c0) ?_
      refine ⟨_, rfl, _, rfl, _, _, A, B, C', D', rfl, ⟨p, rfl, hp17⟩, ⟨q', rfl, hq17⟩, g1, d1, g2, g3, d2, d3, fun z => absurd z c0, fun _ r7 H18 n18 e18 h18 => ?_⟩
      refine ⟨_, rfl, _, rfl, _, _, A, B, C', D', rfl, ⟨p, rfl, Evl.ex_t e18 hp17⟩, ⟨q', rfl, Evl.ex_t e18 hq17⟩, g1, d1, g2, g3, d2, d3, c0, fun r8 H19 n19 e19 h19 => ?_⟩
      refine ⟨_, _, _, _, _, _, rfl, ⟨r7, rfl, SqT.of (e19 _ _ h18)⟩, ⟨r8, rfl, SqT.of h19⟩, fun H20 e20 => ?_⟩
      rw [decide_eq_true ⟨rfl, rfl⟩]
      exact k _
end
theorem law_start {K : PySem.W.Frag} {H : Hp} {a : Addr} {ns : List Int} (hl : ns.length ≤ 63) (hb : ∀ z ∈ ns, Bits z) (hS : SqL K H a (ns.map V.int)) : sp_law K [.ref a] H (fun v _ => v = .bl true) fun _ _ _ => False := ⟨a, ns, rfl, hS, hb, fun _ => rfl⟩
theorem all_mk {l : PySem.W.OpenLaw} {w : World} {K : PySem.W.Frag} {h : Heap} {mg : Str → Option Value} {fa : Addr} {c_WeighError c_Nought c_NoText c_NoRow c_NoMachine c_NoWord c_OtherSigns c_TooMany f0 f1 f2 f3 f4 f5 f6 f7 f8 f9 f10 f11 f12 f13 f14 : Addr} (X : K.In h) (G : h.Ns mainGlobals mg) (hfa : mg "law" = some (.ref fa))
    {od0 an0 od1 an1 od2 an2 od3 an3 od4 an4 od5 an5 od6 an6 od7 an7 od8 an8 od9 an9 od10 an10 od11 an11 od12 an12 od13 an13 od14 an14 : Option Addr} {sl0 sl1 sl2 sl3 sl4 sl5 sl6 sl7 sl8 sl9 sl10 sl11 sl12 sl13 sl14 : Array (Option Value)} {oc0 kV0 dc0 pm0 cd0 ct0 oc1 kV1 dc1 pm1 cd1 ct1 oc2 kV2 dc2 pm2 cd2 ct2 oc3 kV3 dc3 pm3 cd3 ct3 oc4 kV4 dc4 pm4 cd4 ct4 oc5 kV5 dc5 pm5 cd5 ct5 oc6 kV6 dc6 pm6 cd6 ct6 oc7 kV7 dc7 pm7 cd7 ct7 oc8 kV8 dc8 pm8 cd8 ct8 oc9 kV9 dc9 pm9 cd9 ct9 oc10 kV10 dc10 pm10 cd10 ct10 oc11 kV11 dc11 pm11 cd11 ct11 oc12 kV12 dc12 pm12 cd12 ct12 oc13 kV13 dc13 pm13 cd13 ct13 oc14 kV14 dc14 pm14 cd14 ct14 : Value}
    (aC_WeighError : PySem.W.nsIn K mainGlobals "WeighError" = some (some (.ref c_WeighError)))
    (aC_Nought : PySem.W.nsIn K mainGlobals "Nought" = some (some (.ref c_Nought)))
    (x_Nought : PySem.W.excIn K c_Nought [.type "ValueError", .type "Exception", .type "BaseException", .type "object"] "ValueError.__new__" = true)
    (k_Nought : PySem.W.keepIn K (.ref c_Nought) = true)
    (sB_Nought : PySem.W.subIn K (.ref c_Nought) (.type "BaseException") = some true)
    (tB_Nought : PySem.W.typeIn K (.ref c_Nought) = some (.type "type"))
    (aC_NoText : PySem.W.nsIn K mainGlobals "NoText" = some (some (.ref c_NoText)))
    (aC_NoRow : PySem.W.nsIn K mainGlobals "NoRow" = some (some (.ref c_NoRow)))
    (aC_NoMachine : PySem.W.nsIn K mainGlobals "NoMachine" = some (some (.ref c_NoMachine)))
    (aC_NoWord : PySem.W.nsIn K mainGlobals "NoWord" = some (some (.ref c_NoWord)))
    (aC_OtherSigns : PySem.W.nsIn K mainGlobals "OtherSigns" = some (some (.ref c_OtherSigns)))
    (aC_TooMany : PySem.W.nsIn K mainGlobals "TooMany" = some (some (.ref c_TooMany)))
    (a0 : PySem.W.nsIn K mainGlobals "share" = some (some (.ref f0)))
    (l0 : K.lookup f0 = some ⟨oc0, od0, .func (PySem.W.fnOf "share" "share" (defArgs s_share) (defBody s_share) (defScope s_share) .none kV0 dc0 pm0 an0 cd0 ct0), sl0⟩)
    (q0 : PySem.W.codeIn K cd0 "share" = true)
    (k0 : PySem.W.keepIn K (.ref f0) = true)
    (a1 : PySem.W.nsIn K mainGlobals "plus" = some (some (.ref f1)))
    (l1 : K.lookup f1 = some ⟨oc1, od1, .func (PySem.W.fnOf "plus" "plus" (defArgs s_plus) (defBody s_plus) (defScope s_plus) .none kV1 dc1 pm1 an1 cd1 ct1), sl1⟩)
    (q1 : PySem.W.codeIn K cd1 "plus" = true)
    (k1 : PySem.W.keepIn K (.ref f1) = true)
    (a2 : PySem.W.nsIn K mainGlobals "less" = some (some (.ref f2)))
    (l2 : K.lookup f2 = some ⟨oc2, od2, .func (PySem.W.fnOf "less" "less" (defArgs s_less) (defBody s_less) (defScope s_less) .none kV2 dc2 pm2 an2 cd2 ct2), sl2⟩)
    (q2 : PySem.W.codeIn K cd2 "less" = true)
    (k2 : PySem.W.keepIn K (.ref f2) = true)
    (a3 : PySem.W.nsIn K mainGlobals "times" = some (some (.ref f3)))
    (l3 : K.lookup f3 = some ⟨oc3, od3, .func (PySem.W.fnOf "times" "times" (defArgs s_times) (defBody s_times) (defScope s_times) .none kV3 dc3 pm3 an3 cd3 ct3), sl3⟩)
    (q3 : PySem.W.codeIn K cd3 "times" = true)
    (k3 : PySem.W.keepIn K (.ref f3) = true)
    (a4 : PySem.W.nsIn K mainGlobals "over" = some (some (.ref f4)))
    (l4 : K.lookup f4 = some ⟨oc4, od4, .func (PySem.W.fnOf "over" "over" (defArgs s_over) (defBody s_over) (defScope s_over) .none kV4 dc4 pm4 an4 cd4 ct4), sl4⟩)
    (q4 : PySem.W.codeIn K cd4 "over" = true)
    (k4 : PySem.W.keepIn K (.ref f4) = true)
    (a5 : PySem.W.nsIn K mainGlobals "_law_cell_at" = some (some (.ref f5)))
    (l5 : K.lookup f5 = some ⟨oc5, od5, .func (PySem.W.fnOf "_law_cell_at" "_law_cell_at" (defArgs s_l_cell_at) (defBody s_l_cell_at) (defScope s_l_cell_at) .none kV5 dc5 pm5 an5 cd5 ct5), sl5⟩)
    (q5 : PySem.W.codeIn K cd5 "_law_cell_at" = true)
    (k5 : PySem.W.keepIn K (.ref f5) = true)
    (a6 : PySem.W.nsIn K mainGlobals "_law_whole" = some (some (.ref f6)))
    (l6 : K.lookup f6 = some ⟨oc6, od6, .func (PySem.W.fnOf "_law_whole" "_law_whole" (defArgs s_l_whole) (defBody s_l_whole) (defScope s_l_whole) .none kV6 dc6 pm6 an6 cd6 ct6), sl6⟩)
    (q6 : PySem.W.codeIn K cd6 "_law_whole" = true)
    (k6 : PySem.W.keepIn K (.ref f6) = true)
    (a7 : PySem.W.nsIn K mainGlobals "_law_common" = some (some (.ref f7)))
    (l7 : K.lookup f7 = some ⟨oc7, od7, .func (PySem.W.fnOf "_law_common" "_law_common" (defArgs s_l_common) (defBody s_l_common) (defScope s_l_common) .none kV7 dc7 pm7 an7 cd7 ct7), sl7⟩)
    (q7 : PySem.W.codeIn K cd7 "_law_common" = true)
    (k7 : PySem.W.keepIn K (.ref f7) = true)
    (a8 : PySem.W.nsIn K mainGlobals "_law_share" = some (some (.ref f8)))
    (l8 : K.lookup f8 = some ⟨oc8, od8, .func (PySem.W.fnOf "_law_share" "_law_share" (defArgs s_l_share) (defBody s_l_share) (defScope s_l_share) .none kV8 dc8 pm8 an8 cd8 ct8), sl8⟩)
    (q8 : PySem.W.codeIn K cd8 "_law_share" = true)
    (k8 : PySem.W.keepIn K (.ref f8) = true)
    (a9 : PySem.W.nsIn K mainGlobals "_law_is" = some (some (.ref f9)))
    (l9 : K.lookup f9 = some ⟨oc9, od9, .func (PySem.W.fnOf "_law_is" "_law_is" (defArgs s_l_is) (defBody s_l_is) (defScope s_l_is) .none kV9 dc9 pm9 an9 cd9 ct9), sl9⟩)
    (q9 : PySem.W.codeIn K cd9 "_law_is" = true)
    (k9 : PySem.W.keepIn K (.ref f9) = true)
    (a10 : PySem.W.nsIn K mainGlobals "_law_number" = some (some (.ref f10)))
    (l10 : K.lookup f10 = some ⟨oc10, od10, .func (PySem.W.fnOf "_law_number" "_law_number" (defArgs s_l_number) (defBody s_l_number) (defScope s_l_number) .none kV10 dc10 pm10 an10 cd10 ct10), sl10⟩)
    (q10 : PySem.W.codeIn K cd10 "_law_number" = true)
    (k10 : PySem.W.keepIn K (.ref f10) = true)
    (a11 : PySem.W.nsIn K mainGlobals "_law_word_of" = some (some (.ref f11)))
    (l11 : K.lookup f11 = some ⟨oc11, od11, .func (PySem.W.fnOf "_law_word_of" "_law_word_of" (defArgs s_l_word_of) (defBody s_l_word_of) (defScope s_l_word_of) .none kV11 dc11 pm11 an11 cd11 ct11), sl11⟩)
    (q11 : PySem.W.codeIn K cd11 "_law_word_of" = true)
    (k11 : PySem.W.keepIn K (.ref f11) = true)
    (a12 : PySem.W.nsIn K mainGlobals "_law_over" = some (some (.ref f12)))
    (l12 : K.lookup f12 = some ⟨oc12, od12, .func (PySem.W.fnOf "_law_over" "_law_over" (defArgs s_l_over) (defBody s_l_over) (defScope s_l_over) .none kV12 dc12 pm12 an12 cd12 ct12), sl12⟩)
    (q12 : PySem.W.codeIn K cd12 "_law_over" = true)
    (k12 : PySem.W.keepIn K (.ref f12) = true)
    (a13 : PySem.W.nsIn K mainGlobals "_law_quotient" = some (some (.ref f13)))
    (l13 : K.lookup f13 = some ⟨oc13, od13, .func (PySem.W.fnOf "_law_quotient" "_law_quotient" (defArgs s_l_quotient) (defBody s_l_quotient) (defScope s_l_quotient) .none kV13 dc13 pm13 an13 cd13 ct13), sl13⟩)
    (q13 : PySem.W.codeIn K cd13 "_law_quotient" = true)
    (k13 : PySem.W.keepIn K (.ref f13) = true)
    (a14 : PySem.W.nsIn K mainGlobals "law" = some (some (.ref f14)))
    (l14 : K.lookup f14 = some ⟨oc14, od14, .func (PySem.W.fnOf "law" "law" (defArgs s_law) (defBody s_law) (defScope s_law) .none kV14 dc14 pm14 an14 cd14 ct14), sl14⟩)
    (q14 : PySem.W.codeIn K cd14 "law" = true)
    (k14 : PySem.W.keepIn K (.ref f14) = true)
    (z_len : PySem.W.nsIn K mainGlobals "len" = some none)
    (z_isinstance : PySem.W.nsIn K mainGlobals "isinstance" = some none)
    (z_int : PySem.W.nsIn K mainGlobals "int" = some none)
    (z_bool : PySem.W.nsIn K mainGlobals "bool" = some none)
    (z_abs : PySem.W.nsIn K mainGlobals "abs" = some none)
    (z_tuple : PySem.W.nsIn K mainGlobals "tuple" = some none)
    (z_ValueError : PySem.W.nsIn K mainGlobals "ValueError" = some none)
    (z_max : PySem.W.nsIn K mainGlobals "max" = some none)
    (z_range : PySem.W.nsIn K mainGlobals "range" = some none)
    (g_gcd : PySem.W.nsIn K mainGlobals "gcd" = some (some (.builtin "math.gcd")))
    (e6 : PySem.W.specialIn K (.builtin "object.__class__") "__get__" = some (some (.builtin "getset_descriptor.__get__")))
    (e7 : PySem.W.takesIn K (.builtin "object.__class__") = some true)
    (ic_WeighError : PySem.W.isClsIn K c_WeighError = true)
    (tB_WeighError : PySem.W.typeIn K (.ref c_WeighError) = some (.type "type"))
    (ic_Nought : PySem.W.isClsIn K c_Nought = true)
    (ic_NoText : PySem.W.isClsIn K c_NoText = true)
    (tB_NoText : PySem.W.typeIn K (.ref c_NoText) = some (.type "type"))
    (ic_NoRow : PySem.W.isClsIn K c_NoRow = true)
    (tB_NoRow : PySem.W.typeIn K (.ref c_NoRow) = some (.type "type"))
    (ic_NoMachine : PySem.W.isClsIn K c_NoMachine = true)
    (tB_NoMachine : PySem.W.typeIn K (.ref c_NoMachine) = some (.type "type"))
    (ic_NoWord : PySem.W.isClsIn K c_NoWord = true)
    (tB_NoWord : PySem.W.typeIn K (.ref c_NoWord) = some (.type "type"))
    (ic_OtherSigns : PySem.W.isClsIn K c_OtherSigns = true)
    (tB_OtherSigns : PySem.W.typeIn K (.ref c_OtherSigns) = some (.type "type"))
    (ic_TooMany : PySem.W.isClsIn K c_TooMany = true)
    (tB_TooMany : PySem.W.typeIn K (.ref c_TooMany) = some (.type "type"))
    (sB_WeighError : PySem.W.subIn K (.ref c_WeighError) (.type "BaseException") = some true)
    (e1_Nought : PySem.W.findIn K (.ref c_Nought) "__getattribute__" = some (some (.builtin "BaseException.__getattribute__")))
    (e2_Nought : PySem.W.findIn K (.ref c_Nought) "__getattr__" = some none)
    (e4_Nought : PySem.W.hasDictIn K c_Nought = true)
    (e5_Nought : PySem.W.findIn K (.ref c_Nought) "__class__" = some (some (.builtin "object.__class__")))
    (e8_Nought : PySem.W.mroIn K c_Nought (.type "object") = some true)
    (ve_Nought : PySem.W.subIn K (.ref c_Nought) (.type "ValueError") = some true)
    (we_Nought : PySem.W.subIn K (.ref c_Nought) (.ref c_WeighError) = some true)
    (s_Nought_Nought : PySem.W.subIn K (.ref c_Nought) (.ref c_Nought) = some true)
    (s_Nought_NoText : PySem.W.subIn K (.ref c_Nought) (.ref c_NoText) = some false)
    (s_Nought_NoRow : PySem.W.subIn K (.ref c_Nought) (.ref c_NoRow) = some false)
    (s_Nought_NoMachine : PySem.W.subIn K (.ref c_Nought) (.ref c_NoMachine) = some false)
    (s_Nought_NoWord : PySem.W.subIn K (.ref c_Nought) (.ref c_NoWord) = some false)
    (s_Nought_OtherSigns : PySem.W.subIn K (.ref c_Nought) (.ref c_OtherSigns) = some false)
    (s_Nought_TooMany : PySem.W.subIn K (.ref c_Nought) (.ref c_TooMany) = some false)
    : ∃ fd : FuncData, (∀ (s : Shared) (v : Value), BindsTo s fd ⟨[v], []⟩ [("_law_script", v)]) ∧ ∀ base : Heap, K.In base → base.Ns mainGlobals mg → FnOk l.prog w K mg base (L2.CX l.prog w) 4 fa fd ["_law_script"] (sp_law K) := by
  have e : f14 = fa := Value.ref.inj (Option.some.inj ((PySem.W.mg_of X G a14).symm.trans hfa))
  subst e
  let T : Txt K mg := {
    c_WeighError := c_WeighError,
    mc_WeighError := PySem.W.mg_of X G aC_WeighError,
    c_Nought := c_Nought,
    mc_Nought := PySem.W.mg_of X G aC_Nought,
    x_Nought := x_Nought,
    k_Nought := k_Nought,
    sB_Nought := sB_Nought,
    tB_Nought := tB_Nought,
    c_NoText := c_NoText,
    mc_NoText := PySem.W.mg_of X G aC_NoText,
    c_NoRow := c_NoRow,
    mc_NoRow := PySem.W.mg_of X G aC_NoRow,
    c_NoMachine := c_NoMachine,
    mc_NoMachine := PySem.W.mg_of X G aC_NoMachine,
    c_NoWord := c_NoWord,
    mc_NoWord := PySem.W.mg_of X G aC_NoWord,
    c_OtherSigns := c_OtherSigns,
    mc_OtherSigns := PySem.W.mg_of X G aC_OtherSigns,
    c_TooMany := c_TooMany,
    mc_TooMany := PySem.W.mg_of X G aC_TooMany,
    f_share := f0,
    fd_share := _,
    F_share := fun_mk (st := s_share) l0 q0 k0,
    b_share := (fun_mk (st := s_share) l0 q0 k0).binds (ps := ["top", "bottom"]) fun _ _ _ _ _ _ us hl => match us, hl with | [_, _], _ => rfl,
    m_share := PySem.W.mg_of X G a0,
    f_plus := f1,
    fd_plus := _,
    F_plus := fun_mk (st := s_plus) l1 q1 k1,
    b_plus := (fun_mk (st := s_plus) l1 q1 k1).binds (ps := ["one", "other"]) fun _ _ _ _ _ _ us hl => match us, hl with | [_, _], _ => rfl,
    m_plus := PySem.W.mg_of X G a1,
    f_less := f2,
    fd_less := _,
    F_less := fun_mk (st := s_less) l2 q2 k2,
    b_less := (fun_mk (st := s_less) l2 q2 k2).binds (ps := ["one", "other"]) fun _ _ _ _ _ _ us hl => match us, hl with | [_, _], _ => rfl,
    m_less := PySem.W.mg_of X G a2,
    f_times := f3,
    fd_times := _,
    F_times := fun_mk (st := s_times) l3 q3 k3,
    b_times := (fun_mk (st := s_times) l3 q3 k3).binds (ps := ["one", "other"]) fun _ _ _ _ _ _ us hl => match us, hl with | [_, _], _ => rfl,
    m_times := PySem.W.mg_of X G a3,
    f_over := f4,
    fd_over := _,
    F_over := fun_mk (st := s_over) l4 q4 k4,
    b_over := (fun_mk (st := s_over) l4 q4 k4).binds (ps := ["one", "other"]) fun _ _ _ _ _ _ us hl => match us, hl with | [_, _], _ => rfl,
    m_over := PySem.W.mg_of X G a4,
    f_l_cell_at := f5,
    fd_l_cell_at := _,
    F_l_cell_at := fun_mk (st := s_l_cell_at) l5 q5 k5,
    b_l_cell_at := (fun_mk (st := s_l_cell_at) l5 q5 k5).binds (ps := ["_law_script", "_law_k"]) fun _ _ _ _ _ _ us hl => match us, hl with | [_, _], _ => rfl,
    m_l_cell_at := PySem.W.mg_of X G a5,
    f_l_whole := f6,
    fd_l_whole := _,
    F_l_whole := fun_mk (st := s_l_whole) l6 q6 k6,
    b_l_whole := (fun_mk (st := s_l_whole) l6 q6 k6).binds (ps := ["_law_found"]) fun _ _ _ _ _ _ us hl => match us, hl with | [_], _ => rfl,
    m_l_whole := PySem.W.mg_of X G a6,
    f_l_common := f7,
    fd_l_common := _,
    F_l_common := fun_mk (st := s_l_common) l7 q7 k7,
    b_l_common := (fun_mk (st := s_l_common) l7 q7 k7).binds (ps := ["_law_one", "_law_other"]) fun _ _ _ _ _ _ us hl => match us, hl with | [_, _], _ => rfl,
    m_l_common := PySem.W.mg_of X G a7,
    f_l_share := f8,
    fd_l_share := _,
    F_l_share := fun_mk (st := s_l_share) l8 q8 k8,
    b_l_share := (fun_mk (st := s_l_share) l8 q8 k8).binds (ps := ["_law_top", "_law_bottom"]) fun _ _ _ _ _ _ us hl => match us, hl with | [_, _], _ => rfl,
    m_l_share := PySem.W.mg_of X G a8,
    f_l_is := f9,
    fd_l_is := _,
    F_l_is := fun_mk (st := s_l_is) l9 q9 k9,
    b_l_is := (fun_mk (st := s_l_is) l9 q9 k9).binds (ps := ["_law_found", "_law_due"]) fun _ _ _ _ _ _ us hl => match us, hl with | [_, _], _ => rfl,
    m_l_is := PySem.W.mg_of X G a9,
    f_l_number := f10,
    fd_l_number := _,
    F_l_number := fun_mk (st := s_l_number) l10 q10 k10,
    b_l_number := (fun_mk (st := s_l_number) l10 q10 k10).binds (ps := ["_law_cell"]) fun _ _ _ _ _ _ us hl => match us, hl with | [_], _ => rfl,
    m_l_number := PySem.W.mg_of X G a10,
    f_l_word_of := f11,
    fd_l_word_of := _,
    F_l_word_of := fun_mk (st := s_l_word_of) l11 q11 k11,
    b_l_word_of := (fun_mk (st := s_l_word_of) l11 q11 k11).binds (ps := ["_law_e"]) fun _ _ _ _ _ _ us hl => match us, hl with | [_], _ => rfl,
    m_l_word_of := PySem.W.mg_of X G a11,
    f_l_over := f12,
    fd_l_over := _,
    F_l_over := fun_mk (st := s_l_over) l12 q12 k12,
    b_l_over := (fun_mk (st := s_l_over) l12 q12 k12).binds (ps := ["_law_one", "_law_other"]) fun _ _ _ _ _ _ us hl => match us, hl with | [_, _], _ => rfl,
    m_l_over := PySem.W.mg_of X G a12,
    f_l_quotient := f13,
    fd_l_quotient := _,
    F_l_quotient := fun_mk (st := s_l_quotient) l13 q13 k13,
    b_l_quotient := (fun_mk (st := s_l_quotient) l13 q13 k13).binds (ps := ["_law_one", "_law_other"]) fun _ _ _ _ _ _ us hl => match us, hl with | [_, _], _ => rfl,
    m_l_quotient := PySem.W.mg_of X G a13,
    f_law := f14,
    fd_law := _,
    F_law := fun_mk (st := s_law) l14 q14 k14,
    b_law := (fun_mk (st := s_law) l14 q14 k14).binds (ps := ["_law_script"]) fun _ _ _ _ _ _ us hl => match us, hl with | [_], _ => rfl,
    m_law := PySem.W.mg_of X G a14,
    n_len := PySem.W.mg_none_of X G z_len,
    n_isinstance := PySem.W.mg_none_of X G z_isinstance,
    n_int := PySem.W.mg_none_of X G z_int,
    n_bool := PySem.W.mg_none_of X G z_bool,
    n_abs := PySem.W.mg_none_of X G z_abs,
    n_tuple := PySem.W.mg_none_of X G z_tuple,
    n_ValueError := PySem.W.mg_none_of X G z_ValueError,
    n_max := PySem.W.mg_none_of X G z_max,
    n_range := PySem.W.mg_none_of X G z_range,
    g_gcd := PySem.W.mg_of X G g_gcd }
  exact ⟨_, fun s v => .of_eq rfl, fun base _ _ => ok_law T ⟨⟨e1_Nought, e2_Nought, sB_Nought, e4_Nought, e5_Nought, e6, e7, e8_Nought⟩, kit_self, kit_other ic_NoText tB_NoText s_Nought_NoText s_Nought_Nought, kit_other ic_NoRow tB_NoRow s_Nought_NoRow s_Nought_Nought, kit_other ic_NoMachine tB_NoMachine s_Nought_NoMachine s_Nought_Nought, kit_other ic_NoWord tB_NoWord s_Nought_NoWord s_Nought_Nought, kit_other ic_OtherSigns tB_OtherSigns s_Nought_OtherSigns s_Nought_Nought, kit_other ic_TooMany tB_TooMany s_Nought_TooMany s_Nought_Nought, kit_ve ve_Nought⟩ (exm_sub sB_WeighError ic_WeighError tB_WeighError we_Nought)⟩
theorem walk {l : PySem.W.OpenLaw} {q : Program} {loose : List Str} {XP : (Str → Option Value) → Heap → Prop} {YP : World → Heap → Prop} {d : DefRec} {K : Params → PySem.W.Frag} (hn : l.most = some 63) (hdf : d.params.defaults = [])
    (hY : ∀ (w : World) (h : Heap), YP w h → (K w.params).In h)
    (F : ∀ (w : World) (mg : Str → Option Value) (fa : Addr) (h : Heap), (K w.params).In h → h.Ns mainGlobals mg → mg d.name = some (.ref fa) →
      ∃ fd : FuncData, (∀ (s : Shared) (u : Value), BindsTo s fd ⟨[u], []⟩ [("_law_script", u)]) ∧ ∀ base : Heap, (K w.params).In base → base.Ns mainGlobals mg → FnOk l.prog w (K w.params) mg base (L2.CX l.prog w) 4 fa fd ["_law_script"] (sp_law (K w.params))) :
    PySem.W.WalkO q loose XP YP l.row.toRowW d [] (fun f vs => PySem.call f vs) :=
  L2.walk_ofB (n := 63) (k := 4) (x := "_law_script") (CX := fun w => L2.CX l.prog w) (sp := fun w => sp_law (K w.params)) hn (by decide) hdf ⟨rfl, by decide, by decide⟩ hY F
    (fun _ _ a ns hl hb _ hS => law_start hl (fun z hz => bits_of (hb z hz)) hS) fun _ _ _ _ _ h => by
      obtain ⟨_, _, _, _, _, _, _, _, _, _, _, _, z⟩ := h
      exact z.elim
end My
open PySem PySem.W PyProof.Rows in
set_option maxRecDepth 100000 in
set_option maxHeartbeats 0 in
theorem PySem.Challenge.cw_weighwords_k02_reckoned_holds : PySem.Challenge.rw_weighwords_k02_reckoned.Holds := by
  w_on; o_law; k_head; (case hw => w_witness2)
  k_fill
  refine My.walk (l := PySem.Challenge.rw_weighwords_k02_reckoned) rfl rfl (fun w h Y => PySem.W.kIn_of Y) ?F
  case F =>
    intro w mg fa h KX G hmg
    refine' My.all_mk KX G hmg ?aC_WeighError ?aC_Nought ?x_Nought ?k_Nought ?sB_Nought ?tB_Nought ?aC_NoText ?aC_NoRow ?aC_NoMachine ?aC_NoWord ?aC_OtherSigns ?aC_TooMany ?a0 ?l0 ?q0 ?k0 ?a1 ?l1 ?q1 ?k1 ?a2 ?l2 ?q2 ?k2 ?a3 ?l3 ?q3 ?k3 ?a4 ?l4 ?q4 ?k4 ?a5 ?l5 ?q5 ?k5 ?a6 ?l6 ?q6 ?k6 ?a7 ?l7 ?q7 ?k7 ?a8 ?l8 ?q8 ?k8 ?a9 ?l9 ?q9 ?k9 ?a10 ?l10 ?q10 ?k10 ?a11 ?l11 ?q11 ?k11 ?a12 ?l12 ?q12 ?k12 ?a13 ?l13 ?q13 ?k13 ?a14 ?l14 ?q14 ?k14 ?z_len ?z_isinstance ?z_int ?z_bool ?z_abs ?z_tuple ?z_ValueError ?z_max ?z_range ?g_gcd ?e6 ?e7 ?ic_WeighError ?tB_WeighError ?ic_Nought ?ic_NoText ?tB_NoText ?ic_NoRow ?tB_NoRow ?ic_NoMachine ?tB_NoMachine ?ic_NoWord ?tB_NoWord ?ic_OtherSigns ?tB_OtherSigns ?ic_TooMany ?tB_TooMany ?sB_WeighError ?e1_Nought ?e2_Nought ?e4_Nought ?e5_Nought ?e8_Nought ?ve_Nought ?we_Nought ?s_Nought_Nought ?s_Nought_NoText ?s_Nought_NoRow ?s_Nought_NoMachine ?s_Nought_NoWord ?s_Nought_OtherSigns ?s_Nought_TooMany
    (case aC_WeighError => k_is)
    (case aC_Nought => k_is)
    (case x_Nought => k_exc)
    (case k_Nought => k_is)
    (case sB_Nought => k_is)
    (case tB_Nought => k_is)
    (case aC_NoText => k_is)
    (case aC_NoRow => k_is)
    (case aC_NoMachine => k_is)
    (case aC_NoWord => k_is)
    (case aC_OtherSigns => k_is)
    (case aC_TooMany => k_is)
    (case a0 => k_is)
    (case l0 => k_is)
    (case q0 => k_is)
    (case k0 => k_is)
    (case a1 => k_is)
    (case l1 => k_is)
    (case q1 => k_is)
    (case k1 => k_is)
    (case a2 => k_is)
    (case l2 => k_is)
    (case q2 => k_is)
    (case k2 => k_is)
    (case a3 => k_is)
    (case l3 => k_is)
    (case q3 => k_is)
    (case k3 => k_is)
    (case a4 => k_is)
    (case l4 => k_is)
    (case q4 => k_is)
    (case k4 => k_is)
    (case a5 => k_is)
    (case l5 => k_is)
    (case q5 => k_is)
    (case k5 => k_is)
    (case a6 => k_is)
    (case l6 => k_is)
    (case q6 => k_is)
    (case k6 => k_is)
    (case a7 => k_is)
    (case l7 => k_is)
    (case q7 => k_is)
    (case k7 => k_is)
    (case a8 => k_is)
    (case l8 => k_is)
    (case q8 => k_is)
    (case k8 => k_is)
    (case a9 => k_is)
    (case l9 => k_is)
    (case q9 => k_is)
    (case k9 => k_is)
    (case a10 => k_is)
    (case l10 => k_is)
    (case q10 => k_is)
    (case k10 => k_is)
    (case a11 => k_is)
    (case l11 => k_is)
    (case q11 => k_is)
    (case k11 => k_is)
    (case a12 => k_is)
    (case l12 => k_is)
    (case q12 => k_is)
    (case k12 => k_is)
    (case a13 => k_is)
    (case l13 => k_is)
    (case q13 => k_is)
    (case k13 => k_is)
    (case a14 => k_is)
    (case l14 => k_is)
    (case q14 => k_is)
    (case k14 => k_is)
    (case z_len => k_is)
    (case z_isinstance => k_is)
    (case z_int => k_is)
    (case z_bool => k_is)
    (case z_abs => k_is)
    (case z_tuple => k_is)
    (case z_ValueError => k_is)
    (case z_max => k_is)
    (case z_range => k_is)
    (case g_gcd => k_is)
    (case e6 => k_is)
    (case e7 => k_is)
    (case ic_WeighError => k_is)
    (case tB_WeighError => k_is)
    (case ic_Nought => k_is)
    (case ic_NoText => k_is)
    (case tB_NoText => k_is)
    (case ic_NoRow => k_is)
    (case tB_NoRow => k_is)
    (case ic_NoMachine => k_is)
    (case tB_NoMachine => k_is)
    (case ic_NoWord => k_is)
    (case tB_NoWord => k_is)
    (case ic_OtherSigns => k_is)
    (case tB_OtherSigns => k_is)
    (case ic_TooMany => k_is)
    (case tB_TooMany => k_is)
    (case sB_WeighError => k_is)
    (case e1_Nought => k_is)
    (case e2_Nought => k_is)
    (case e4_Nought => k_is)
    (case e5_Nought => k_is)
    (case e8_Nought => k_is)
    (case ve_Nought => k_is)
    (case we_Nought => k_is)
    (case s_Nought_Nought => k_is)
    (case s_Nought_NoText => k_is)
    (case s_Nought_NoRow => k_is)
    (case s_Nought_NoMachine => k_is)
    (case s_Nought_NoWord => k_is)
    (case s_Nought_OtherSigns => k_is)
    (case s_Nought_TooMany => k_is)
