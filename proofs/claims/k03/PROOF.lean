import PyProof.Rows.All
import Wide.All
import OpenK.AllK
import Wide.FinOn
import HandS.WordsList
import HandS.ExcOwn
import HandS.TryOnly
import HandS.Comp
import HandS.Wide
import HandS.More
import PyProof.TypeEq
import PyProof.InstEq
import HandS.ForExc
import HandS.Gcd
import HandS.IsInst
import HandS.ExcIs
import HandS.HotCalls
import HandS.Style
import HandS.Text
import HandS.EndBits
import HandS.Evl
import HandS.Dict
import HandS.StrMore
import KE.IntTextLaws
import HandS.Replace
import HandS.Iter
import HandS.Walk
import PyProof.StrBlock2
import PySem.Challenge.RW_weighwords_k03_written
set_option Elab.async false
set_option linter.all false
set_option maxRecDepth 100000
set_option maxHeartbeats 4000000
namespace Ww
open PySem PySem.Spec PyProof.Rows L2

/-! ### == and != of two types -/
theorem slot_ty_ne : Slot "type" (cmpInfo .NotEq).2.1 "object.__ne__" :=
  .of (owner := "object") (n := "__ne__") (by rw [typeLookup_type, builtinLookup_eq_fast]; kernel_rfl) (by decide +kernel) (by decide +kernel) (by decide +kernel)
    (by first | exact .inl (by decide +kernel) | exact .inr (by decide +kernel)) (by rw [isSubtype_type]; kernel_rfl)
theorem slot_ty_ne2 : Slot "type" (cmpInfo .NotEq).2.2 "object.__ne__" :=
  .of (owner := "object") (n := "__ne__") (by rw [typeLookup_type, builtinLookup_eq_fast]; kernel_rfl) (by decide +kernel) (by decide +kernel) (by decide +kernel)
    (by first | exact .inl (by decide +kernel) | exact .inr (by decide +kernel)) (by rw [isSubtype_type]; kernel_rfl)
section
variable {prog : Program} {w : World} {A : Around} {E : Value → Shared → Prop} {s : Shared} {Q : Value → Shared → Prop}
theorem ne_ty_same {X : String} (hX : ∀ s' : Shared, s'.TypeIs (.type X) "type") (h : Q (.bool false) s) : wpAny (model prog w) A (compareOp .NotEq (.type X) (.type X)) Q E s := by
  show wpAny _ A (richCompare .NotEq _ _) Q E s
  refine wpAny_richCompare_same (T := "type") (hX s) (hX s) slot_ty_ne ?_
  refine wpAny_call_entry slot_ty_ne (hX s) F.entry_object_ne ?_ (F.args_object_ne_2 _ _)
  unfold Builtin.«object.__ne__»
  repeat (first
    | with_reducible refine wpAny_cRoomFor_or (.inl rfl) ?_
    | (refine wpAny_bind (m := callSpecialIfBound? (.type X) (Str.ofString "__eq__") [.type X])
        (wpAny_callSpecialIfBound?_slot (hX _) TypeEq.slot_type_eq (call_gives TypeEq.slot_type_eq (hX _) F.entry_object_eq (F.args_object_eq_2 _ _) (TypeEq.object_eq_same rfl (by simp)) ?_)))
    | (refine wpAny_bind (m := truthy (.bool _)) (wpAny_truthy_bool ?_))
    | wp_step)
  exact ⟨_, rfl, (by intro z; cases z), h⟩
theorem objNe_other {X Y : String} (hX : ∀ s' : Shared, s'.TypeIs (.type X) "type") (hne : (Value.type X == Value.type Y) = false) {Q : Value → Shared → Prop} (h : Q .notImplemented s) :
    wpAny (model prog w) A (call (.builtin "object.__ne__") [.type X, .type Y]) Q E s := by
  refine wpAny_call_entry slot_ty_ne (hX s) F.entry_object_ne ?_ (F.args_object_ne_2 _ _)
  unfold Builtin.«object.__ne__»
  repeat (first
    | with_reducible refine wpAny_cRoomFor_or (.inl rfl) ?_
    | (refine wpAny_bind (m := callSpecialIfBound? (.type X) (Str.ofString "__eq__") [.type Y])
        (wpAny_callSpecialIfBound?_slot (hX _) TypeEq.slot_type_eq (call_gives TypeEq.slot_type_eq (hX _) F.entry_object_eq (F.args_object_eq_2 _ _) (TypeEq.object_eq_other rfl hne) ?_)))
    | wp_step)
  show wpAny _ _ (ret Value.notImplemented) _ _ _
  first
    | exact wpAny_ret ⟨_, rfl, h⟩
    | exact wpAny_pure ⟨_, rfl, h⟩
theorem ne_ty_other {X Y : String} (hX : ∀ s' : Shared, s'.TypeIs (.type X) "type") (hY : ∀ s' : Shared, s'.TypeIs (.type Y) "type") (hne : (Value.type X == Value.type Y) = false) (h : Q (.bool true) s) : wpAny (model prog w) A (compareOp .NotEq (.type X) (.type Y)) Q E s := by
  have hne' : (Value.type Y == Value.type X) = false := by
    rw [Bool.eq_false_iff] at hne ⊢
    intro e
    exact hne (by rw [beq_iff_eq] at e ⊢; exact e.symm)
  show wpAny _ A (richCompare .NotEq (.type X) (.type Y)) Q E s
  have h1 : Slot "type" "__ne__" "object.__ne__" := slot_ty_ne
  have h2 : Slot "type" "__ne__" "object.__ne__" := slot_ty_ne2
  simp only [richCompare, cmpInfo_NotEq, (hX s).oneThing_none]
  try with_reducible refine wpAny_holding ?_
  refine wpAny_bind (wpAny_cRoomFor_or (.inl rfl) ?_)
  refine wpAny_bind (wpAny_typeOf (hX s) (wpAny_bind (wpAny_typeOf (hY s) ?_)))
  simp only [bne_self_eq_false, Bool.false_eq_true, if_false, pure_bind, Bool.not_false, if_true]
  refine wpAny_bind (m := tryCompare (.type X) _ (.type Y)) (wpAny_tryCompare_declines (hX s) h1 (objNe_other hX hne ⟨rfl, ?_⟩))
  refine wpAny_bind (m := tryCompare (.type Y) _ (.type X)) (wpAny_tryCompare_declines (hY s) h2 (objNe_other hY hne' ⟨rfl, ?_⟩))
  refine wpAny_bind (wpAny_rule (wpAny_bind (wpAny_of_eq (isSame_plain rfl) ?_)))
  rw [hne]
  exact wpAny_pure h
end
/-- the built-in types that the rules below tell apart -/
def isTy (n : String) : Bool := ["int", "str", "bool", "NoneType", "float", "list", "tuple", "dict", "set", "frozenset", "bytes", "complex", "range", "object", "type"].contains n
theorem isTy_meta {n : String} (h : isTy n = true) : ∀ s' : Shared, s'.TypeIs (.type n) "type" := by
  have h' : n ∈ ["int", "str", "bool", "NoneType", "float", "list", "tuple", "dict", "set", "frozenset", "bytes", "complex", "range", "object", "type"] := by
    unfold isTy at h
    exact List.contains_iff_mem.mp h
  simp only [List.mem_cons, List.not_mem_nil, or_false] at h'
  rcases h' with e | e | e | e | e | e | e | e | e | e | e | e | e | e | e <;> subst e
  · exact TypeEq.meta_int
  · exact TypeEq.meta_str
  · exact TypeEq.meta_bool
  · exact TypeEq.meta_NoneType
  · exact TypeEq.meta_float
  · exact TypeEq.meta_list
  · exact TypeEq.meta_tuple
  · exact TypeEq.meta_dict
  · exact TypeEq.meta_set
  · exact TypeEq.meta_frozenset
  · exact TypeEq.meta_bytes
  · exact TypeEq.meta_complex
  · exact TypeEq.meta_range
  · exact TypeEq.meta_object
  · exact TypeEq.meta_type
def rEqTy : R2 := fun x y H Q => ∃ a b, x = .ty a ∧ y = .ty b ∧ isTy a = true ∧ isTy b = true ∧ Q (.bl (decide (a = b))) H
def rNeTy : R2 := fun x y H Q => ∃ a b, x = .ty a ∧ y = .ty b ∧ isTy a = true ∧ isTy b = true ∧ Q (.bl (!decide (a = b))) H
section
variable {X : Cx}
theorem op_eqTy : OpR X (compareOp .Eq) rEqTy := by
  intro pins s σ H x y v u Q I rx ry h
  obtain ⟨a, b, rfl, rfl, ha, hb, q⟩ := h
  cases (show v = Value.type a from rx)
  cases (show u = Value.type b from ry)
  by_cases e : a = b
  · subst e
    exact TypeEq.eq_type_same (isTy_meta ha) ⟨.bl true, H, I, rfl, by simpa using q⟩
  · exact TypeEq.eq_type_other (isTy_meta ha) (isTy_meta hb) (beq_eq_false_iff_ne.mpr fun z => e (Value.type.inj z)) ⟨.bl false, H, I, rfl, by simpa [e] using q⟩
theorem op_neTy : OpR X (compareOp .NotEq) rNeTy := by
  intro pins s σ H x y v u Q I rx ry h
  obtain ⟨a, b, rfl, rfl, ha, hb, q⟩ := h
  cases (show v = Value.type a from rx)
  cases (show u = Value.type b from ry)
  by_cases e : a = b
  · subst e
    exact ne_ty_same (isTy_meta ha) ⟨.bl false, H, I, rfl, by simpa using q⟩
  · exact ne_ty_other (isTy_meta ha) (isTy_meta hb) (beq_eq_false_iff_ne.mpr fun z => e (Value.type.inj z)) ⟨.bl true, H, I, rfl, by simpa [e] using q⟩
end
end Ww
namespace Ww
open PySem PySem.Spec PyProof.Rows L2

/-! ### great whole numbers -/
def CMulG (i j : Int) : Prop := i.natAbs.log2 + j.natAbs.log2 < 134000000
theorem CMulG.ok {i j : Int} (h : CMulG i j) : IntMulOk i j := by
  have b : ∀ x : Int, Builtin.Int.intBits x ≤ x.natAbs.log2 + 1 := fun x => by
    unfold Builtin.Int.intBits
    split <;> omega
  have h1 := b i
  have h2 := b j
  have h3 : i.natAbs.log2 + j.natAbs.log2 < 134000000 := h
  have e : bitsLine = 134217728 := by decide
  unfold IntMulOk
  intro z
  rw [Bool.and_eq_true] at z
  have z2 := z.2
  unfold Builtin.Int.intTooBig at z2
  have z3 := of_decide_eq_true z2
  rw [e] at z3
  omega
def CDivG (_ j : Int) : Prop := j ≠ 0 ∧ j.natAbs.log2 < 9000
section
variable {X : Cx}
theorem op_mulG : OpR X (binaryOp .Mult) (rI CMulG fun i j => .int (i * j)) := opI fun _ _ _ _ _ _ _ hc q => mul_int q hc.ok
theorem op_fdivG : OpR X (binaryOp .FloorDiv) (rI CDivG fun i j => .int (i.fdiv j)) := opI fun _ _ _ _ _ _ _ hc q => floordiv_int hc.1 q (.inl (PyProof.noPylong_of_log2 hc.2))
end
theorem log2_lt {n b : Nat} (hb : 0 < b) (h : n < 2 ^ b) : n.log2 < b := PySem.Flt.log2_lt_of hb h
theorem mulG_of {i j : Int} {a b : Nat} (ha : i.natAbs < 2 ^ a) (hb : j.natAbs < 2 ^ b) (h0 : 0 < a) (h1 : 0 < b) (h : a + b ≤ 134000000) : CMulG i j := by
  have x := log2_lt h0 ha
  have y := log2_lt h1 hb
  unfold CMulG
  omega
theorem divG_of {i j : Int} {b : Nat} (h : j ≠ 0) (hb : j.natAbs < 2 ^ b) (h0 : 0 < b) (h9 : b ≤ 9000) : CDivG i j := ⟨h, Nat.lt_of_lt_of_le (log2_lt h0 hb) h9⟩

/-! ### a def called in an except suite with the exception as its argument -/
/-- what the callee may know of the exception that is held -/
def ExcZ (C : Addr) (p : Addr × Obj) : Prop := Zc (.ref C) none p.2 ∧ ∃ vs, p.2.data = .fields vs
structure FnZ (P : Program) (w : World) (K : PySem.W.Frag) (mg : Str → Option Value) (base : Heap) (CX : CXT) (k : Nat) (f : Addr) (fd : FuncData) (ps : List Str) (C : Addr) (sp : Addr → Sp) : Prop where
  len : ∀ a vs H Q E, sp a vs H Q E → vs.length = ps.length
  run : ∀ (A : Around) (outer : List Env) (s : Shared) (H : Hp) (args : Args) (us : List Value) (vs : List V) (Q : VK) (E : XK) (p : Addr × Obj), L2H.RoomH k A → ExcZ C p → L2H.PinOk outer H s p → Env0 P w K mg base A outer s H → BindsTo s fd args (ps.zip us) → Vals vs us → sp p.1 vs H Q E →
    codeAny (model P w) A (.call (.ref f) args) (CR CX outer P w H s Q E) s
theorem fn_ofZ {CX : CXT} {P : Program} {w : World} {K : PySem.W.Frag} {mg : Str → Option Value} {base : Heap} {k : Nat} {f : Addr} {name qual : Str} {params : Arguments} {body : List Stmt} {scope : Scope} {dV kV doc pm cdv ct oc : Value} {an od : Option Addr}
    {osl : Array (Option Value)} {N ps : List Str} {C : Addr} {sp : Addr → Sp} (lk : K.lookup f = some ⟨oc, od, .func (PySem.W.fnOf name qual params body scope dV kV doc pm an cdv ct), osl⟩) (hcd : PySem.W.codeIn K cdv qual = true) (S : FnScope N ps scope)
    (len : ∀ a vs H Q E, sp a vs H Q E → vs.length = ps.length)
    (hbody : ∀ (A : Around) (outer : List Env) (s : Shared) (H : Hp) (vs : List V) (Q : VK) (E : XK) (p : Addr × Obj), ExcZ C p → L2H.RoomH k (A.deeper (envOfC qual scope s.heap.objs.size f cdv)) → sp p.1 vs H Q E →
      ∃ t, PSs (L2H.cxH CX P w K mg base N qual scope f cdv A outer s H E p) body t ∧ t { nx := fun _ H' => Q .non H', rt := Q } (L2.start N vs) H) :
    FnZ P w K mg base CX (k + 1) f (PySem.W.fnOf name qual params body scope dV kV doc pm an cdv ct) ps C sp := by
  refine ⟨len, fun A outer s H args us vs Q E p hr hz hpin e0 hb r hsp => ?_⟩
  have hl := len _ _ _ _ _ hsp
  have KX : K.In s.heap := e0.mod.kin.keeps fun b o e => (e0.bs b o e).1
  have lim : s.heap.NoLimit := e0.mod.nolimit.keeps fun b o e => (e0.bs b o e).1
  have hkind : ∀ y ∈ ps.zip us, scope.names.lookup y.1 = some .local ∨ (scope.names.lookup y.1 = some .cell ∧ ((cellsFrom (s.heap.objs.size + 1) scope.names []).lookup y.1).isSome = true) := fun ⟨n, v⟩ hy => by
    rcases S.par n (List.of_mem_zip hy).1 with q | q
    · exact .inl q
    · exact .inr ⟨q, PySem.W.cellsFrom_some _ _ _ (.inl q)⟩
  refine codeAny_call_function hr.depth (KX _ _ lk) rfl S.co S.gen rfl (PySem.W.codeRec_of KX hcd) (hb _ _ _ _ ?_)
  refine wpAny_newFunctionEnv_cells S.kind hkind fun env he s1 x => ?_
  subst he
  refine ⟨lim.keeps x.toInCall.keep, codeAny_func ?_⟩
  obtain ⟨t, ht, hq⟩ := hbody A outer s H vs Q E p hz (hr.deeper _) hsp
  have I : Inv (L2H.cxH CX P w K mg base N qual scope f cdv A outer s H E p) [] (L2.start N vs) H s1 := L2H.inv_startH S hpin e0 hl r x
  refine wpAny_mono (ht.run [] s1 (L2.start N vs) H _ I hq) (fun fl s' hs => ?_) fun e s' hs => hs
  have fin : ∀ {σ' : L2.St} {H' : Hp} {v : V} {u : Value}, Inv (L2H.cxH CX P w K mg base N qual scope f cdv A outer s H E p) [] σ' H' s' → RelV v u → Q v H' → CE outer P w H s Q u s' :=
    fun {σ' H' v u} J rv q => ⟨v, H', J.os, J.bare, J.base, J.hok, rv, q⟩
  cases fl with
  | ret u =>
    obtain ⟨v, σ', H', J, rv, q⟩ := hs
    exact fin J rv q
  | next =>
    obtain ⟨σ', H', J, q⟩ := hs
    exact fin (v := V.non) (u := Value.none) J rfl q
  | brk =>
    obtain ⟨_, _, _, q⟩ := hs
    exact False.elim q
  | cont =>
    obtain ⟨_, _, _, q⟩ := hs
    exact False.elim q
theorem _root_.L2.Fun.okZ {P : Program} {w : World} {K : PySem.W.Frag} {mg : Str → Option Value} {base : Heap} {x qual : Str} {st : Stmt} {f : Addr} {fd : FuncData} {N ps : List Str} {k : Nat} {C : Addr} {sp : Addr → Sp} (F : Fun K x qual st f fd) (S : FnScope N ps (defScope st)) (len : ∀ a vs H Q E, sp a vs H Q E → vs.length = ps.length)
    (hbody : ∀ (cdv : Value) (A : Around) (outer : List Env) (s : Shared) (H : Hp) (vs : List V) (Q : VK) (E : XK) (p : Addr × Obj), ExcZ C p → L2H.RoomH k (A.deeper (envOfC qual (defScope st) s.heap.objs.size f cdv)) → sp p.1 vs H Q E →
      ∃ t, PSs (L2H.cxH (L2.CX P w) P w K mg base N qual (defScope st) f cdv A outer s H E p) (defBody st) t ∧ t { nx := fun _ H' => Q .non H', rt := Q } (L2.start N vs) H) : FnZ P w K mg base (L2.CX P w) (k + 1) f fd ps C sp := by
  obtain ⟨oc, od, kV, doc, pm, an, cdv, ct, osl, rfl, lk, hcd⟩ := F.ex
  exact fn_ofZ lk hcd S len fun A outer s H vs Q E p hz hr hsp => hbody cdv A outer s H vs Q E p hz hr hsp

/-- the context of a suite (or of a def called in one) that holds the exception a of the class C -/
structure InSuite (X : Cx) (C a : Addr) : Prop where
  pin : ∃ oe, ExcZ C (a, oe) ∧ (a, oe) ∈ X.pn
  pass : X.xe = fun _ _ => False
def tCallZ (sp : Addr → Sp) (a : Addr) (t : TA) : TE := fun σ H Q => t σ H fun vs H1 => sp a vs H1 Q E0
section
variable {X : Cx} {k : Nat} {f C a : Addr} {fd : FuncData} {ps : List Str} {sp : Addr → Sp} {x : Str} {q pos : Pos} {e : Expr} {es : List Expr} {t : TA}
theorem pe_callZ (F : FnZ X.prog X.w X.K X.mg X.base (L2.CX X.prog X.w) k f fd ps C sp) (hr : L2H.RoomH k X.A) (hc : ∃ oe, ExcZ C (a, oe) ∧ (a, oe) ∈ X.pn) (hg : Gl X x) (hm : X.mg x = some (.ref f)) (hk : PySem.W.keepIn X.K (.ref f) = true) (hb : Binds X.K fd ps [])
    (ha : PA X (e :: es) t) (hdb : (x == ("__debug__" : Str)) = false := by decide) (he : starEach (e :: es) X.env = (false, eval e X.env) :: starEach es X.env := by rfl) (hpl : (backTo pos (starEach es X.env)).any (·.1) = false := by rfl) :
    PE X (.Call (.Name x q) (e :: es) [] pos) (tCallZ sp a t) := by
  refine ⟨fun pins s σ H Q I h => ?_⟩
  refine wpAny_Call_Name_kw (ld_glob I hg hm ?_ hdb)
  refine PySem.W.callWith_K (h₀ := X.base) I.ok.mod.kin hk (thn (ha.run pos pins s σ H _ I h) fun us s1 ⟨vs, H1, I1, r, q⟩ => ⟨I1.kIn, ?_⟩) he hpl
  obtain ⟨oe, hz, hp⟩ := hc
  have hl : us.length = ps.length := by rw [← r.length]; exact F.len _ _ _ _ _ q
  have b := hb s1 us I1.kIn (by rw [List.append_nil]; exact hl)
  rw [List.append_nil] at b
  have P1 := I1.pin (a, oe) (List.mem_append_left _ hp)
  have hpin : L2H.PinOk X.stack H1 s1 (a, oe) := ⟨P1.1, P1.2.1, fun hm => (List.mem_cons.mp (I1.stkSub a hm)).elim P1.2.2.1 P1.2.2.2.1, P1.2.2.2.2⟩
  refine wpAny_call (codeAny_mono (F.run X.A X.stack s1 H1 ⟨us, []⟩ us vs Q E0 (a, oe) hr hz hpin I1.env0 b r q) fun r s' hq => ?_)
  cases r with
  | error e => exact passL pins σ H1 s1 e s' I1 hq
  | ok fl =>
    cases fl with
    | ret u => exact I1.after hq
    | next => exact False.elim hq
    | brk => exact False.elim hq
    | cont => exact False.elim hq
/-- isinstance(e, c), e the exception that is held -/
theorem call_isZ (C' : ExcC X.K C) (hc : ∃ oe, ExcZ C (a, oe) ∧ (a, oe) ∈ X.pn) : CallR X (.builtin "isinstance") (rIsE X.K C a) := by
  intro pins s σ H xs us Q I r h
  obtain ⟨c, cv, b, rfl, hcv, e, q⟩ := h
  obtain ⟨oe, ⟨hz, vs, hv⟩, hp⟩ := hc
  cases r with
  | cons rx rr =>
    cases rr with
    | cons rt rr =>
      cases rr
      cases rx
      have ec := hcv _ rt
      subst ec
      obtain ⟨hget, _⟩ := I.pin (a, oe) (List.mem_append.mpr (.inl hp))
      have J : PySem.W.InstAt s.heap a oe C none := by
        obtain ⟨oc, od, oda, osl⟩ := oe
        obtain ⟨h1, h2⟩ := hz
        dsimp only at h1 h2 hv
        subst h1 h2 hv
        exact ⟨hget, rfl, rfl, trivial⟩
      exact PySem.W.kia_one (PySem.W.handS_kitx_exc C'.hg C'.hk C'.hs C'.hd C'.ha C'.hn C'.ht C'.hm) I.kIn J e (fun z => nomatch z) fun tk => ⟨.bl b, H, I.kept (t' := tk) fun _ _ z => z, rfl, q⟩
end
end Ww

namespace Ww
open PySem PySem.Spec PyProof.Rows L2
section
variable {K : PySem.W.Frag} {C D : Addr}
theorem kit_sub {b : Bool} (h2 : PySem.W.isClsIn K D = true) (h3 : PySem.W.typeIn K (.ref D) = some (.type "type")) (h4 : PySem.W.subIn K (.ref C) (.ref D) = some b) : PySem.W.kitCls K (.ref C) (.ref D) = some b := by
  have e2 : ((PySem.W.clsIn K D).isSome && PySem.W.typeIn K (.ref D) == some (.type "type")) = true := by
    have h2' : (PySem.W.clsIn K D).isSome = true := h2
    rw [h2', h3] <;> rfl
  show (if ((PySem.W.clsIn K D).isSome && PySem.W.typeIn K (.ref D) == some (.type "type")) = true then PySem.W.subIn K (.ref C) (.ref D) else none) = some b
  rw [if_pos e2]
  exact h4
theorem kit_self : PySem.W.kitOne K (.ref C) (.ref C) = some true := if_pos (beq_self_eq_true _)
theorem kit_other (h2 : PySem.W.isClsIn K D = true) (h3 : PySem.W.typeIn K (.ref D) = some (.type "type")) (h4 : PySem.W.subIn K (.ref C) (.ref D) = some false) (h5 : PySem.W.subIn K (.ref C) (.ref C) = some true) : PySem.W.kitOne K (.ref C) (.ref D) = some false := by
  have ne : ((Value.ref C : Value) == Value.ref D) = false := by
    refine beq_eq_false_iff_ne.mpr fun z => ?_
    have e : C = D := Value.ref.inj z
    subst e
    rw [h4] at h5
    cases h5
  unfold PySem.W.kitOne
  rw [ne]
  exact kit_sub h2 h3 h4
theorem kit_ve (h : PySem.W.subIn K (.ref C) (.type "ValueError") = some true) : PySem.W.kitOne K (.ref C) (.type "ValueError") = some true := by
  have ne : ((Value.ref C : Value) == Value.type "ValueError") = false := by
    refine beq_eq_false_iff_ne.mpr fun z => ?_
    cases z
  unfold PySem.W.kitOne
  rw [ne]
  show (if PySem.W.kitMeta "ValueError" = true then PySem.W.subIn K (.ref C) (.type "ValueError") else none) = some true
  rw [if_pos (by decide +kernel)]
  exact h
theorem exm_sub {b : Bool} (h1 : PySem.W.subIn K (.ref D) (.type "BaseException") = some true) (h2 : PySem.W.isClsIn K D = true) (h3 : PySem.W.typeIn K (.ref D) = some (.type "type")) (h4 : PySem.W.subIn K (.ref C) (.ref D) = some b) :
    PySem.W.exmOne K (.ref C) (.ref D) = some b := by
  have e1 : (PySem.W.subIn K (.ref D) (.type "BaseException") == some true) = true := by rw [h1] <;> rfl
  show (if (PySem.W.subIn K (.ref D) (.type "BaseException") == some true) = true then PySem.W.kitCls K (.ref C) (.ref D) else none) = some b
  rw [if_pos e1]
  exact kit_sub h2 h3 h4
end
end Ww
namespace Ww
open PySem PySem.Spec PyProof.Rows L2
open Evl (Ex)

/-! ### kinds of things -/
def Any (K : PySem.W.Frag) (H : Hp) (x : V) : Prop := ∃ n, TyB K H x n ∧ TyX K H x (.type n) ∧ isTy n = true
section
variable {K : PySem.W.Frag} {H H' : Hp} {a : Addr} {x : V} {xs : List V}
theorem tyx_tup (h : SqT K H a xs) : TyX K H (.ref a) (.type "tuple") := by
  rcases h with (h | ⟨o, h⟩) | ⟨o, its, n, h1, h2, h3, h4, h5⟩
  · exact .base (.tup h)
  · exact .fTuple h
  · exact .kTuple h1 h2
theorem tyx_lst (h : SqL K H a xs) : TyX K H (.ref a) (.type "list") := by
  rcases h with (h | ⟨o, h⟩) | ⟨o, its, n, h1, h2, h3, h4, h5⟩
  · exact .base (.lst h)
  · exact .base (.frz h)
  · exact .kList h1 h2
theorem any_non : Any K H .non := ⟨_, .non, .base .non, by decide⟩
theorem any_bl (b : Bool) : Any K H (.bl b) := ⟨_, .bl b, .base (.bl b), by decide⟩
theorem any_int (i : Int) : Any K H (.int i) := ⟨_, .int i, .base (.int i), by decide⟩
theorem any_str (s : Str) : Any K H (.str s) := ⟨_, .str s, .base (.str s), by decide⟩
theorem any_lst (h : SqL K H a xs) : Any K H (.ref a) := ⟨_, .lst h, tyx_lst h, by decide⟩
theorem any_tup (h : SqT K H a xs) : Any K H (.ref a) := ⟨_, .tup h, tyx_tup h, by decide⟩
theorem any_dK {kvs : List (Key × V)} (h : H a = some (.dK kvs)) : Any K H (.ref a) := ⟨_, .dK h, .base (.dK h), by decide⟩
theorem tyb_mono {n : String} (e : Ex H H') (h : TyB K H x n) : TyB K H' x n := by
  cases h with
  | non => exact .non
  | bl b => exact .bl b
  | int i => exact .int i
  | str s => exact .str s
  | byt b => exact .byt b
  | lst h => exact .lst (Evl.ex_l e h)
  | tup h => exact .tup (Evl.ex_t e h)
  | dK h => exact .dK (e _ _ h)
theorem tyx_of_b {n : String} (h : TyB K H x n) : TyX K H x (.type n) := by
  cases h with
  | non => exact .base .non
  | bl b => exact .base (.bl b)
  | int i => exact .base (.int i)
  | str s => exact .base (.str s)
  | byt b => exact .byt b
  | lst h => exact tyx_lst h
  | tup h => exact tyx_tup h
  | dK h => exact .base (.dK h)
theorem Any.mono (e : Ex H H') (h : Any K H x) : Any K H' x := by
  obtain ⟨n, h1, _, h3⟩ := h
  exact ⟨n, tyb_mono e h1, tyx_of_b (tyb_mono e h1), h3⟩
end

/-! ### shares -/
def gcdI (a b : Int) : Int := ((Nat.gcd a.natAbs b.natAbs : Nat) : Int)
def isSh (a b : Int) : Bool := decide (1 ≤ b) && decide (Nat.gcd a.natAbs b.natAbs = 1)
/-- whether the items of a tuple are a share -/
def shB : List V → Bool
  | [.int a, .int b] => isSh a b
  | _ => false
inductive Thing (K : PySem.W.Frag) (H : Hp) : V → Bool → Prop
  | no {x : V} {n : String} (h : TyB K H x n) (hn : n ≠ "tuple") (ht : isTy n = true) : Thing K H x false
  | tup {a : Addr} {xs : List V} (h : SqT K H a xs) (hx : ∀ y ∈ xs, Any K H y) : Thing K H (.ref a) (shB xs)
theorem Thing.mono {K : PySem.W.Frag} {H H' : Hp} {x : V} {b : Bool} (e : Ex H H') (h : Thing K H x b) : Thing K H' x b := by
  cases h with
  | no h hn ht => exact .no (tyb_mono e h) hn ht
  | tup h hx => exact .tup (Evl.ex_t e h) fun y hy => (hx y hy).mono e

/-- the share of top by bottom -/
def shC (top bottom : Int) : Int := if bottom < 0 then -(gcdI top bottom) else gcdI top bottom
def shT (top bottom : Int) : Int := top.fdiv (shC top bottom)
def shBt (top bottom : Int) : Int := bottom.fdiv (shC top bottom)
theorem gcdI_pos {a b : Int} (h : b ≠ 0) : 0 < gcdI a b := by
  unfold gcdI
  have : 0 < Nat.gcd a.natAbs b.natAbs := Nat.gcd_pos_of_pos_right _ (Int.natAbs_pos.mpr h)
  omega
theorem gcdI_dvd_left (a b : Int) : gcdI a b ∣ a := by
  unfold gcdI
  exact Int.ofNat_dvd_left.mpr (Nat.gcd_dvd_left _ _)
theorem gcdI_dvd_right (a b : Int) : gcdI a b ∣ b := by
  unfold gcdI
  exact Int.ofNat_dvd_left.mpr (Nat.gcd_dvd_right _ _)
theorem fdiv_of_mul {a c k : Int} (hc : c ≠ 0) (h : a = c * k) : a.fdiv c = k := by
  subst h
  exact Int.mul_fdiv_cancel_left k hc
theorem share_ok {top bottom : Int} (h : bottom ≠ 0) :
    shC top bottom ≠ 0 ∧ 0 < shBt top bottom ∧ Nat.gcd (shT top bottom).natAbs (shBt top bottom).natAbs = 1 ∧ shT top bottom * bottom = top * shBt top bottom ∧
    (shT top bottom).natAbs ≤ top.natAbs ∧ (shBt top bottom).natAbs ≤ bottom.natAbs ∧ (shC top bottom).natAbs ≤ bottom.natAbs := by
  have gp : 0 < gcdI top bottom := gcdI_pos h
  obtain ⟨k, hk⟩ := gcdI_dvd_left top bottom
  obtain ⟨l, hl⟩ := gcdI_dvd_right top bottom
  have key : Nat.gcd k.natAbs l.natAbs = 1 := by
    have e : gcdI top bottom = ((Nat.gcd top.natAbs bottom.natAbs : Nat) : Int) := rfl
    have en : (gcdI top bottom).natAbs = Nat.gcd top.natAbs bottom.natAbs := by rw [e]; rfl
    have e1 : top.natAbs = (gcdI top bottom).natAbs * k.natAbs := by rw [← Int.natAbs_mul, ← hk]
    have e2 : bottom.natAbs = (gcdI top bottom).natAbs * l.natAbs := by rw [← Int.natAbs_mul, ← hl]
    have e3 : Nat.gcd top.natAbs bottom.natAbs = (gcdI top bottom).natAbs * Nat.gcd k.natAbs l.natAbs := by
      rw [e1, e2, Nat.gcd_mul_left]
    rw [← en] at e3
    have hp : 0 < (gcdI top bottom).natAbs := Int.natAbs_pos.mpr (by omega)
    exact Nat.eq_of_mul_eq_mul_left hp (by rw [Nat.mul_one]; exact e3.symm)
  have gle : (gcdI top bottom).natAbs ≤ bottom.natAbs := by
    have e2 : bottom.natAbs = (gcdI top bottom).natAbs * l.natAbs := by rw [← Int.natAbs_mul, ← hl]
    have hl0 : 0 < l.natAbs := by
      refine Nat.pos_of_ne_zero fun z => h ?_
      rw [z, Nat.mul_zero] at e2
      exact Int.natAbs_eq_zero.mp e2
    rw [e2]
    exact Nat.le_mul_of_pos_right _ hl0
  have kle : k.natAbs ≤ top.natAbs := by
    have e1 : top.natAbs = (gcdI top bottom).natAbs * k.natAbs := by rw [← Int.natAbs_mul, ← hk]
    rw [e1]
    exact Nat.le_mul_of_pos_left _ (Int.natAbs_pos.mpr (by omega))
  have lle : l.natAbs ≤ bottom.natAbs := by
    have e2 : bottom.natAbs = (gcdI top bottom).natAbs * l.natAbs := by rw [← Int.natAbs_mul, ← hl]
    rw [e2]
    exact Nat.le_mul_of_pos_left _ (Int.natAbs_pos.mpr (by omega))
  by_cases hb : bottom < 0
  · have ec : shC top bottom = -(gcdI top bottom) := if_pos hb
    have et : shT top bottom = -k := by
      unfold shT
      rw [ec]
      exact fdiv_of_mul (by omega) (by rw [Int.neg_mul_neg]; exact hk)
    have eb : shBt top bottom = -l := by
      unfold shBt
      rw [ec]
      exact fdiv_of_mul (by omega) (by rw [Int.neg_mul_neg]; exact hl)
    rw [ec, et, eb, Int.natAbs_neg, Int.natAbs_neg, Int.natAbs_neg]
    refine ⟨by omega, ?_, key, ?_, kle, lle, gle⟩
    · refine Int.neg_pos_of_neg ?_
      refine Int.lt_of_not_ge fun z => ?_
      have : 0 ≤ gcdI top bottom * l := Int.mul_nonneg (by omega) z
      omega
    · rw [Int.neg_mul, Int.mul_neg]
      congr 1
      conv => lhs; rw [hl]
      conv => rhs; rw [hk]
      rw [Int.mul_left_comm, Int.mul_assoc]
  · have ec : shC top bottom = gcdI top bottom := if_neg hb
    have et : shT top bottom = k := by
      unfold shT
      rw [ec]
      exact fdiv_of_mul (by omega) hk
    have eb : shBt top bottom = l := by
      unfold shBt
      rw [ec]
      exact fdiv_of_mul (by omega) hl
    rw [ec, et, eb]
    refine ⟨by omega, ?_, key, ?_, kle, lle, gle⟩
    · refine Int.lt_of_not_ge fun z => ?_
      have : gcdI top bottom * l ≤ 0 := Int.mul_nonpos_of_nonneg_of_nonpos (by omega) z
      omega
    · conv => lhs; rw [hl]
      conv => rhs; rw [hk]
      rw [Int.mul_left_comm, Int.mul_assoc]
theorem isSh_share {top bottom : Int} (h : bottom ≠ 0) : isSh (shT top bottom) (shBt top bottom) = true := by
  obtain ⟨_, h1, h2, _⟩ := share_ok h (top := top)
  unfold isSh
  rw [decide_eq_true h2, decide_eq_true (show 1 ≤ shBt top bottom by omega)]
  rfl

/-! ### Euclid -/
theorem gcd_step {a b : Int} (ha : 0 ≤ a) (hb : 0 < b) : gcdI b (a % b) = gcdI a b := by
  unfold gcdI
  congr 1
  have e : (a % b).natAbs = a.natAbs % b.natAbs := by
    rw [Int.natAbs_emod_of_nonneg ha]
  rw [e, Nat.gcd_comm a.natAbs b.natAbs, Nat.gcd_rec b.natAbs a.natAbs, Nat.gcd_comm]
theorem gcd_zero {a : Int} (ha : 0 ≤ a) : gcdI a 0 = a := by
  unfold gcdI
  show ((Nat.gcd a.natAbs 0 : Nat) : Int) = a
  rw [Nat.gcd_zero_right]
  omega

/-! ### the law's numbers -/
def big : Nat := 10 ^ 60
/-- a cell of the script -/
def wCell (ns : List Int) (k : Int) : Int := if k < (ns.length : Int) then ns.getD k.toNat 0 else 0
def bitTop : Nat := 1048577
def Bits (c : Int) : Prop := c.natAbs < 2 ^ bitTop
theorem bits_of {c : Int} (h : Builtin.Int.intBits c ≤ 1048576) : Bits c := by
  unfold Bits
  unfold Builtin.Int.intBits at h
  split at h
  · rename_i z
    first
      | (rw [z]; exact Nat.two_pow_pos _)
      | (have : c = 0 := by simpa using z
         rw [this]; exact Nat.two_pow_pos _)
  · have h2 : c.natAbs.log2 < bitTop := by show c.natAbs.log2 < 1048577; omega
    exact (Nat.log2_lt (by intro z; simp_all)).mp h2
end Ww
namespace Ww
open PySem PySem.Spec PyProof.Rows L2
open Evl (Ex)
/-- as Fun.ok, with the exceptions' own lying -/
theorem _root_.L2.Fun.okN {P : Program} {w : World} {K : PySem.W.Frag} {mg : Str → Option Value} {base : Heap} {x qual : Str} {st : Stmt} {f : Addr} {fd : FuncData} {N ps : List Str} {k : Nat} {sp : Sp} (F : Fun K x qual st f fd) (S : FnScope N ps (defScope st)) (len : ∀ vs H Q E, sp vs H Q E → vs.length = ps.length)
    (hbody : ∀ (cdv : Value) (A : Around) (outer : List Env) (s : Shared) (H : Hp) (vs : List V) (Q : VK) (E : XK), Room k (A.deeper (envOfC qual (defScope st) s.heap.objs.size f cdv)) → sp vs H Q E →
      ∃ t, PSs (cxOf (L2.CX P w) P w K mg base N qual (defScope st) f cdv A outer s H E).nox (defBody st) t ∧ t { nx := fun _ H' => Q .non H', rt := Q } (start N vs) H) : FnOk P w K mg base (L2.CX P w) (k + 1) f fd ps sp := by
  obtain ⟨oc, od, kV, doc, pm, an, cdv, ct, osl, rfl, lk, hcd⟩ := F.ex
  refine fn_of lk hcd S len fun A outer s H vs Q E hr hsp => ?_
  obtain ⟨t, h, q⟩ := hbody cdv A outer s H vs Q E hr hsp
  exact ⟨t, h.nox, q⟩
theorem roomH_mark {k : Nat} {A : Around} {v : Option Value} (r : Room k A) : L2H.RoomH k (A.mark v) := ⟨r.dp, r.un⟩
/-- f(e) in a suite that holds an exception of the class C: cls and d are what the suite is told -/
def tCallZs (cls : Value) (d : Option Addr) (C : Addr) (sp : Addr → Sp) (a : Addr) (t : TA) : TE := fun σ H Q => cls = .ref C ∧ d = none ∧ t σ H fun vs H1 => sp a vs H1 Q E0
section
variable {X : Cx} {k : Nat} {f C a : Addr} {fd : FuncData} {ps : List Str} {sp : Addr → Sp} {x : Str} {q pos : Pos} {e : Expr} {es : List Expr} {t : TA}
theorem pe_callZs {cls : Value} {d : Option Addr} {oe : Obj} {pn : List (Addr × Obj)} (hz : Zc cls d oe) (hf : ∃ vs, oe.data = .fields vs) (F : FnZ X.prog X.w X.K X.mg X.base (L2.CX X.prog X.w) k f fd ps C sp) (hr : Room k X.A) (hg : Gl (X.suite a ((a, oe) :: pn)) x) (hm : X.mg x = some (.ref f)) (hk : PySem.W.keepIn X.K (.ref f) = true) (hb : Binds X.K fd ps [])
    (ha : PA (X.suite a ((a, oe) :: pn)) (e :: es) t) (hdb : (x == ("__debug__" : Str)) = false := by decide) (he : starEach (e :: es) X.env = (false, eval e X.env) :: starEach es X.env := by rfl) (hpl : (backTo pos (starEach es X.env)).any (·.1) = false := by rfl) :
    PE (X.suite a ((a, oe) :: pn)) (.Call (.Name x q) (e :: es) [] pos) (tCallZs cls d C sp a t) := by
  refine ⟨fun pins s σ H Q I h => ?_⟩
  obtain ⟨e1, e2, h⟩ := h
  subst e1
  subst e2
  exact (pe_callZ (X := X.suite a ((a, oe) :: pn)) (a := a) F (roomH_mark hr) ⟨oe, ⟨hz, hf⟩, List.Mem.head _⟩ hg hm hk hb ha hdb he hpl).run pins s σ H Q I h
end
end Ww
namespace Ww
open PySem PySem.Spec PyProof.Rows L2
open Evl (Ex)
theorem vi {i j : Int} : (V.int i = V.int j) ↔ i = j := ⟨fun z => V.int.inj z, fun z => z ▸ rfl⟩
theorem eqT {i j : Int} (h : i = j) : decide (V.int i = V.int j) = true := decide_eq_true (vi.mpr h)
theorem eqF {i j : Int} (h : i ≠ j) : decide (V.int i = V.int j) = false := decide_eq_false fun z => h (vi.mp z)
theorem neT {i j : Int} (h : i ≠ j) : (!decide (V.int i = V.int j)) = true := by rw [eqF h]; rfl
theorem neF {i j : Int} (h : i = j) : (!decide (V.int i = V.int j)) = false := by rw [eqT h]; rfl
/-- an if whose test is known by an equation -/
theorem itT {c : Bool} {A B : Prop} (e : c = true) (h : A) : if c = true then A else B := by rw [if_pos e]; exact h
theorem itF {c : Bool} {A B : Prop} (e : c = false) (h : B) : if c = true then A else B := by rw [e]; exact iteF h
theorem itC {c : Bool} {A B : Prop} (h1 : c = true → A) (h2 : c = false → B) : if c = true then A else B := by
  cases c with
  | true => exact iteT (h1 rfl)
  | false => exact iteF (h2 rfl)
theorem shB_len {xs : List V} (h : xs.length ≠ 2) : shB xs = false := by
  match xs, h with
  | [], _ => rfl
  | [x], _ => cases x <;> rfl
  | [_, _], h => exact absurd rfl h
  | x :: y :: z :: r, _ => cases x <;> cases y <;> rfl
theorem two_of {xs : List V} (h : xs.length = 2) : ∃ x y, xs = [x, y] := by
  match xs, h with
  | [x, y], _ => exact ⟨x, y, rfl⟩
theorem tyb_int {K : PySem.W.Frag} {H : Hp} {x : V} {n : String} (h : TyB K H x n) (hn : n = "int") : ∃ i, x = .int i := by
  cases h with
  | int i => exact ⟨i, rfl⟩
  | _ => exact absurd hn (by decide)
theorem shB_fst {x y : V} (h : ∀ i, x ≠ .int i) : shB [x, y] = false := by
  cases x <;> cases y <;> first | rfl | exact absurd rfl (h _)
theorem shB_snd {x y : V} (h : ∀ i, y ≠ .int i) : shB [x, y] = false := by
  cases x <;> cases y <;> first | rfl | exact absurd rfl (h _)
theorem tyb_not {K : PySem.W.Frag} {H : Hp} {x : V} {n : String} (h : TyB K H x n) (hn : n ≠ "int") : ∀ i, x ≠ .int i := by
  intro i e
  subst e
  cases h with
  | int => exact hn rfl
end Ww
namespace Ww
open PySem PySem.Spec PyProof.Rows L2
theorem isTy_cases {n : String} (h : isTy n = true) (p : String → Prop) (h1 : p "int") (h2 : p "str") (h3 : p "bool") (h4 : p "NoneType") (h5 : p "float") (h6 : p "list") (h7 : p "tuple") (h8 : p "dict") (h9 : p "set") (ha : p "frozenset") (hb : p "bytes") (hc : p "complex") (hd : p "range") (he : p "object") (hf : p "type") : p n := by
  have h' : n ∈ ["int", "str", "bool", "NoneType", "float", "list", "tuple", "dict", "set", "frozenset", "bytes", "complex", "range", "object", "type"] := by
    unfold isTy at h
    exact List.contains_iff_mem.mp h
  simp only [List.mem_cons, List.not_mem_nil, or_false] at h'
  rcases h' with e | e | e | e | e | e | e | e | e | e | e | e | e | e | e <;> subst e <;> assumption
theorem isI_int {n : String} (h : isTy n = true) : kitB n "int" = some (decide (n = "int" ∨ n = "bool")) := by
  refine isTy_cases h (fun n => kitB n "int" = some (decide (n = "int" ∨ n = "bool"))) ?_ ?_ ?_ ?_ ?_ ?_ ?_ ?_ ?_ ?_ ?_ ?_ ?_ ?_ ?_ <;> decide +kernel
theorem isI_bool {n : String} (h : isTy n = true) : kitB n "bool" = some (decide (n = "bool")) := by
  refine isTy_cases h (fun n => kitB n "bool" = some (decide (n = "bool"))) ?_ ?_ ?_ ?_ ?_ ?_ ?_ ?_ ?_ ?_ ?_ ?_ ?_ ?_ ?_ <;> decide +kernel
theorem isI_tuple {n : String} (h : isTy n = true) : kitB n "tuple" = some (decide (n = "tuple")) := by
  refine isTy_cases h (fun n => kitB n "tuple" = some (decide (n = "tuple"))) ?_ ?_ ?_ ?_ ?_ ?_ ?_ ?_ ?_ ?_ ?_ ?_ ?_ ?_ ?_ <;> decide +kernel
end Ww
namespace Ww
open PySem PySem.Spec PyProof.Rows L2
open Evl

/-! ### what an expression gives, by a property that stands in greater heaps -/
def Mono (P : V → Hp → Prop) : Prop := ∀ v H H', Ex H H' → P v H → P v H'
def EvX (te : TE) (σ : L2.St) (H : Hp) (P : V → Hp → Prop) : Prop := ∀ H1, Ex H H1 → ∀ Q : VK, (∀ v H2, Ex H1 H2 → P v H2 → Q v H2) → te σ H1 Q
def EvAs (ta : TA) (σ : L2.St) (H : Hp) (n : Nat) (P : V → Hp → Prop) : Prop := ∀ H1, Ex H H1 → ∀ Q : List V → Hp → Prop, (∀ vs H2, Ex H1 H2 → vs.length = n → (∀ v ∈ vs, P v H2) → Q vs H2) → ta σ H1 Q
section
variable {K : PySem.W.Frag} {σ : L2.St} {H H' : Hp} {ta tb te tx : TE} {tr : TA} {t u : TT} {x y z v : V} {r : R2} {P P' : V → Hp → Prop}
theorem EvX.mono (e : Ex H H') (h : EvX te σ H P) : EvX te σ H' P := fun H1 a Q q => h H1 (e.trans a) Q q
theorem EvX.imp (h : EvX te σ H P) (i : ∀ v H1, Ex H H1 → P v H1 → P' v H1) : EvX te σ H P' := fun H1 a Q q => h H1 a Q fun v H2 e p => q v H2 e (i v H2 (a.trans e) p)
theorem ex_of (h : Ev te σ H v) (p : ∀ H1, Ex H H1 → P v H1) : EvX te σ H P := fun H1 a Q q => h H1 a Q fun H2 e => q v H2 e (p H2 (a.trans e))
theorem ex_ofU {xs : List V} (h : EvU te σ H xs) (p : ∀ a H1, Ex H H1 → H1 a = some (.tup xs) → P (.ref a) H1) : EvX te σ H P := fun H1 a Q q => h H1 a Q fun b H2 _ e hb => q (.ref b) H2 e (p b H2 (a.trans e) hb)
theorem ex_ofL {xs : List V} (h : EvL te σ H xs) (p : ∀ a H1, Ex H H1 → H1 a = some (.lst xs) → P (.ref a) H1) : EvX te σ H P := fun H1 a Q q => h H1 a Q fun b H2 _ e hb => q (.ref b) H2 e (p b H2 (a.trans e) hb)
theorem eas_nil : EvAs tNil σ H 0 P := fun H1 _ Q q => q [] H1 (Ex.refl H1) rfl (fun v h => absurd h (by simp))
theorem eas_cons {n : Nat} (m : Mono P) (h : EvX te σ H P) (hr : EvAs tr σ H n P) : EvAs (tCons te tr) σ H (n + 1) P := fun H1 a Q q =>
  h H1 a _ fun v H2 e2 p => hr H2 (a.trans e2) _ fun vs H3 e3 hl hp => q (v :: vs) H3 (e2.trans e3) (by simp [hl]) fun w hw => by
    rcases List.mem_cons.mp hw with z | z
    · subst z
      exact m _ _ _ e3 p
    · exact hp w z
/-- a new tuple, a new list, of such items -/
theorem ex_tup {n : Nat} {P' : V → Hp → Prop} (h : EvAs tr σ H n P) (hn : n ≤ 100000) (k : ∀ a xs H1, H1 a = some (.tup xs) → xs.length = n → (∀ x ∈ xs, P x H1) → P' (.ref a) H1) (m : Mono P) : EvX (tTup tr) σ H P' := fun H1 a Q q =>
  h H1 a _ fun vs H2 e hl hp => ⟨sz_of (by omega), fun p hp' => q _ _ (e.trans (Ex.new hp')) (k p vs _ upd_same hl fun x hx => m _ _ _ (Ex.new hp') (hp x hx))⟩
theorem ex_lst {n : Nat} {P' : V → Hp → Prop} (h : EvAs tr σ H n P) (hn : n ≤ 100000) (k : ∀ a xs H1, H1 a = some (.lst xs) → xs.length = n → (∀ x ∈ xs, P x H1) → P' (.ref a) H1) (m : Mono P) : EvX (tLst tr) σ H P' := fun H1 a Q q =>
  h H1 a _ fun vs H2 e hl hp => ⟨sz_of (by omega), fun p hp' => q _ _ (e.trans (Ex.new hp')) (k p vs _ upd_same hl fun x hx => m _ _ _ (Ex.new hp') (hp x hx))⟩
/-- a list of such items that stands in the heap -/
def IsL (n : Nat) (P : V → Hp → Prop) : V → Hp → Prop := fun v H => ∃ a xs, v = .ref a ∧ H a = some (.lst xs) ∧ xs.length = n ∧ ∀ x ∈ xs, P x H
theorem isL_mono {n : Nat} (m : Mono P) : Mono (IsL n P) := fun v H H' e h => by
  obtain ⟨a, xs, rfl, h1, h2, h3⟩ := h
  exact ⟨a, xs, rfl, e _ _ h1, h2, fun x hx => m _ _ _ e (h3 x hx)⟩
theorem ex_lstL {n : Nat} (h : EvAs tr σ H n P) (hn : n ≤ 100000) (m : Mono P) : EvX (tLst tr) σ H (IsL n P) := ex_lst h hn (fun a xs H1 h1 h2 h3 => ⟨a, xs, rfl, h1, h2, h3⟩) m
theorem ex_catL {n k : Nat} (ha : EvX ta σ H (IsL n P)) (hb : EvX tb σ H (IsL k P)) (hz : n + k ≤ 100000) (m : Mono P) : EvX (tOp rCat ta tb) σ H (IsL (n + k) P) := fun H1 e Q q =>
  ha H1 e _ fun v H2 e2 p => hb H2 (e.trans e2) _ fun w H3 e3 p' => by
    obtain ⟨a, xs, rfl, h1, h2, h3⟩ := p
    obtain ⟨b, ys, rfl, g1, g2, g3⟩ := p'
    exact ⟨a, b, xs, ys, rfl, rfl, e3 _ _ h1, g1, sz_of (by omega), fun l hl => q _ _ ((e2.trans e3).trans (Ex.new hl)) ⟨l, _, rfl, upd_same, by rw [List.length_append]; omega, fun x hx => by
      rcases List.mem_append.mp hx with z | z
      · exact m _ _ _ (e3.trans (Ex.new hl)) (h3 x z)
      · exact m _ _ _ (Ex.new hl) (g3 x z)⟩⟩
/-- an item of such a list -/
theorem ex_ixL {n : Nat} {i : Int} (ha : EvX ta σ H (IsL n P)) (hb : Ev tb σ H (.int i)) (h0 : 0 ≤ i) (h1 : i < n) (m : Mono P) : EvX (tOp (rIxL K) ta tb) σ H P := fun H1 e Q q =>
  ha H1 e _ fun v H2 e2 p => hb H2 (e.trans e2) _ fun H3 e3 => by
    obtain ⟨a, xs, rfl, g1, g2, g3⟩ := p
    have hi : i.toNat < xs.length := by omega
    refine ⟨a, xs, i, xs[i.toNat], rfl, rfl, sq_of (e3 _ _ g1), at_of (j := i.toNat) (by omega) (List.getElem?_eq_getElem hi), q _ _ (e2.trans e3) (m _ _ _ e3 (g3 _ (List.getElem_mem hi)))⟩
theorem s_asgX {D : Ends} {i : Nat} (h : EvX te σ H P) (k : ∀ v H1, Ex H H1 → P v H1 → D.nx (σ.set i (some v)) H1) : tAsg te (gName i) D σ H := h H (Ex.refl H) _ fun v H1 e p => k v H1 e p
theorem s_retX {D : Ends} (h : EvX te σ H P) (k : ∀ v H1, Ex H H1 → P v H1 → D.rt v H1) : tRet te D σ H := h H (Ex.refl H) _ fun v H1 e p => k v H1 e p
theorem q_asgX {D : Ends} {tz : TS} {i : Nat} (h : EvX te σ H P) (k : ∀ v H1, Ex H H1 → P v H1 → tz D (σ.set i (some v)) H1) : tSeq (tAsg te (gName i)) tz D σ H := s_asgX (D := { D with nx := tz D }) h k
/-- new lists, joined; taken some times -/
theorem el_cat {xs ys : List V} (ha : EvL ta σ H xs) (hb : EvL tb σ H ys) (hz : xs.length + ys.length ≤ 100000) : EvL (tOp rCat ta tb) σ H (xs ++ ys) := fun H1 e Q q =>
  ha H1 e _ fun a H2 n2 e2 h2 => hb H2 (e.trans e2) _ fun b H3 n3 e3 h3 =>
    ⟨a, b, xs, ys, rfl, rfl, e3 _ _ h2, h3, sz_of hz, fun l hl => q l _ (fresh_back (e2.trans e3) hl) ((e2.trans e3).trans (Ex.new hl)) upd_same⟩
theorem el_rep {xs : List V} {k : Int} (ha : EvL ta σ H xs) (hb : Ev tb σ H (.int k)) (h0 : 0 ≤ k) (h1 : k ≤ 100000) (hz : xs.length * k.toNat ≤ 100000) : EvL (tOp rRep ta tb) σ H (List.replicate k.toNat xs).flatten := fun H1 e Q q =>
  ha H1 e _ fun a H2 n2 e2 h2 => hb H2 (e.trans e2) _ fun H3 e3 =>
    ⟨a, k, xs, rfl, rfl, e3 _ _ h2, by omega, by omega, sz_of hz, fun l hl => q l _ (fresh_back (e2.trans e3) hl) ((e2.trans e3).trans (Ex.new hl)) upd_same⟩
/-- one list that stands, another one new -/
theorem el_cat1 {a : Addr} {xs ys : List V} (ha : Ev ta σ H (.ref a)) (h : H a = some (.lst xs)) (hb : EvL tb σ H ys) (hz : xs.length + ys.length ≤ 100000) : EvL (tOp rCat ta tb) σ H (xs ++ ys) := fun H1 e Q q =>
  ha H1 e _ fun H2 e2 => hb H2 (e.trans e2) _ fun b H3 n3 e3 h3 =>
    ⟨a, b, xs, ys, rfl, rfl, ((e.trans e2).trans e3) _ _ h, h3, sz_of hz, fun l hl => q l _ (fresh_back (e2.trans e3) hl) ((e2.trans e3).trans (Ex.new hl)) upd_same⟩
end

/-! ### which refusal: the law's word of an exception -/
def pick (b : Bool) (s : Str) : List V := if b = true then [.str s] else []
theorem pick_len (b : Bool) (s : Str) : (pick b s).length ≤ 1 := by
  unfold pick
  split <;> simp
/-- [s] * int(isinstance(e, c)) -/
theorem el_pick {K : PySem.W.Frag} {C a : Addr} {σ : L2.St} {H : Hp} {s : Str} {c : V} {cv : Value} {b : Bool} (h0 : σ[0]? = some (some (.ref a))) (hc : ∀ u, RelV c u → u = cv) (hk : PySem.W.kitOne K (.ref C) cv = some b) :
    EvL (tOp rRep (tLst (tCons (tC (.str s)) tNil)) (tCB (fun xs H Q => (∃ i, xs = [.int i] ∧ Q (.int i) H) ∨ ∃ k, xs = [.bl k] ∧ Q (.int (if k then 1 else 0)) H) (tCons (tCB (rIsE K C a) (tCons (tVar 0) (tCons (tC c) tNil))) tNil))) σ H (pick b s) := by
  have e : pick b s = (List.replicate ((if b then 1 else 0 : Int)).toNat [V.str s]).flatten := by
    cases b <;> rfl
  rw [e]
  refine el_rep (k := if b then 1 else 0) (el_lst (ea_cons ev_c ea_nil) (by simp)) (ev_cb (vs := [.bl b]) (ea_cons ?_ ea_nil) ?_) (by cases b <;> decide) (by cases b <;> decide) (by cases b <;> simp)
  · exact ev_cb (vs := [.ref a, c]) (ea_cons (ev_var h0) (ea_cons ev_c ea_nil)) fun H1 e1 Q q => ⟨c, cv, b, rfl, hc, hk, q H1 (Ex.refl H1)⟩
  · exact fun H1 e1 Q q => Or.inr ⟨b, rfl, q H1 (Ex.refl H1)⟩
/-- isinstance(e, ValueError) is True: [s] * int(not ..) is nothing -/
theorem el_pickN {K : PySem.W.Frag} {C a : Addr} {σ : L2.St} {H : Hp} {s : Str} {c : V} {cv : Value} {b : Bool} (h0 : σ[0]? = some (some (.ref a))) (hc : ∀ u, RelV c u → u = cv) (hk : PySem.W.kitOne K (.ref C) cv = some b) :
    EvL (tOp rRep (tLst (tCons (tC (.str s)) tNil)) (tCB (fun xs H Q => (∃ i, xs = [.int i] ∧ Q (.int i) H) ∨ ∃ k, xs = [.bl k] ∧ Q (.int (if k then 1 else 0)) H) (tCons (tNotV (tCB (rIsE K C a) (tCons (tVar 0) (tCons (tC c) tNil)))) tNil))) σ H (pick (!b) s) := by
  have e : pick (!b) s = (List.replicate ((if !b then 1 else 0 : Int)).toNat [V.str s]).flatten := by
    cases b <;> rfl
  rw [e]
  refine el_rep (k := if !b then 1 else 0) (el_lst (ea_cons ev_c ea_nil) (by simp)) (ev_cb (vs := [.bl (!b)]) (ea_cons (ev_notV ?_) ea_nil) ?_) (by cases b <;> decide) (by cases b <;> decide) (by cases b <;> simp)
  · exact ev_cb (vs := [.ref a, c]) (ea_cons (ev_var h0) (ea_cons ev_c ea_nil)) fun H1 e1 Q q => ⟨c, cv, b, rfl, hc, hk, q H1 (Ex.refl H1)⟩
  · exact fun H1 e1 Q q => Or.inr ⟨!b, rfl, q H1 (Ex.refl H1)⟩
end Ww
namespace Ww
open PySem PySem.Spec PyProof.Rows L2
open Evl
theorem bits_mono {a b : Int} (h : a.natAbs ≤ b.natAbs) (hb : Bits b) : Bits a := Nat.lt_of_le_of_lt h hb
theorem natAbs_ediv {a k : Int} (hk : 0 < k) : (a / k).natAbs ≤ a.natAbs := by
  have h2 := Int.emod_nonneg a (show k ≠ 0 by omega)
  have h3 := Int.emod_lt_of_pos a hk
  by_cases h : 0 ≤ a
  · have q0 : 0 ≤ a / k := Int.ediv_nonneg h (by omega)
    have : a / k ≤ a := Int.ediv_le_self _ h
    omega
  · have q1 : a / k < 0 := Int.ediv_neg_of_neg_of_pos (by omega) hk
    have : a ≤ a / k := by
      rw [Int.le_ediv_iff_mul_le hk]
      have h4 : a * k ≤ a * 1 := Int.mul_le_mul_of_nonpos_left (by omega) (by omega)
      omega
    omega
theorem mulBits {c : Int} (h : Bits c) : CMulG (c / 5) (48271 ^ (12 : Int).toNat) :=
  mulG_of (a := bitTop) (b := 200) (bits_mono (natAbs_ediv (by decide)) h) (by decide +kernel) (by decide) (by decide) (by decide)
/-- a number of at most sixty figures -/
def Num (v : V) (_ : Hp) : Prop := ∃ n : Int, v = .int n ∧ n.natAbs < big
theorem num_mono : Mono Num := fun _ _ _ _ h => h
theorem big_small {n : Int} (h : n.natAbs ≤ 1000000) : n.natAbs < big := Nat.lt_of_le_of_lt h (by decide +kernel)
theorem num_last (x : Int) : (x % (2 * 10 ^ (60 : Int).toNat - 1) - (10 ^ (60 : Int).toNat - 1)).natAbs < big := by
  have e : (10 : Int) ^ (60 : Int).toNat = ((big : Nat) : Int) := by decide +kernel
  rw [e]
  have hb : 1000000 < big := by decide +kernel
  have h2 := Int.emod_nonneg x (show (2 * ((big : Nat) : Int) - 1) ≠ 0 by omega)
  have h3 := Int.emod_lt_of_pos x (show 0 < (2 * ((big : Nat) : Int) - 1) by omega)
  generalize x % (2 * ((big : Nat) : Int) - 1) = y at *
  omega
theorem big_pow : big ≤ 2 ^ 200 := by decide +kernel
/-- the five numbers at the bounds -/
theorem ev_powI {σ : L2.St} {H : Hp} {ta tb : TE} {i j : Int} (ha : Ev ta σ H (.int i)) (hb : Ev tb σ H (.int j)) (h : CPow i j) : Ev (tOp (rI CPow fun i j => .int (i ^ j.toNat)) ta tb) σ H (.int (i ^ j.toNat)) := ev_op ha hb (rv_I h)
theorem cpow (i : Int) (j : Int) (h : decide (0 ≤ j ∧ j ≤ 1000000 ∧ i.natAbs < 2 ^ 64) = true) : CPow i j := of_decide_eq_true (p := 0 ≤ j ∧ j ≤ 1000000 ∧ i.natAbs < 2 ^ 64) h
theorem num_five {σ : L2.St} {H : Hp} : EvX (tLst (tCons (tOp (rI0 fun i j => .int (i - j)) (tOp (rI CPow fun i j => .int (i ^ j.toNat)) (tC (.int 10)) (tC (.int 60))) (tC (.int 1)))
    (tCons (tOp (rI0 fun i j => .int (i - j)) (tC (.int 1)) (tOp (rI CPow fun i j => .int (i ^ j.toNat)) (tC (.int 10)) (tC (.int 60))))
    (tCons (tOp (rI CPow fun i j => .int (i ^ j.toNat)) (tC (.int 2)) (tC (.int 64))) (tCons (tC (.int 0)) (tCons (tC (.int 1)) tNil)))))) σ H (IsL 5 Num) := by
  refine ex_lstL (eas_cons num_mono (ex_of (ev_op (ev_powI ev_c ev_c (cpow _ _ rfl)) ev_c rv_I0) fun _ _ => ⟨_, rfl, by decide +kernel⟩)
    (eas_cons num_mono (ex_of (ev_op ev_c (ev_powI ev_c ev_c (cpow _ _ rfl)) rv_I0) fun _ _ => ⟨_, rfl, by decide +kernel⟩)
    (eas_cons num_mono (ex_of (ev_powI ev_c ev_c (cpow _ _ rfl)) fun _ _ => ⟨_, rfl, by decide +kernel⟩)
    (eas_cons num_mono (ex_of ev_c fun _ _ => ⟨_, rfl, by decide +kernel⟩) (eas_cons num_mono (ex_of ev_c fun _ _ => ⟨_, rfl, by decide +kernel⟩) eas_nil))))) (by decide) num_mono
end Ww
namespace Ww
open PySem PySem.Spec PyProof.Rows L2
open Evl
def pickS (b : Bool) (s : Str) : List Str := if b = true then [s] else []
theorem pick_map (b : Bool) (s : Str) : pick b s = (pickS b s).map V.str := by cases b <;> rfl
theorem pickS_len (b : Bool) (s : Str) : (pickS b s).length ≤ 1 := by cases b <;> simp [pickS]
/-- sep.join(xs) -/
def rJoin (K : PySem.W.Frag) : V → List V → Hp → VK → Prop := fun x xs H Q => ∃ a p, ∃ ys : List Str, x = .str a ∧ xs = [.ref p] ∧ (SqL K H p (ys.map V.str) ∨ SqT K H p (ys.map V.str)) ∧
  (ys.map (·.length)).sum + ys.length * a.length ≤ 16777216 ∧ Q (.str (Txt.join a ys)) H
theorem ev_join {K : PySem.W.Frag} {σ : L2.St} {H : Hp} {to te : TE} {a : Str} {p : Addr} {ys : List Str} (h : Ev to σ H (.str a)) (h2 : Ev te σ H (.ref p)) (hs : H p = some (.lst (ys.map V.str))) (hz : (ys.map (·.length)).sum + ys.length * a.length ≤ 16777216) :
    Ev (tM1 (rJoin K) to te) σ H (.str (Txt.join a ys)) := fun H1 e Q q =>
  h H1 e _ fun H2 e2 => ⟨⟨a, rfl⟩, h2 H2 (e.trans e2) _ fun H3 e3 => ⟨a, p, ys, rfl, rfl, .inl (sq_of (((e.trans e2).trans e3) _ _ hs)), hz, q H3 (e2.trans e3)⟩⟩
end Ww
namespace Ww
open PySem PySem.Spec PyProof.Rows L2
theorem bits_zero : Bits 0 := by
  unfold Bits
  exact Nat.two_pow_pos _
theorem wCell_bits {ns : List Int} (h : ∀ z ∈ ns, Bits z) (i : Int) : Bits (wCell ns i) := by
  unfold wCell
  split
  · rw [List.getD_eq_getElem?_getD]
    cases e : ns[i.toNat]? with
    | none => exact bits_zero
    | some z => exact h z (List.mem_of_getElem? e)
  · exact bits_zero
end Ww
namespace Ww
open PySem PySem.Spec PyProof.Rows L2
open Evl
section
variable {K : PySem.W.Frag} {σ : L2.St} {H H' : Hp} {ta tb te tl : TE} {tr : TA} {P : V → Hp → Prop} {D : Ends} {tu tz : TS}
theorem ex_call {sp : Sp} {dvs vs : List V} {E : XK} {tr : TA} (h : EvA tr σ H vs) (hs : ∀ H1, Ex H H1 → ∀ Q : VK, (∀ v H2, Ex H1 H2 → P v H2 → Q v H2) → ∀ E : XK, sp (vs ++ dvs) H1 Q E) : EvX (tCall sp dvs E tr) σ H P := fun H1 e Q q =>
  h H1 e _ fun H2 e2 => hs H2 (e.trans e2) Q (fun v H3 e3 p => q v H3 (e2.trans e3) p) E
/-- for x in a list whose items have a property; each turn makes the heap greater -/
theorem q_forX {n j : Nat} (h : EvX tl σ H (IsL n P)) (m : Mono P) (Pv : Nat → L2.St → Hp → Prop) (h0 : ∀ H1, Ex H H1 → Pv 0 σ H1)
    (hs : ∀ i x σ' H', i < n → P x H' → Pv i σ' H' → ∀ N : L2.St → Hp → Prop, (∀ σ2 H2, Ex H' H2 → Pv (i + 1) σ2 H2 → N σ2 H2) → tu { D with nx := N, ct := N, bk := tz D } (σ'.set j (some x)) H')
    (hd : ∀ σ' H', Pv n σ' H' → tz D σ' H') : tSeq (tFor (iList K tl) (gName j) tu) tz D σ H := h H (Ex.refl H) _ fun v H1 e p => by
  obtain ⟨a, xs, rfl, ha, hl, hP⟩ := p
  refine ⟨a, rfl, ⟨xs, sq_of ha⟩, for_list (xs := xs) (fun i σ' H' => Ex H1 H' ∧ Pv i σ' H') ⟨Ex.refl _, h0 H1 e⟩ (fun i σ' H' _ p => sq_of (p.1 _ _ ha)) (fun i x σ' H' hi p => ?_) (fun σ' H' p => ?_)⟩
  · obtain ⟨hx, _⟩ := List.getElem?_eq_some_iff.mp hi
    refine hs i x σ' H' (by omega) (m _ _ _ p.1 (hP x (List.mem_of_getElem? hi))) p.2 _ fun σ2 H2 e2 p2 => ⟨p.1.trans e2, p2⟩
  · rw [hl] at p
    exact hd σ' H' p.2
end
end Ww
namespace Ww
open L2
theorem nxt {D : Ends} {σ : L2.St} {H : Hp} (h : D.nx σ H) : tNext D σ H := h
end Ww
namespace Wt
open PySem TL Ww
abbrev L := List Nat
/-- the signs of a whole number -/
def numZ (n : Int) : L := if n < 0 then 45 :: numL n.natAbs else numL n.natAbs
/-- the figures of a word -/
def figL : L → L
  | 45 :: r => r
  | w => w
def AllD (w : L) : Bool := w.all fun c => decide (48 ≤ c) && decide (c ≤ 57)
def okW (w : L) : Bool := decide (1 ≤ (figL w).length) && decide ((figL w).length ≤ 60) && AllD (figL w)
def valW (w : L) : Int := if w.head? = some 45 then -((NumText.digitsVal (figL w) : Nat) : Int) else ((NumText.digitsVal (figL w) : Nat) : Int)
def canon (w : L) : Bool := okW w && (decide ((figL w).head? ≠ some 48) || decide (w = [48]))
/-- what is written of a share -/
def wrL (p : Int × Int) : L := if p.2 = 1 then numZ p.1 else numZ p.1 ++ 47 :: numZ p.2

theorem allD_iff {w : L} : AllD w = true ↔ NumText.AllDigits w := by
  unfold AllD NumText.AllDigits
  rw [List.all_eq_true]
  constructor
  · intro h c hc
    have := h c hc
    simp only [Bool.and_eq_true, decide_eq_true_eq] at this
    exact this
  · intro h c hc
    simp only [Bool.and_eq_true, decide_eq_true_eq]
    exact h c hc
theorem dv_append (w : L) (c : Nat) : NumText.digitsVal (w ++ [c]) = NumText.digitsVal w * 10 + (c - 48) := by
  unfold NumText.digitsVal
  rw [List.foldl_append]
  rfl
theorem dv_pos : ∀ {w : L}, NumText.AllDigits w → w ≠ [] → w.head? ≠ some 48 → 0 < NumText.digitsVal w := by
  have gen : ∀ (r : L) (a : Nat), 0 < a → 0 < r.foldl (fun acc c => acc * 10 + (c - 48)) a := by
    intro r
    induction r with
    | nil => intro a h; exact h
    | cons c r ih => intro a h; exact ih (a * 10 + (c - 48)) (by omega)
  intro w h hne hh
  cases w with
  | nil => exact absurd rfl hne
  | cons c r =>
    have hc := h c (List.mem_cons_self ..)
    have c48 : c ≠ 48 := fun z => hh (by rw [z]; rfl)
    exact gen r (0 * 10 + (c - 48)) (by omega)
theorem numL_head : ∀ n : Nat, 0 < n → (numL n).head? ≠ some 48 := by
  intro n
  induction n using Nat.strongRecOn with
  | _ n ih =>
    intro h
    by_cases h10 : n < 10
    · rw [numL_lt h10]
      intro z
      have : 48 + n = 48 := Option.some.inj z
      omega
    · rw [numL_step (by omega)]
      have hne := numL_ne (n / 10)
      have := ih (n / 10) (by omega) (by omega)
      cases e : numL (n / 10) with
      | nil => exact absurd e hne
      | cons c r =>
        rw [e] at this
        exact this
/-- figures without noughts ahead are the figures of their worth -/
theorem numL_dv : ∀ {w : L}, NumText.AllDigits w → w ≠ [] → w.head? ≠ some 48 → numL (NumText.digitsVal w) = w := by
  have gen : ∀ (n : Nat) (w : L), w.length = n → NumText.AllDigits w → w ≠ [] → w.head? ≠ some 48 → numL (NumText.digitsVal w) = w := by
    intro n
    induction n with
    | zero => intro w hl _ hne _; exact absurd (List.length_eq_zero_iff.mp hl) hne
    | succ n ih =>
      intro w hl h hne hh
      obtain ⟨u, c, rfl⟩ : ∃ u c, w = u ++ [c] := ⟨w.dropLast, w.getLast hne, (List.dropLast_concat_getLast hne).symm⟩
      have hu : NumText.AllDigits u := fun d hd => h d (List.mem_append_left _ hd)
      have hc := h c (List.mem_append_right _ (List.mem_singleton.mpr rfl))
      rw [dv_append]
      cases u with
      | nil =>
        show numL (0 * 10 + (c - 48)) = [c]
        rw [numL_lt (by omega)]
        congr 1
        omega
      | cons d r =>
        have hh' : (d :: r).head? ≠ some 48 := hh
        have e := ih (d :: r) (by rw [List.length_append, List.length_singleton] at hl; omega) hu (by simp) hh'
        have p := dv_pos hu (by simp) hh'
        rw [numL_step (by omega)]
        have e1 : (NumText.digitsVal (d :: r) * 10 + (c - 48)) / 10 = NumText.digitsVal (d :: r) := by omega
        have e2 : 48 + (NumText.digitsVal (d :: r) * 10 + (c - 48)) % 10 = c := by omega
        rw [e1, e2, e]
  intro w
  exact gen w.length w rfl
theorem okW_iff {w : L} : okW w = true ↔ 1 ≤ (figL w).length ∧ (figL w).length ≤ 60 ∧ NumText.AllDigits (figL w) := by
  unfold okW
  simp only [Bool.and_eq_true, decide_eq_true_eq, allD_iff, and_assoc]
theorem figL_of {w : L} (h : w.head? ≠ some 45) : figL w = w := by
  unfold figL
  split
  · exact absurd rfl h
  · rfl
theorem valW_neg {r : L} : valW (45 :: r) = -((NumText.digitsVal r : Nat) : Int) := if_pos rfl
theorem valW_pos {w : L} (h : w.head? ≠ some 45) : valW w = ((NumText.digitsVal w : Nat) : Int) := by
  unfold valW
  rw [if_neg h, figL_of h]
/-- a word is just what is written of its worth where it is canonical -/
theorem numZ_val {w : L} (h : okW w = true) : numZ (valW w) = w ↔ canon w = true := by
  obtain ⟨h1, h2, h3⟩ := okW_iff.mp h
  unfold canon
  rw [h, Bool.true_and, Bool.or_eq_true, decide_eq_true_eq, decide_eq_true_eq]
  by_cases hw : w.head? = some 45
  · obtain ⟨r, rfl⟩ : ∃ r, w = 45 :: r := by
      cases w with
      | nil => cases hw
      | cons c r => exact ⟨r, by rw [show c = 45 from Option.some.inj hw]⟩
    have hf : figL (45 :: r) = r := rfl
    rw [hf] at h1 h2 h3 ⊢
    have hne : r ≠ [] := fun z => by rw [z] at h1; exact absurd h1 (by decide)
    rw [valW_neg]
    constructor
    · intro e
      refine Or.inl fun z => ?_
      unfold numZ at e
      by_cases d0 : NumText.digitsVal r = 0
      · rw [d0] at e
        have e' : numL 0 = 45 :: r := e
        rw [numL_lt (by decide)] at e'
        cases e'
      · rw [if_pos (show -((NumText.digitsVal r : Nat) : Int) < 0 by omega), Int.natAbs_neg, Int.natAbs_natCast] at e
        have e' : numL (NumText.digitsVal r) = r := (List.cons.inj e).2
        exact numL_head (NumText.digitsVal r) (by omega) (by rw [e']; exact z)
    · rintro (z | z)
      · have p := dv_pos h3 hne z
        unfold numZ
        rw [if_pos (show -((NumText.digitsVal r : Nat) : Int) < 0 by omega), Int.natAbs_neg, Int.natAbs_natCast, numL_dv h3 hne z]
      · cases z
  · have hf := figL_of hw
    rw [hf] at h1 h2 h3 ⊢
    have hne : w ≠ [] := fun z => by rw [z] at h1; exact absurd h1 (by decide)
    rw [valW_pos hw]
    have e0 : numZ ((NumText.digitsVal w : Nat) : Int) = numL (NumText.digitsVal w) := by
      unfold numZ
      rw [if_neg (by omega), Int.natAbs_natCast]
    rw [e0]
    constructor
    · intro e
      by_cases d0 : NumText.digitsVal w = 0
      · rw [d0, numL_lt (by decide)] at e
        exact Or.inr e.symm
      · exact Or.inl (by rw [← e]; exact numL_head _ (by omega))
    · rintro (z | z)
      · exact numL_dv h3 hne z
      · rw [z]
        show numL 0 = [48]
        rw [numL_lt (by decide)]
theorem numZ_free (n : Int) : 47 ∉ numZ n := by
  unfold numZ
  split
  · intro h
    rcases List.mem_cons.mp h with z | z
    · cases z
    · exact numL_free (by omega) z
  · exact numL_free (by omega)
/-- parted at a sign that neither first part holds, both parts are the same -/
theorem part_inj : ∀ {a b c d : L}, 47 ∉ a → 47 ∉ c → (a ++ 47 :: b = c ++ 47 :: d ↔ a = c ∧ b = d)
  | [], b, [], d, _, _ => by simp
  | [], b, x :: c, d, _, h => by
    constructor
    · intro e
      have : (47 : Nat) = x := (List.cons.inj e).1
      exact absurd (this ▸ List.mem_cons_self ..) h
    · rintro ⟨e, _⟩
      cases e
  | x :: a, b, [], d, h, _ => by
    constructor
    · intro e
      have : x = (47 : Nat) := (List.cons.inj e).1
      exact absurd (this ▸ List.mem_cons_self ..) h
    · rintro ⟨e, _⟩
      cases e
  | x :: a, b, y :: c, d, h1, h2 => by
    have ih := part_inj (a := a) (b := b) (c := c) (d := d) (fun z => h1 (List.mem_cons_of_mem _ z)) (fun z => h2 (List.mem_cons_of_mem _ z))
    simp only [List.cons_append, List.cons.injEq, and_assoc]
    rw [ih]
/-- what the program tells of a text -/
def readP (t : L) (a b : L) : Option (Int × Int) :=
  if okW a = true ∧ okW b = true ∧ isSh (valW a) (valW b) = true ∧ wrL (valW a, valW b) = t then some (valW a, valW b) else none
/-- what the law's own going over it tells: one word, two words -/
def readL1 (a : L) : Option (Int × Int) := if canon a = true then some (valW a, 1) else none
def readL2 (a b : L) : Option (Int × Int) := if canon a = true ∧ canon b = true ∧ 2 ≤ valW b ∧ Nat.gcd (valW a).natAbs (valW b).natAbs = 1 then some (valW a, valW b) else none
theorem okW_canon {w : L} (h : canon w = true) : okW w = true := by
  unfold canon at h
  rw [Bool.and_eq_true] at h
  exact h.1
theorem read_one {t : L} (h : 47 ∉ t) : readP t t [49] = readL1 t := by
  unfold readP readL1
  have v1 : valW [49] = 1 := by decide
  by_cases c : canon t = true
  · have h1 : isSh (valW t) (valW [49]) = true := by
      rw [v1]
      unfold isSh
      simp
    have h2 : wrL (valW t, valW [49]) = t := by
      rw [v1]
      exact (numZ_val (okW_canon c)).mpr c
    rw [if_pos c, if_pos ⟨okW_canon c, by decide, h1, h2⟩, v1]
  · rw [if_neg c, if_neg]
    rintro ⟨o, _, _, e⟩
    rw [v1] at e
    have e' : numZ (valW t) = t := e
    exact c ((numZ_val o).mp e')
theorem read_two {a b : L} (h : 47 ∉ a) : readP (a ++ 47 :: b) a b = readL2 a b := by
  unfold readP readL2
  by_cases c : canon a = true ∧ canon b = true ∧ 2 ≤ valW b ∧ Nat.gcd (valW a).natAbs (valW b).natAbs = 1
  · rw [if_pos c, if_pos]
    obtain ⟨c1, c2, c3, c4⟩ := c
    refine ⟨okW_canon c1, okW_canon c2, ?_, ?_⟩
    · unfold isSh
      rw [decide_eq_true (show 1 ≤ valW b by omega), decide_eq_true c4]
      rfl
    · unfold wrL
      rw [if_neg (show ¬ valW b = 1 by omega), (numZ_val (okW_canon c1)).mpr c1, (numZ_val (okW_canon c2)).mpr c2]
  · rw [if_neg c, if_neg]
    rintro ⟨o1, o2, s, e⟩
    unfold isSh at s
    rw [Bool.and_eq_true, decide_eq_true_eq, decide_eq_true_eq] at s
    unfold wrL at e
    by_cases v1 : valW b = 1
    · rw [if_pos v1] at e
      have : 47 ∈ numZ (valW a) := by
        have e' : numZ (valW a) = a ++ 47 :: b := e
        rw [e']
        exact List.mem_append_right _ (List.mem_cons_self ..)
      exact numZ_free _ this
    · rw [if_neg v1] at e
      obtain ⟨e1, e2⟩ := (part_inj (numZ_free _) h).mp e
      exact c ⟨(numZ_val o1).mp e1, (numZ_val o2).mp e2, by omega, s.2⟩
end Wt
namespace Wt
open PySem TL Ww
theorem tl_toString (n : Int) : tl (Str.ofString (toString n)) = numZ n := by
  cases n with
  | ofNat m =>
    show tl (Str.ofString (toString ((m : Nat) : Int))) = numZ ((m : Nat) : Int)
    rw [tl_num]
    unfold numZ
    rw [if_neg (by omega)]
    rfl
  | negSucc m =>
    have e : toString (Int.negSucc m) = "-" ++ toString (m + 1) := rfl
    rw [e, tl_ofString, String.toList_append, List.map_append]
    have e2 : (toString (m + 1)).toList.map Char.toNat = numL (m + 1) := by
      rw [← tl_num, tl_ofString]
      rfl
    rw [e2]
    unfold numZ
    rw [if_pos (Int.negSucc_lt_zero m)]
    rfl
theorem len_numZ {n : Int} (h : n.natAbs < big) : (Str.ofString (toString n)).length ≤ 61 := by
  rw [len_tl, tl_toString]
  have := numL_len (n := n.natAbs) (k := 60) (by decide) h
  unfold numZ
  split
  · rw [List.length_cons]; omega
  · omega
theorem neg_text {n : Int} (h : n < 0) : ("-" : Str) ++ Str.ofString (toString (-n)) = Str.ofString (toString n) := by
  refine ext_tl ?_
  rw [tl_append, tl_toString, tl_toString]
  unfold numZ
  rw [if_neg (by omega), if_pos h, Int.natAbs_neg]
  rfl
theorem log_big {n : Int} (h : n.natAbs < big) : n.natAbs.log2 < 1920 := by
  have := log2_lt (b := 200) (by decide) (Nat.lt_of_lt_of_le h big_pow)
  omega
theorem join_one (x : Str) : Txt.join ("" : Str) [x] = x := by
  rw [join_eq]
  rfl
theorem tl_dash : tl ("-" : Str) = [45] := by decide +kernel
theorem tl_stroke : tl ("/" : Str) = [47] := by decide +kernel
theorem tl_ten : tl ("0123456789" : Str) = [48, 49, 50, 51, 52, 53, 54, 55, 56, 57] := by decide +kernel
/-- int of a word -/
theorem intText_val {x : Str} (h : okW (tl x) = true) : intText? x = some (valW (tl x)) := by
  obtain ⟨h1, h2, h3⟩ := okW_iff.mp h
  have hl := len_tl x
  by_cases hw : (tl x).head? = some 45
  · obtain ⟨r, e⟩ : ∃ r, tl x = 45 :: r := by
      cases e : tl x with
      | nil => rw [e] at hw; cases hw
      | cons c r => rw [e] at hw; exact ⟨r, by rw [show c = 45 from Option.some.inj hw]⟩
    rw [e] at h1 h2 h3 hl ⊢
    have hf : figL (45 :: r) = r := rfl
    rw [hf] at h1 h2 h3
    rw [List.length_cons] at hl
    rw [PySem.intText_neg e h3 (fun z => by rw [z] at h1; exact absurd h1 (by decide)) (by omega), valW_neg]
  · rw [figL_of hw] at h1 h2 h3
    rw [PySem.intText_digits h3 (fun z => by rw [show tl x = [] from z] at h1; exact absurd h1 (by decide)) (by omega), valW_pos hw]
theorem okW_len {x : Str} (h : okW (tl x) = true) : x.length ≤ 640 := by
  obtain ⟨h1, h2, h3⟩ := okW_iff.mp h
  rw [len_tl]
  have : (tl x).length ≤ (figL (tl x)).length + 1 := by
    unfold figL
    split
    · rename_i e; rw [e, List.length_cons]; omega
    · omega
  omega
theorem okW_abs {w : L} (h : okW w = true) : (valW w).natAbs < big := by
  obtain ⟨h1, h2, h3⟩ := okW_iff.mp h
  have gen : ∀ {u : L}, NumText.AllDigits u → NumText.digitsVal u < 10 ^ u.length := by
    have aux : ∀ (n : Nat) (u : L), u.length = n → NumText.AllDigits u → NumText.digitsVal u < 10 ^ u.length := by
      intro n
      induction n with
      | zero => intro u hl _; rw [List.length_eq_zero_iff.mp hl]; decide
      | succ n ih =>
        intro u hl hu
        have hne : u ≠ [] := fun z => by rw [z] at hl; cases hl
        obtain ⟨v, c, rfl⟩ : ∃ v c, u = v ++ [c] := ⟨u.dropLast, u.getLast hne, (List.dropLast_concat_getLast hne).symm⟩
        have i := ih v (by rw [List.length_append, List.length_singleton] at hl; omega) (fun d hd => hu d (List.mem_append_left _ hd))
        have hc := hu c (List.mem_append_right _ (List.mem_singleton.mpr rfl))
        rw [dv_append, List.length_append, List.length_singleton, Nat.pow_succ]
        omega
    intro u hu
    exact aux u.length u rfl hu
  have h5 : NumText.digitsVal (figL w) < big := Nat.lt_of_lt_of_le (gen h3) (by unfold big; exact Nat.pow_le_pow_right (by decide) h2)
  unfold valW
  split <;> omega
/-- the first sign taken off where it is - -/
theorem tl_rmpre (x : Str) : tl (Txt.removeprefix x ("-" : Str)) = figL (tl x) := by
  have sub : Builtin.Str.subAt x ("-" : Str) 0 = decide ((tl x).head? = some 45) := by
    unfold Builtin.Str.subAt
    obtain ⟨⟨l⟩⟩ := x
    show ((l.toArray.extract 0 (0 + ("-" : Str).length)) == ("-" : Str).cps) = decide (l.head? = some 45)
    have e1 : ("-" : Str).length = 1 := by decide +kernel
    have e2 : ("-" : Str).cps = [45].toArray := by decide +kernel
    rw [e1, e2]
    cases l with
    | nil => decide +kernel
    | cons c r =>
      have e3 : (c :: r).toArray.extract 0 (0 + 1) = [c].toArray := by simp
      rw [e3]
      by_cases hc : c = 45
      · subst hc
        rfl
      · have n1 : ([c].toArray == [45].toArray) = false := by
          refine beq_eq_false_iff_ne.mpr fun z => hc ?_
          have := congrArg Array.toList z
          exact (List.cons.inj this).1
        rw [n1]
        have n2 : ¬ (c :: r).head? = some 45 := fun z => hc (Option.some.inj z)
        rw [decide_eq_false n2]
  unfold Txt.removeprefix
  rw [sub]
  by_cases h : (tl x).head? = some 45
  · obtain ⟨r, e⟩ : ∃ r, tl x = 45 :: r := by
      cases e : tl x with
      | nil => rw [e] at h; cases h
      | cons c r => rw [e] at h; exact ⟨r, by rw [show c = 45 from Option.some.inj h]⟩
    have hl := len_tl x
    rw [e, List.length_cons] at hl
    have e1 : ("-" : Str).length = 1 := by decide +kernel
    rw [decide_eq_true h, if_pos rfl, e1]
    show tl (if (x.length - 1 == x.length) = true then x else Builtin.Str.strSub x 1 x.length) = _
    rw [if_neg (by rw [beq_iff_eq]; omega), tl_strSub_end, e]
    rfl
  · rw [decide_eq_false h, if_neg (by decide), figL_of h]
    rfl
/-- a text with a stroke, parted at the first one -/
theorem part_of {t : Str} (h : 47 ∈ tl t) : ∃ a b : Str, t = a ++ ("/" : Str) ++ b ∧ 47 ∉ tl a ∧ tl t = tl a ++ 47 :: tl b := by
  have aux : ∀ l : L, 47 ∈ l → ∃ a b, l = a ++ 47 :: b ∧ 47 ∉ a := by
    intro l
    induction l with
    | nil => intro h; cases h
    | cons c r ih =>
      intro h
      by_cases hc : c = 47
      · exact ⟨[], r, by rw [hc]; rfl, by simp⟩
      · obtain ⟨a, b, e, n⟩ := ih ((List.mem_cons.mp h).resolve_left fun z => hc z.symm)
        refine ⟨c :: a, b, by rw [e]; rfl, fun z => ?_⟩
        rcases List.mem_cons.mp z with z | z
        · exact hc z.symm
        · exact n z
  obtain ⟨a, b, e, n⟩ := aux _ h
  refine ⟨⟨a.toArray⟩, ⟨b.toArray⟩, ?_, n, e⟩
  refine ext_tl ?_
  rw [tl_append, tl_append, tl_stroke, e]
  show a ++ 47 :: b = a ++ [47] ++ b
  simp
theorem partition_two {a b : Str} (h : 47 ∉ tl a) : Txt.partition (a ++ ("/" : Str) ++ b) ("/" : Str) = (a, ("/" : Str), b) := partition_app tl_stroke h
theorem partition_one {a : Str} (h : 47 ∉ tl a) : Txt.partition a ("/" : Str) = (a, Str.empty, Str.empty) := partition_none tl_stroke h
theorem kind_stroke (x : Str) : ¬ Builtin.Str.strKind x < Builtin.Str.strKind ("/" : Str) := kind_ok (by decide +kernel)
theorem split_one {a : Str} (h : 47 ∉ tl a) : Txt.split a ("/" : Str) = [a] := by
  refine map_tl_inj ?_
  rw [split_spl _ _ (by rw [tl_stroke]; simp) (kind_stroke _), tl_stroke, spl_last1 h]
  rfl
theorem split_two {a b : Str} (h : 47 ∉ tl a) (h2 : 47 ∉ tl b) : Txt.split (a ++ ("/" : Str) ++ b) ("/" : Str) = [a, b] := by
  refine map_tl_inj ?_
  rw [split_spl _ _ (by rw [tl_stroke]; simp) (kind_stroke _), tl_append, tl_append, tl_stroke, List.append_assoc, spl_part1 h, spl_last1 h2]
  rfl
/-- how many strokes: the law asks whether more than one -/
theorem count_split (t : Str) : Txt.count t ("/" : Str) = ((Txt.split t ("/" : Str)).length : Int) - 1 := by
  have zl : (PySem.Builtin.Str.occurrences t ("/" : Str) 0 t.length (t.length + 1)).length + 1 = (Txt.split t ("/" : Str)).length := by
    have none_case : PySem.Builtin.Str.occurrences t ("/" : Str) 0 t.length (t.length + 1) = [] → (PySem.Builtin.Str.occurrences t ("/" : Str) 0 t.length (t.length + 1)).length + 1 = [t].length := fun e => by
      rw [e]
      rfl
    unfold Txt.split
    by_cases h1 : (decide (t.length < ("/" : Str).length) || decide (Builtin.Str.strKind t < Builtin.Str.strKind ("/" : Str))) = true
    · rw [if_pos h1]
      refine none_case ?_
      have hlt : t.length < ("/" : Str).length := by
        simp only [Bool.or_eq_true, decide_eq_true_eq] at h1
        exact h1.resolve_right (kind_stroke t)
      have e1 : ("/" : Str).length = 1 := by decide +kernel
      have h0 : t.length = 0 := by omega
      obtain ⟨f, g, hn⟩ := PySem.StrLaws.occ_tight t ("/" : Str) (by rw [e1]; decide)
      cases ho : PySem.Builtin.Str.occurrences t ("/" : Str) 0 t.length (t.length + 1) with
      | nil => rfl
      | cons c r =>
        rw [ho] at g
        have hc : c + ("/" : Str).length ≤ t.length := g.2.1.1
        omega
    · rw [if_neg h1]
      by_cases h2 : (PySem.Builtin.Str.occurrences t ("/" : Str) 0 t.length (t.length + 1)).isEmpty = true
      · rw [if_pos h2]
        exact none_case (List.isEmpty_iff.mp h2)
      · rw [if_neg h2]
        unfold PySem.Builtin.Str.partsBetween
        simp
  unfold Txt.count
  omega
theorem spl_len : ∀ (l acc : L), (spl [47] 0 acc l).length = l.count 47 + 1
  | [], acc => rfl
  | c :: r, acc => by
    by_cases h : c = 47
    · subst h
      rw [spl_hit (by unfold pre; rfl), List.length_cons]
      have := spl_len r []
      rw [List.count_cons_self]
      show (spl [47] 0 [] r).length + 1 = _
      omega
    · have hp : pre [47] (c :: r) = false := pre_of_head [] r h
      rw [spl_miss hp, List.count_cons_of_ne h]
      exact spl_len r _
theorem count_is (t : Str) : Txt.count t ("/" : Str) = ((tl t).count 47 : Int) := by
  have e := count_split t
  have e2 := congrArg List.length (split_spl t ("/" : Str) (by rw [tl_stroke]; simp) (kind_stroke _))
  rw [List.length_map, tl_stroke, spl_len] at e2
  omega
/-- what is read of a text, either way -/
def rd (l : L) : Option (Int × Int) := match par [47] [] l with
  | none => readL1 l
  | some (a, b) => if 47 ∈ b then none else readL2 a b
theorem rd_one {l : L} (h : 47 ∉ l) : rd l = readL1 l := by
  unfold rd
  rw [par_none1 h]
theorem rd_two {a b : L} (h : 47 ∉ a) : rd (a ++ 47 :: b) = if 47 ∈ b then none else readL2 a b := by
  unfold rd
  have e : par [47] [] (a ++ ([47] ++ b)) = some ([] ++ a, b) := par_part1 h
  rw [show a ++ 47 :: b = a ++ ([47] ++ b) from rfl, e]
  rfl
theorem okW_no {b : L} (h : 47 ∈ b) : okW b = false := by
  rw [Bool.eq_false_iff]
  intro z
  obtain ⟨_, _, h3⟩ := okW_iff.mp z
  have : 47 ∈ figL b := by
    unfold figL
    split
    · rename_i e
      exact (List.mem_cons.mp h).resolve_left (by decide)
    · exact h
  have := h3 47 this
  omega
end Wt
namespace Ww
open PySem PySem.Spec PyProof.Rows L2
open Evl
/-! ### text * int -/
def rMulS : R2 := fun x y H Q => ∃ (z : Str) (n : Int), x = .str z ∧ y = .int n ∧ MulOk z n ∧ Q (.str (Txt.mul z n)) H
theorem op_mulS {X : Cx} : OpR X (binaryOp .Mult) rMulS := by
  intro pins s σ H x y v u Q I rx ry h
  obtain ⟨z, n, rfl, rfl, hk, q⟩ := h
  obtain ⟨t, rfl⟩ := rx
  obtain ⟨t2, rfl⟩ := ry
  exact PySem.SB.mul hk fun t' k => ⟨.str _, H, I.tok k, ⟨t', rfl⟩, q⟩

/-! ### what is walked, in greater heaps -/
def Src (wi : TI) (σ : L2.St) (H : Hp) (n : Nat) (Y : Nat → Hp → V → Hp → Prop) : Prop := ∀ H1, Ex H H1 → ∀ R : It → Hp → Prop, (∀ J H2 (G : Hp → Prop), Ex H1 H2 → Walk J n G Y → (∀ H3, Ex H2 H3 → G H3) → R J H2) → wi σ H1 R
section
variable {K : PySem.W.Frag} {σ : L2.St} {H : Hp} {te ta tb tl : TE} {tr : TA}
def YStr (z : Str) : Nat → Hp → V → Hp → Prop := fun i H v H' => H' = H ∧ ∃ c, z.cps[i]? = some c ∧ v = .str ⟨#[c]⟩
theorem src_str {z : Str} (h : Ev te σ H (.str z)) : Src (iStr te) σ H z.cps.size (YStr z) := fun H1 e R q =>
  h H1 e _ fun H2 e2 => ⟨z, rfl, q _ _ _ e2 walk_str fun _ _ => trivial⟩
theorem src_list {a : Addr} {xs : List V} (h : Ev tl σ H (.ref a)) (hs : SqL K H a xs) : Src (iList K tl) σ H xs.length (YAt xs) := fun H1 e R q =>
  h H1 e _ fun H2 e2 => ⟨a, rfl, ⟨xs, ex_l (e.trans e2) hs⟩, q _ _ _ e2 walk_list fun H3 e3 => ex_l ((e.trans e2).trans e3) hs⟩
theorem src_newl {xs : List V} (h : EvL tl σ H xs) : Src (iList K tl) σ H xs.length (YAt xs) := fun H1 e R q =>
  h H1 e _ fun a H2 _ e2 h2 => ⟨a, rfl, ⟨xs, sq_of h2⟩, q _ _ _ e2 walk_list fun H3 e3 => sq_of (e3 _ _ h2)⟩
theorem src_rng1 {n : Int} (h : EvA tr σ H [.int n]) (h0 : -(2 ^ 62) ≤ n) (h1 : n < 2 ^ 62) : Src (iRng1 tr) σ H n.toNat (YFn fun i => .int (i : Int)) := fun H1 e R q =>
  h H1 e _ fun H2 e2 => ⟨n, rfl, h0, h1, q _ _ (fun _ => True) e2 (walk_range.mono (fun _ h => h) fun i H x H' hi _ y => by
    obtain ⟨a, b⟩ := y
    exact ⟨a, by rw [b]; show V.int (0 + (i : Int)) = V.int (i : Int); rw [Int.zero_add]⟩) fun _ _ => trivial⟩
theorem src_rng2 {lo n : Int} (h : EvA tr σ H [.int lo, .int n]) (hb : -(2 ^ 62) ≤ lo ∧ lo < 2 ^ 62 ∧ -(2 ^ 62) ≤ n ∧ n < 2 ^ 62) : Src (iRng2 tr) σ H (n - lo).toNat (YFn fun i => .int (lo + (i : Int))) := fun H1 e R q =>
  h H1 e _ fun H2 e2 => ⟨lo, n, rfl, hb, q _ _ _ e2 walk_range fun _ _ => trivial⟩
theorem src_zip {a b : Addr} {xs ys : List V} (h : EvA tr σ H [.ref a, .ref b]) (ha : SqL K H a xs) (hb : SqL K H b ys) : Src (iZip K tr) σ H (min xs.length ys.length) (YPair (fun i => xs[i]?) (fun i => ys[i]?)) := fun H1 e R q =>
  h H1 e _ fun H2 e2 => ⟨a, b, xs, ys, rfl, ex_l (e.trans e2) ha, ex_l (e.trans e2) hb, q _ _ _ e2 (walk_zip rfl) fun H3 e3 => ⟨ex_l ((e.trans e2).trans e3) ha, ex_l ((e.trans e2).trans e3) hb⟩⟩
end
section
variable {K : PySem.W.Frag} {σ : L2.St} {H : Hp} {te : TE} {t : TT} {wi : TI} {g : TG} {vs : List Nat} {n : Nat} {Y : Nat → Hp → V → Hp → Prop} {D : Ends} {tu tz : TS}
/-- a for over such: each turn begins in a heap greater than the one at the loop's start, and may leave any that the word Pv takes -/
theorem q_forG (h : Src wi σ H n Y) (Pv : Nat → L2.St → Hp → Prop) (h0 : ∀ H1, Ex H H1 → Pv 0 σ H1) (hG : ∀ i σ' H', Pv i σ' H' → Ex H H')
    (hs : ∀ i x σ' Ha Hb, i < n → Pv i σ' Ha → Y i Ha x Hb → ∀ N : L2.St → Hp → Prop, (∀ σ2 H2, Ex Ha H2 → Pv (i + 1) σ2 H2 → N σ2 H2) → g x σ' Hb fun σ2 H2 => tu { D with nx := N, ct := N, bk := tz D } σ2 H2)
    (hd : ∀ σ' H', Pv n σ' H' → tz D σ' H') : tSeq (tFor wi g tu) tz D σ H := h H (Ex.refl H) _ fun J H2 G e w hg =>
  for_it w (fun i σ' H' => Ex H2 H' ∧ Pv i σ' H') ⟨Ex.refl _, h0 H2 e⟩ (fun i σ' H' _ p => hg H' p.1) (fun i x σ' Ha Hb hi p y => hs i x σ' Ha Hb hi p.2 y _ fun σ3 H3 e3 p3 => ⟨p.1.trans e3, p3⟩) (fun σ' H' p => hd σ' H' p.2)
/-- a comprehension whose turns f and values v are known -/
theorem el_lcG (f : Nat → Bool) (v : Nat → V) (h : Src wi σ H n Y) (hn : n ≤ 40000)
    (ht : ∀ i x Ha Hb, i < n → Ex H Ha → Y i Ha x Hb → ∀ R : L2.St → Hp → Prop, (∀ σ2 H2, wipe σ2 vs = wipe σ vs → Ex Ha H2 → EvT t σ2 H2 (f i) → (f i = true → Ev te σ2 H2 (v i)) → R σ2 H2) → g x (wipe σ vs) Hb R) :
    EvL (tLc wi g t te vs) σ H (given n f v) := fun H0 e Q q => h H0 e _ fun J H1 G e1 w hg Dl hD =>
  lc_it w (Cw H1 f v Dl) ⟨hD, Ex.new hD, upd_same⟩ (fun i H' _ p => hg H' p.2.1) (fun i x Ha Hb hi p y => by
    obtain ⟨p1, p2, p3⟩ := p
    refine ht i x Ha Hb hi ((e.trans e1).trans p2) y _ fun σ2 H2 w2 e2 et ev => ⟨w2, ?_⟩
    refine et H2 (Ex.refl _) _ fun H3 e3 => ?_
    cases hf : f i with
    | true =>
      refine iteT ?_
      refine ev hf H3 e3 _ fun H4 e4 => ⟨given i f v, e4 Dl _ (e3 Dl _ (e2 Dl _ p3)), sz_lt (by have := given_len i f v; omega), p1, Ex.mut (((p2.trans e2).trans e3).trans e4) p1, ?_⟩
      rw [given_yes hf]
      exact upd_same
    | false =>
      refine iteF ⟨p1, (p2.trans e2).trans e3, ?_⟩
      rw [given_no hf]
      exact e3 Dl _ (e2 Dl _ p3)) (fun H' p => q Dl H' (fresh_back e1 p.1) (e1.trans p.2.1) p.2.2)
end
end Ww
namespace Wt
open PySem PySem.Spec TL Ww L2
theorem mem_ten {c : Nat} : c ∈ tl ("0123456789" : Str) ↔ 48 ≤ c ∧ c ≤ 57 := by
  rw [tl_ten]
  simp only [List.mem_cons, List.not_mem_nil, or_false]
  omega
theorem not_ten {c : Nat} : (!decide (c ∈ ("0123456789" : Str).cps.toList)) = !(decide (48 ≤ c) && decide (c ≤ 57)) := by
  have e : decide (c ∈ ("0123456789" : Str).cps.toList) = (decide (48 ≤ c) && decide (c ≤ 57)) := by
    rw [← Bool.decide_and, decide_eq_decide]
    exact mem_ten
  rw [e]
theorem size_tl (x : Str) : x.cps.size = (tl x).length := by simp [tl]
theorem cps_tl {x : Str} {i c : Nat} (h : x.cps[i]? = some c) : (tl x)[i]? = some c := by simpa [tl] using h
theorem allD_get {w : L} {i c : Nat} (h : w[i]? = some c) (hd : ¬ (48 ≤ c ∧ c ≤ 57)) : AllD w = false := by
  rw [Bool.eq_false_iff]
  intro z
  exact hd (allD_iff.mp z c (List.mem_of_getElem? h))
theorem allD_all {w : L} (h : ∀ (i : Nat) (c : Nat), w[i]? = some c → 48 ≤ c ∧ c ≤ 57) : AllD w = true := by
  rw [allD_iff]
  intro c hc
  obtain ⟨i, hi⟩ := List.mem_iff_getElem?.mp hc
  exact h i c hi
theorem rmpre_len (x : Str) : (Txt.removeprefix x ("-" : Str)).length ≤ x.length := by
  rw [len_tl, len_tl, tl_rmpre]
  unfold figL
  split
  · rename_i e; rw [e, List.length_cons]; omega
  · omega
end Wt
namespace Wt
open PySem TL Ww L2
theorem rd_strokes {a b : L} (h : 47 ∉ a) : rd (a ++ 47 :: b) = readP (a ++ 47 :: b) a b := by
  rw [rd_two h, read_two h]
  by_cases hb : 47 ∈ b
  · rw [if_pos hb]
    unfold readL2
    rw [if_neg]
    rintro ⟨_, c, _⟩
    have := okW_canon c
    rw [okW_no hb] at this
    cases this
  · rw [if_neg hb]
theorem rd_plain {a : L} (h : 47 ∉ a) : rd a = readP a a [49] := by rw [rd_one h, read_one h]
theorem tl_one : tl ("1" : Str) = [49] := by decide +kernel
theorem readP_a {t a b : L} (h : okW a = false) : readP t a b = none := by
  unfold readP
  rw [if_neg]
  rintro ⟨z, _⟩
  rw [h] at z
  cases z
theorem readP_b {t a b : L} (h : okW b = false) : readP t a b = none := by
  unfold readP
  rw [if_neg]
  rintro ⟨_, z, _⟩
  rw [h] at z
  cases z
theorem readP_s {t a b : L} (h : isSh (valW a) (valW b) = false) : readP t a b = none := by
  unfold readP
  rw [if_neg]
  rintro ⟨_, _, z, _⟩
  rw [h] at z
  cases z
theorem readP_w {t a b : L} (h : wrL (valW a, valW b) ≠ t) : readP t a b = none := by
  unfold readP
  rw [if_neg]
  rintro ⟨_, _, _, z⟩
  exact h z
theorem readP_y {t a b : L} (h1 : okW a = true) (h2 : okW b = true) (h3 : isSh (valW a) (valW b) = true) (h4 : wrL (valW a, valW b) = t) : readP t a b = some (valW a, valW b) := by
  unfold readP
  rw [if_pos ⟨h1, h2, h3, h4⟩]
theorem vs_iff {x y : Str} : (V.str x = V.str y) ↔ x = y := ⟨fun z => V.str.inj z, fun z => z ▸ rfl⟩
end Wt
namespace Ww
open PySem PySem.Spec PyProof.Rows L2
open Evl
section
variable {K : PySem.W.Frag} {σ : L2.St} {H : Hp} {te ta tb tl : TE} {tr : TA}
theorem ev_slS {to tu : TO} {z : Str} {lo hi : Option Int} (h : Ev te σ H (.str z)) (h1 : EvO to σ H lo) (h2 : EvO tu σ H hi) (hz : z.length ≤ sizeLine) : Ev (tSl rSlS te to tu) σ H (.str (cutS z lo hi)) := fun H1 e Q q =>
  h H1 e _ fun H2 e2 => h1 H2 (e.trans e2) _ fun H3 e3 => h2 H3 ((e.trans e2).trans e3) _ fun H4 e4 => ⟨z, rfl, hz, q H4 ((e2.trans e3).trans e4)⟩
def rLenA (K : PySem.W.Frag) : List V → Hp → VK → Prop := fun xs H Q => ∃ x n, xs = [x] ∧ LenV K x H n ∧ Q (.int n) H
theorem ev_lenL {xs : List V} (h : EvL te σ H xs) : Ev (tCB (rLenA K) (tCons te tNil)) σ H (.int (xs.length : Nat)) := fun H1 e Q q =>
  h H1 e _ fun p H2 _ e2 h2 => ⟨.ref p, xs.length, rfl, .inl ⟨xs, sq_of h2, rfl⟩, q H2 e2⟩
theorem ev_lenS {z : Str} (h : Ev te σ H (.str z)) (hz : z.length ≤ sizeLine) : Ev (tCB (rLenA K) (tCons te tNil)) σ H (.int (z.length : Nat)) := fun H1 e Q q =>
  h H1 e _ fun H2 e2 => ⟨.str z, z.length, rfl, ⟨hz, rfl⟩, q H2 e2⟩
end
end Ww
namespace Wt
open PySem TL Ww L2
theorem tl_cut1 (t : Str) : tl (cutS t none (some 1)) = (tl t).take 1 := by
  show ((tl t).drop 0).take (HT.sIx t.length t.length (some 1) - 0) = _
  rw [List.drop_zero]
  have e : HT.sIx t.length t.length (some ((1 : Nat) : Int)) = min 1 t.length := HT.sIx_nat _ _ _
  have e' : HT.sIx t.length t.length (some 1) = min 1 t.length := e
  rw [e', Nat.sub_zero, len_tl]
  cases tl t with
  | nil => rfl
  | cons c r => simp
theorem tl_cutR (t : Str) : tl (cutS t (some 1) none) = (tl t).drop 1 := by
  show ((tl t).drop (HT.sIx t.length 0 (some 1))).take (HT.sIx t.length t.length none - HT.sIx t.length 0 (some 1)) = _
  have e : HT.sIx t.length 0 (some ((1 : Nat) : Int)) = min 1 t.length := HT.sIx_nat _ _ _
  have e' : HT.sIx t.length 0 (some 1) = min 1 t.length := e
  rw [e', show HT.sIx t.length t.length none = t.length from rfl, len_tl]
  cases tl t with
  | nil => rfl
  | cons c r =>
    have : min 1 (c :: r).length = 1 := by simp
    rw [this]
    rw [List.take_of_length_le (by simp)]
theorem dash_test (t : Str) : decide (V.str (cutS t none (some 1)) = V.str ("-" : Str)) = decide ((tl t).head? = some 45) := by
  rw [decide_eq_decide, vs_iff]
  constructor
  · intro e
    have := congrArg tl e
    rw [tl_cut1, tl_dash] at this
    cases h : tl t with
    | nil => rw [h] at this; cases this
    | cons c r => rw [h] at this; exact congrArg some (List.cons.inj this).1
  · intro e
    refine ext_tl ?_
    rw [tl_cut1, tl_dash]
    cases h : tl t with
    | nil => rw [h] at e; cases e
    | cons c r => rw [h] at e; rw [show c = 45 from Option.some.inj e]; rfl
/-- the figures of a text, as the law takes them -/
def figS (t : Str) : Str := if (tl t).head? = some 45 then cutS t (some 1) none else t
theorem figS_neg {t : Str} (h : (tl t).head? = some 45) : figS t = cutS t (some 1) none := if_pos h
theorem figS_pos {t : Str} (h : ¬ (tl t).head? = some 45) : figS t = t := if_neg h
theorem tl_figS (t : Str) : tl (figS t) = figL (tl t) := by
  unfold figS
  split
  · rename_i h
    rw [tl_cutR]
    cases e : tl t with
    | nil => rw [e] at h; cases h
    | cons c r => rw [e] at h; rw [show c = 45 from Option.some.inj h]; rfl
  · rename_i h
    rw [figL_of h]
theorem figS_len (t : Str) : (figS t).length ≤ t.length := by
  unfold figS
  split
  · exact cutS_length _ _ _
  · exact Nat.le_refl _
end Wt
namespace Wt
open PySem TL Ww L2
theorem dv_lt : ∀ {u : L}, NumText.AllDigits u → NumText.digitsVal u < 10 ^ u.length := by
  have aux : ∀ (n : Nat) (u : L), u.length = n → NumText.AllDigits u → NumText.digitsVal u < 10 ^ u.length := by
    intro n
    induction n with
    | zero => intro u hl _; rw [List.length_eq_zero_iff.mp hl]; decide
    | succ n ih =>
      intro u hl hu
      have hne : u ≠ [] := fun z => by rw [z] at hl; cases hl
      obtain ⟨v, c, rfl⟩ : ∃ v c, u = v ++ [c] := ⟨u.dropLast, u.getLast hne, (List.dropLast_concat_getLast hne).symm⟩
      have i := ih v (by rw [List.length_append, List.length_singleton] at hl; omega) (fun d hd => hu d (List.mem_append_left _ hd))
      have hc := hu c (List.mem_append_right _ (List.mem_singleton.mpr rfl))
      rw [dv_append, List.length_append, List.length_singleton, Nat.pow_succ]
      omega
  intro u hu
  exact aux u.length u rfl hu
theorem occ_dig {c : Nat} (h : 48 ≤ c ∧ c ≤ 57) : Builtin.Str.occurrences ("0123456789" : Str) ⟨#[c]⟩ 0 ("0123456789" : Str).length 1 = [c - 48] := by
  have all : ∀ d : _root_.Fin 10, Builtin.Str.occurrences ("0123456789" : Str) ⟨#[48 + d.val]⟩ 0 ("0123456789" : Str).length 1 = [d.val] := by decide +kernel
  have e := all ⟨c - 48, by omega⟩
  have e2 : 48 + (c - 48) = c := by omega
  rw [show (48 + (⟨c - 48, by omega⟩ : _root_.Fin 10).val) = c from e2] at e
  exact e
/-- whether some sign is no figure, by how many there are -/
def badAt (w : L) (i : Nat) : Bool := !(decide (48 ≤ w.getD i 0) && decide (w.getD i 0 ≤ 57))
theorem bad_count (w : L) : decide (0 < ((((List.range w.length).filter (badAt w)).length : Nat) : Int)) = !AllD w := by
  have key : ((List.range w.length).filter (badAt w)).length = 0 ↔ AllD w = true := by
    rw [List.length_eq_zero_iff, List.filter_eq_nil_iff]
    constructor
    · intro h
      refine allD_all fun i c hc => ?_
      obtain ⟨hi, e⟩ := List.getElem?_eq_some_iff.mp hc
      have b := h i (List.mem_range.mpr hi)
      unfold badAt at b
      rw [List.getD_eq_getElem?_getD, hc] at b
      simp at b
      exact b
    · intro h i hi
      have hi' := List.mem_range.mp hi
      unfold badAt
      rw [List.getD_eq_getElem?_getD, List.getElem?_eq_getElem hi']
      have := allD_iff.mp h w[i] (List.getElem_mem hi')
      simp
      exact this
  cases ha : AllD w with
  | true =>
    rw [key.mpr ha]
    rfl
  | false =>
    have : ((List.range w.length).filter (badAt w)).length ≠ 0 := fun z => by rw [key.mp z] at ha; cases ha
    rw [decide_eq_true (by omega)]
    rfl
theorem take_dv {w : L} {i c : Nat} (h : w[i]? = some c) : NumText.digitsVal (w.take (i + 1)) = NumText.digitsVal (w.take i) * 10 + (c - 48) := by
  obtain ⟨hi, e⟩ := List.getElem?_eq_some_iff.mp h
  rw [List.take_succ_eq_append_getElem hi, dv_append, e]
theorem getD_of {w : L} {i c : Nat} (h : w[i]? = some c) : w.getD i 0 = c := by
  rw [List.getD_eq_getElem?_getD, h]
  rfl
end Wt
namespace Wt
open PySem TL Ww L2
theorem len_app (a b : Str) : (a ++ b).length = a.length + b.length := by rw [len_tl, tl_append, List.length_append, ← len_tl, ← len_tl]
/-- the signs that the law puts in -/
def someA : Str := " !\"#$&'()*+,-./0123456789:;<=>?@ABCDEFGHIJKLMNOPQRSTUVWXYZ[\\]^_`abcdefghijklmnopqrstuvwxyz{|}~"
def someS : Str := someA ++ (("\t\n" : Str)) ++ Txt.mul ("0123456789/-+_" : Str) 5
theorem someS_pos : 0 < someS.length := by decide +kernel
theorem someS_le : someS.length ≤ 1000 := by decide +kernel
theorem mul5 : MulOk ("0123456789/-+_" : Str) 5 := ⟨by decide +kernel, fun _ _ => by decide +kernel, fun _ _ => by decide +kernel⟩
theorem mul61 : MulOk ("1" : Str) 61 := ⟨by decide +kernel, fun _ _ => by decide +kernel, fun _ _ => by decide +kernel⟩
theorem mul61' : MulOk ("3" : Str) 61 := ⟨by decide +kernel, fun _ _ => by decide +kernel, fun _ _ => by decide +kernel⟩
end Wt
namespace Wt
open PySem TL Ww L2
theorem figL_numZ (n : Int) : figL (numZ n) = numL n.natAbs := by
  unfold numZ
  split
  · rfl
  · refine figL_of fun z => ?_
    have : 45 ∈ numL n.natAbs := by
      cases e : numL n.natAbs with
      | nil => exact absurd e (numL_ne _)
      | cons c r => rw [e] at z; rw [show c = 45 from Option.some.inj z]; exact List.mem_cons_self ..
    exact numL_free (by omega) this
theorem okW_numZ {n : Int} (h : n.natAbs < big) : okW (numZ n) = true := by
  rw [okW_iff, figL_numZ]
  refine ⟨?_, numL_len (by decide) h, numL_digits _⟩
  have := numL_ne n.natAbs
  cases e : numL n.natAbs with
  | nil => exact absurd e this
  | cons c r => simp
theorem valW_numZ (n : Int) : valW (numZ n) = n := by
  unfold valW
  rw [figL_numZ, numL_val]
  by_cases h : n < 0
  · have e : (numZ n).head? = some 45 := by unfold numZ; rw [if_pos h]; rfl
    rw [if_pos e]
    omega
  · have e : ¬ (numZ n).head? = some 45 := by
      unfold numZ
      rw [if_neg h]
      intro z
      have : 45 ∈ numL n.natAbs := by
        cases e : numL n.natAbs with
        | nil => exact absurd e (numL_ne _)
        | cons c r => rw [e] at z; rw [show c = 45 from Option.some.inj z]; exact List.mem_cons_self ..
      exact numL_free (by omega) this
    rw [if_neg e]
    omega
/-- what is written of a share is read to the same -/
theorem rd_wr {a b : Int} (ha : a.natAbs < big) (hb : b.natAbs < big) (hs : isSh a b = true) : rd (wrL (a, b)) = some (a, b) := by
  by_cases b1 : b = 1
  · subst b1
    show rd (numZ a) = _
    rw [rd_plain (numZ_free a)]
    have e := readP_y (t := numZ a) (a := numZ a) (b := [49]) (okW_numZ ha) (by decide) (by rw [valW_numZ]; exact hs) (by rw [valW_numZ]; rfl)
    rw [e, valW_numZ]
    rfl
  · have ew : wrL (a, b) = numZ a ++ 47 :: numZ b := if_neg b1
    rw [ew, rd_strokes (numZ_free a)]
    have e := readP_y (t := numZ a ++ 47 :: numZ b) (a := numZ a) (b := numZ b) (okW_numZ ha) (okW_numZ hb) (by rw [valW_numZ, valW_numZ]; exact hs) (by rw [valW_numZ, valW_numZ]; exact ew)
    rw [e, valW_numZ, valW_numZ]
end Wt
namespace My
open PySem PySem.Spec PyProof.Rows L2 Ww
open Evl (Ex)
def top (i : Nat) : Stmt := PySem.Challenge.pw_weighwords_k03_written.main.body.getD i (.Pass ⟨0, 0, 0, 0⟩)
abbrev s_p_is_whole : Stmt := top 11
abbrev s_is_share : Stmt := top 12
abbrev s_p_written_number : Stmt := top 16
abbrev s_written : Stmt := top 17
abbrev s_p_read_number : Stmt := top 18
abbrev s_read : Stmt := top 19
abbrev s_l_cell_at : Stmt := top 21
abbrev s_l_whole : Stmt := top 22
abbrev s_l_common : Stmt := top 23
abbrev s_l_share : Stmt := top 24
abbrev s_l_is : Stmt := top 25
abbrev s_l_number : Stmt := top 26
abbrev s_l_word_of : Stmt := top 27
abbrev s_l_figures : Stmt := top 28
abbrev s_l_read_here : Stmt := top 29
abbrev s_l_told : Stmt := top 30
abbrev s_l_changed : Stmt := top 31
abbrev s_l_odd : Stmt := top 32
abbrev s_law : Stmt := top 33
abbrev N_p_is_whole : List Str := ["thing"]
theorem sc_p_is_whole : FnScope N_p_is_whole ["thing"] (defScope s_p_is_whole) := ⟨rfl, rfl, rfl, by decide +kernel, rfl, by decide +kernel, by decide +kernel⟩
abbrev N_is_share : List Str := ["thing", "top", "bottom"]
theorem sc_is_share : FnScope N_is_share ["thing"] (defScope s_is_share) := ⟨rfl, rfl, rfl, by decide +kernel, rfl, by decide +kernel, by decide +kernel⟩
abbrev N_p_written_number : List Str := ["number", "blocks", "block"]
theorem sc_p_written_number : FnScope N_p_written_number ["number"] (defScope s_p_written_number) := ⟨rfl, rfl, rfl, by decide +kernel, rfl, by decide +kernel, by decide +kernel⟩
abbrev N_written : List Str := ["part", "top", "bottom"]
theorem sc_written : FnScope N_written ["part"] (defScope s_written) := ⟨rfl, rfl, rfl, by decide +kernel, rfl, by decide +kernel, by decide +kernel⟩
abbrev N_p_read_number : List Str := ["text", "figures", "figure"]
theorem sc_p_read_number : FnScope N_p_read_number ["text"] (defScope s_p_read_number) := ⟨rfl, rfl, rfl, by decide +kernel, rfl, by decide +kernel, by decide +kernel⟩
abbrev N_read : List Str := ["text", "top", "stroke", "bottom", "part"]
theorem sc_read : FnScope N_read ["text"] (defScope s_read) := ⟨rfl, rfl, rfl, by decide +kernel, rfl, by decide +kernel, by decide +kernel⟩
abbrev N_l_cell_at : List Str := ["_law_script", "_law_k"]
theorem sc_l_cell_at : FnScope N_l_cell_at ["_law_script", "_law_k"] (defScope s_l_cell_at) := ⟨rfl, rfl, rfl, by decide +kernel, rfl, by decide +kernel, by decide +kernel⟩
abbrev N_l_whole : List Str := ["_law_found"]
theorem sc_l_whole : FnScope N_l_whole ["_law_found"] (defScope s_l_whole) := ⟨rfl, rfl, rfl, by decide +kernel, rfl, by decide +kernel, by decide +kernel⟩
abbrev N_l_common : List Str := ["_law_one", "_law_other"]
theorem sc_l_common : FnScope N_l_common ["_law_one", "_law_other"] (defScope s_l_common) := ⟨rfl, rfl, rfl, by decide +kernel, rfl, by decide +kernel, by decide +kernel⟩
abbrev N_l_share : List Str := ["_law_top", "_law_bottom", "_law_common_here"]
theorem sc_l_share : FnScope N_l_share ["_law_top", "_law_bottom"] (defScope s_l_share) := ⟨rfl, rfl, rfl, by decide +kernel, rfl, by decide +kernel, by decide +kernel⟩
abbrev N_l_is : List Str := ["_law_found", "_law_due"]
theorem sc_l_is : FnScope N_l_is ["_law_found", "_law_due"] (defScope s_l_is) := ⟨rfl, rfl, rfl, by decide +kernel, rfl, by decide +kernel, by decide +kernel⟩
abbrev N_l_number : List Str := ["_law_cell"]
theorem sc_l_number : FnScope N_l_number ["_law_cell"] (defScope s_l_number) := ⟨rfl, rfl, rfl, by decide +kernel, rfl, by decide +kernel, by decide +kernel⟩
abbrev N_l_word_of : List Str := ["_law_e", "_law_found"]
theorem sc_l_word_of : FnScope N_l_word_of ["_law_e"] (defScope s_l_word_of) := ⟨rfl, rfl, rfl, by decide +kernel, rfl, by decide +kernel, by decide +kernel⟩
abbrev N_l_figures : List Str := ["_law_word", "_law_figures_here", "_law_found", "_law_sign"]
theorem sc_l_figures : FnScope N_l_figures ["_law_word"] (defScope s_l_figures) := ⟨rfl, rfl, rfl, by decide +kernel, rfl, by decide +kernel, by decide +kernel⟩
abbrev N_l_read_here : List Str := ["_law_text", "_law_words", "_law_top", "_law_bottom"]
theorem sc_l_read_here : FnScope N_l_read_here ["_law_text"] (defScope s_l_read_here) := ⟨rfl, rfl, rfl, by decide +kernel, rfl, by decide +kernel, by decide +kernel⟩
abbrev N_l_told : List Str := ["_law_text", "_law_e"]
theorem sc_l_told : FnScope N_l_told ["_law_text"] (defScope s_l_told) := ⟨rfl, rfl, rfl, by decide +kernel, rfl, by decide +kernel, by decide +kernel⟩
abbrev N_l_changed : List Str := ["_law_text", "_law_cell", "_law_some", "_law_at", "_law_sign"]
theorem sc_l_changed : FnScope N_l_changed ["_law_text", "_law_cell"] (defScope s_l_changed) := ⟨rfl, rfl, rfl, by decide +kernel, rfl, by decide +kernel, by decide +kernel⟩
abbrev N_l_odd : List Str := ["_law_cell", "_law_some"]
theorem sc_l_odd : FnScope N_l_odd ["_law_cell"] (defScope s_l_odd) := ⟨rfl, rfl, rfl, by decide +kernel, rfl, by decide +kernel, by decide +kernel⟩
abbrev N_law : List Str := ["_law_script", "_law_top", "_law_part", "_law_text", "_law_found", "_law_cell", "_law_other", "_law_due", "_law_told_here"]
theorem sc_law : FnScope N_law ["_law_script"] (defScope s_law) := ⟨rfl, rfl, rfl, by decide +kernel, rfl, by decide +kernel, by decide +kernel⟩
structure Txt (K : PySem.W.Frag) (mg : Str → Option Value) where
  f_p_is_whole : Addr
  fd_p_is_whole : FuncData
  F_p_is_whole : Fun K "_is_whole" "_is_whole" s_p_is_whole f_p_is_whole fd_p_is_whole
  b_p_is_whole : Binds K fd_p_is_whole ["thing"] []
  m_p_is_whole : mg "_is_whole" = some (.ref f_p_is_whole)
  f_is_share : Addr
  fd_is_share : FuncData
  F_is_share : Fun K "is_share" "is_share" s_is_share f_is_share fd_is_share
  b_is_share : Binds K fd_is_share ["thing"] []
  m_is_share : mg "is_share" = some (.ref f_is_share)
  f_p_written_number : Addr
  fd_p_written_number : FuncData
  F_p_written_number : Fun K "_written_number" "_written_number" s_p_written_number f_p_written_number fd_p_written_number
  b_p_written_number : Binds K fd_p_written_number ["number"] []
  m_p_written_number : mg "_written_number" = some (.ref f_p_written_number)
  f_written : Addr
  fd_written : FuncData
  F_written : Fun K "written" "written" s_written f_written fd_written
  b_written : Binds K fd_written ["part"] []
  m_written : mg "written" = some (.ref f_written)
  f_p_read_number : Addr
  fd_p_read_number : FuncData
  F_p_read_number : Fun K "_read_number" "_read_number" s_p_read_number f_p_read_number fd_p_read_number
  b_p_read_number : Binds K fd_p_read_number ["text"] []
  m_p_read_number : mg "_read_number" = some (.ref f_p_read_number)
  f_read : Addr
  fd_read : FuncData
  F_read : Fun K "read" "read" s_read f_read fd_read
  b_read : Binds K fd_read ["text"] []
  m_read : mg "read" = some (.ref f_read)
  f_l_cell_at : Addr
  fd_l_cell_at : FuncData
  F_l_cell_at : Fun K "_law_cell_at" "_law_cell_at" s_l_cell_at f_l_cell_at fd_l_cell_at
  b_l_cell_at : Binds K fd_l_cell_at ["_law_script", "_law_k"] []
  m_l_cell_at : mg "_law_cell_at" = some (.ref f_l_cell_at)
  f_l_whole : Addr
  fd_l_whole : FuncData
  F_l_whole : Fun K "_law_whole" "_law_whole" s_l_whole f_l_whole fd_l_whole
  b_l_whole : Binds K fd_l_whole ["_law_found"] []
  m_l_whole : mg "_law_whole" = some (.ref f_l_whole)
  f_l_common : Addr
  fd_l_common : FuncData
  F_l_common : Fun K "_law_common" "_law_common" s_l_common f_l_common fd_l_common
  b_l_common : Binds K fd_l_common ["_law_one", "_law_other"] []
  m_l_common : mg "_law_common" = some (.ref f_l_common)
  f_l_share : Addr
  fd_l_share : FuncData
  F_l_share : Fun K "_law_share" "_law_share" s_l_share f_l_share fd_l_share
  b_l_share : Binds K fd_l_share ["_law_top", "_law_bottom"] []
  m_l_share : mg "_law_share" = some (.ref f_l_share)
  f_l_is : Addr
  fd_l_is : FuncData
  F_l_is : Fun K "_law_is" "_law_is" s_l_is f_l_is fd_l_is
  b_l_is : Binds K fd_l_is ["_law_found", "_law_due"] []
  m_l_is : mg "_law_is" = some (.ref f_l_is)
  f_l_number : Addr
  fd_l_number : FuncData
  F_l_number : Fun K "_law_number" "_law_number" s_l_number f_l_number fd_l_number
  b_l_number : Binds K fd_l_number ["_law_cell"] []
  m_l_number : mg "_law_number" = some (.ref f_l_number)
  f_l_word_of : Addr
  fd_l_word_of : FuncData
  F_l_word_of : Fun K "_law_word_of" "_law_word_of" s_l_word_of f_l_word_of fd_l_word_of
  b_l_word_of : Binds K fd_l_word_of ["_law_e"] []
  m_l_word_of : mg "_law_word_of" = some (.ref f_l_word_of)
  f_l_figures : Addr
  fd_l_figures : FuncData
  F_l_figures : Fun K "_law_figures" "_law_figures" s_l_figures f_l_figures fd_l_figures
  b_l_figures : Binds K fd_l_figures ["_law_word"] []
  m_l_figures : mg "_law_figures" = some (.ref f_l_figures)
  f_l_read_here : Addr
  fd_l_read_here : FuncData
  F_l_read_here : Fun K "_law_read_here" "_law_read_here" s_l_read_here f_l_read_here fd_l_read_here
  b_l_read_here : Binds K fd_l_read_here ["_law_text"] []
  m_l_read_here : mg "_law_read_here" = some (.ref f_l_read_here)
  f_l_told : Addr
  fd_l_told : FuncData
  F_l_told : Fun K "_law_told" "_law_told" s_l_told f_l_told fd_l_told
  b_l_told : Binds K fd_l_told ["_law_text"] []
  m_l_told : mg "_law_told" = some (.ref f_l_told)
  f_l_changed : Addr
  fd_l_changed : FuncData
  F_l_changed : Fun K "_law_changed" "_law_changed" s_l_changed f_l_changed fd_l_changed
  b_l_changed : Binds K fd_l_changed ["_law_text", "_law_cell"] []
  m_l_changed : mg "_law_changed" = some (.ref f_l_changed)
  f_l_odd : Addr
  fd_l_odd : FuncData
  F_l_odd : Fun K "_law_odd" "_law_odd" s_l_odd f_l_odd fd_l_odd
  b_l_odd : Binds K fd_l_odd ["_law_cell"] []
  m_l_odd : mg "_law_odd" = some (.ref f_l_odd)
  f_law : Addr
  fd_law : FuncData
  F_law : Fun K "law" "law" s_law f_law fd_law
  b_law : Binds K fd_law ["_law_script"] []
  m_law : mg "law" = some (.ref f_law)
  n_int : mg "int" = none
  n_type : mg "type" = none
  n_tuple : mg "tuple" = none
  n_len : mg "len" = none
  n_divmod : mg "divmod" = none
  n_str : mg "str" = none
  n_isinstance : mg "isinstance" = none
  n_bool : mg "bool" = none
  n_abs : mg "abs" = none
  n_ValueError : mg "ValueError" = none
  n_max : mg "max" = none
  g_gcd : mg "gcd" = some (.builtin "math.gcd")
  mk_p_FIGURES : Σ' t : Tok, mg "_FIGURES" = some (.str "0123456789" t)
  mk_p_MOST_FIGURES : Σ' t : Tok, mg "_MOST_FIGURES" = some (.int 60 t)
  c_WeighError : Addr
  mc_WeighError : mg "WeighError" = some (.ref c_WeighError)
  c_Nought : Addr
  mc_Nought : mg "Nought" = some (.ref c_Nought)
  c_NoText : Addr
  mc_NoText : mg "NoText" = some (.ref c_NoText)
  x_NoText : PySem.W.excIn K c_NoText [.type "ValueError", .type "Exception", .type "BaseException", .type "object"] "ValueError.__new__" = true
  k_NoText : PySem.W.keepIn K (.ref c_NoText) = true
  sB_NoText : PySem.W.subIn K (.ref c_NoText) (.type "BaseException") = some true
  tB_NoText : PySem.W.typeIn K (.ref c_NoText) = some (.type "type")
  c_NoRow : Addr
  mc_NoRow : mg "NoRow" = some (.ref c_NoRow)
  c_NoMachine : Addr
  mc_NoMachine : mg "NoMachine" = some (.ref c_NoMachine)
  c_NoWord : Addr
  mc_NoWord : mg "NoWord" = some (.ref c_NoWord)
  c_OtherSigns : Addr
  mc_OtherSigns : mg "OtherSigns" = some (.ref c_OtherSigns)
  c_TooMany : Addr
  mc_TooMany : mg "TooMany" = some (.ref c_TooMany)
section
variable {P : Program} {w : World} {K : PySem.W.Frag} {mg : Str → Option Value} {base : Heap}
/-- a share of two known numbers, handed in at an address -/
def Sh (K : PySem.W.Frag) (H : Hp) (x : V) (a b : Int) : Prop := ∃ p, x = .ref p ∧ SqT K H p [.int a, .int b]
def Sz (n : Int) : Prop := n.natAbs < 2 ^ 4000
theorem sz_mul {a b : Int} (ha : Sz a) (hb : Sz b) : CMulG a b ∧ (a * b).natAbs < 2 ^ 8000 := by
  refine ⟨mulG_of ha hb (by decide) (by decide) (by decide), ?_⟩
  rw [Int.natAbs_mul, show (8000 : Nat) = 4000 + 4000 from rfl, Nat.pow_add]
  exact Nat.mul_lt_mul'' ha hb
theorem pow_9000 {n : Nat} (h : n < 2 ^ 8000) : n < 2 ^ 9000 := Nat.lt_of_lt_of_le h (Nat.pow_le_pow_right (by decide) (by decide))
/-- what is told: the share of top by bottom, new -/
def RetSh (a b : Int) (H : Hp) (Q : VK) : Prop := ∀ p H', H p = none → Ex H H' → H' p = some (.tup [.int (shT a b), .int (shBt a b)]) → Q (.ref p) H'
theorem Sh.mono {K : PySem.W.Frag} {H H' : Hp} {v : V} {a b : Int} (e : Ex H H') (h : Sh K H v a b) : Sh K H' v a b := by
  obtain ⟨p, rfl, h⟩ := h
  exact ⟨p, rfl, Evl.ex_t e h⟩
def sp_p_is_whole (K : PySem.W.Frag) : Sp := fun vs H Q _ => ∃ x n, vs = [x] ∧ TyB K H x n ∧ isTy n = true ∧ ∀ H', Ex H H' → Q (.bl (decide (n = "int"))) H'
theorem ok_p_is_whole (T : Txt K mg) : FnOk P w K mg base (L2.CX P w) 1 T.f_p_is_whole T.fd_p_is_whole ["thing"] (sp_p_is_whole K) := by
  refine T.F_p_is_whole.okN sc_p_is_whole (fun vs H Q E h => ?_) (fun cdv A outer s H vs Q E hr h => ?_)
  · obtain ⟨x, n, rfl, _⟩ := h
    rfl
  obtain ⟨x, n, rfl, hty, hi, k⟩ := h
  refine ⟨_, (pss_one (ps_ret (pe_cmpR op_eqTy (pe_callTy call_type1 (by rfl) T.n_type (by decide +kernel) (pa_cons (pv 0) pa_nil)) (pe_bltn (v := .ty "int") (by rfl) T.n_int (by decide +kernel) rfl) (nomark _)))), ?_⟩
  exact ⟨_, rfl, _, _, rfl, hty, _, _, rfl, rfl, hi, (by decide), k H (Ex.refl H)⟩
def sp_is_share (K : PySem.W.Frag) : Sp := fun vs H Q _ => ∃ x b, vs = [x] ∧ Thing K H x b ∧ ∀ H', Ex H H' → Q (.bl b) H'
theorem ok_is_share (T : Txt K mg) : FnOk P w K mg base (L2.CX P w) 2 T.f_is_share T.fd_is_share ["thing"] (sp_is_share K) := by
  have G_p_is_whole := ok_p_is_whole (P := P) (w := w) (base := base) T
  refine T.F_is_share.okN sc_is_share (fun vs H Q E h => ?_) (fun cdv A outer s H vs Q E hr h => ?_)
  · obtain ⟨x, n, rfl, _⟩ := h
    rfl
  obtain ⟨x, b, rfl, th, k⟩ := h
  refine ⟨_, (pss_cons (ps_if (PW.pt (pw_or (pt_cmpR op_neTy (pe_callTy call_type1 (by rfl) T.n_type (by decide +kernel) (pa_cons (pv 0) pa_nil)) (pe_bltn (v := .ty "tuple") (by rfl) T.n_tuple (by decide +kernel) rfl) (nomark _)) (pw_or1 (pt_cmpR op_ne (pe_callB call_len (by rfl) T.n_len (by decide +kernel) (pa_cons (pv 0) pa_nil)) pe_int (nomark _))))) (pss_one (ps_ret pe_bl)) pss_nil)
    (pss_cons (ps_asg (pv 0) (pg_tup (by rfl) (pgs_cons (pg_name (i := 1) sc_is_share.nd rfl (Or.inl rfl)) (pgs_cons (pg_name (i := 2) sc_is_share.nd rfl (Or.inl rfl)) pgs_nil))))
    (pss_cons (ps_if (PW.pt (pw_or (pt_not (pt_val (pe_call G_p_is_whole (hr.mono (by decide)) (by rfl) T.m_p_is_whole T.F_p_is_whole.kp T.b_p_is_whole .nil passL (pa_cons (pv 1) pa_nil)))) (pw_or1 (pt_not (pt_val (pe_call G_p_is_whole (hr.mono (by decide)) (by rfl) T.m_p_is_whole T.F_p_is_whole.kp T.b_p_is_whole .nil passL (pa_cons (pv 2) pa_nil))))))) (pss_one (ps_ret pe_bl)) pss_nil)
    (pss_one (ps_ret (pe_and (pe_cmpR op_ge (pv 2) pe_int (nomark _)) (pe_one (pe_cmpR op_eq (pe_callBfun cr_gcd (by rfl) T.g_gcd (pa_cons (pv 1) (pa_cons (pv 2) pa_nil))) pe_int (nomark _))))))))), ?_⟩
  cases th with
  | no h hn ht =>
    refine ⟨_, rfl, _, _, rfl, h, _, _, rfl, rfl, ht, (by decide), ?_⟩
    refine ⟨_, rfl, ?_⟩
    rw [decide_eq_false hn]
    exact iteT (k H (Ex.refl H))
  | @tup a xs h hx =>
    refine ⟨_, rfl, _, _, rfl, .tup h, _, _, rfl, rfl, (by decide), (by decide), ?_⟩
    refine ⟨_, rfl, ?_⟩
    refine iteF ?_
    refine ⟨_, rfl, _, _, rfl, .inr ⟨_, h, rfl⟩, rfl, ?_⟩
    refine ⟨_, rfl, ?_⟩
    by_cases hl : xs.length = 2
    · refine itF (neF (by rw [hl]; rfl)) ?_
      obtain ⟨x, y, rfl⟩ := two_of hl
      obtain ⟨n1, t1, _, i1⟩ := hx x (by simp)
      obtain ⟨n2, t2, _, i2⟩ := hx y (by simp)
      refine ⟨_, rfl, a, _, rfl, h, rfl, _, _, rfl, _, _, rfl, rfl, ?_⟩
      refine ⟨_, rfl, x, n1, rfl, t1, i1, fun Ha ea => ?_⟩
      refine ⟨_, rfl, ?_⟩
      by_cases h1 : n1 = "int"
      · obtain ⟨p, rfl⟩ := tyb_int t1 h1
        refine itF (by rw [decide_eq_true h1]; rfl) ?_
        refine ⟨_, rfl, y, n2, rfl, tyb_mono ea t2, i2, fun Hb eb => ?_⟩
        refine ⟨_, rfl, ?_⟩
        by_cases h2 : n2 = "int"
        · obtain ⟨q, rfl⟩ := tyb_int t2 h2
          refine itF (by rw [decide_eq_true h2]; rfl) ?_
          refine ⟨_, rfl, _, _, rfl, rfl, _, rfl, ?_⟩
          by_cases hq : 1 ≤ q
          · refine itT (decide_eq_true hq) ?_
            refine ⟨_, rfl, _, rfl, p, q, rfl, rfl, ?_⟩
            have e : decide (V.int ((Nat.gcd p.natAbs q.natAbs : Nat) : Int) = V.int 1) = isSh p q := by
              unfold isSh
              rw [decide_eq_true hq, Bool.true_and, decide_eq_decide, vi]
              omega
            have z := k Hb (ea.trans eb)
            rw [show shB [.int p, .int q] = isSh p q from rfl, ← e] at z
            exact z
          · refine itF (decide_eq_false hq) ?_
            have e : isSh p q = false := by
              unfold isSh
              rw [decide_eq_false hq]
              rfl
            have z := k Hb (ea.trans eb)
            rw [show shB [.int p, .int q] = isSh p q from rfl, e] at z
            exact z
        · refine itT (by rw [decide_eq_false h2]; rfl) ?_
          rw [shB_snd (tyb_not t2 h2)] at k
          exact k Hb (ea.trans eb)
      · refine itT (by rw [decide_eq_false h1]; rfl) ?_
        rw [shB_fst (tyb_not t1 h1)] at k
        exact k Ha ea
    · refine itT (neT (by omega)) ?_
      rw [shB_len hl] at k
      exact k H (Ex.refl H)
abbrev S (n : Int) : Str := Str.ofString (toString n)
def sp_p_written_pos : Sp := fun vs H Q _ => ∃ n, vs = [.int n] ∧ 0 ≤ n ∧ n.natAbs < big ∧ ∀ H', Ex H H' → Q (.str (S n)) H'
theorem big_ge {n : Int} (h : n.natAbs < big) : decide ((10 : Int) ^ (60 : Int).toNat ≤ n) = false := by
  refine decide_eq_false fun z => ?_
  have e : (10 : Int) ^ (60 : Int).toNat = ((big : Nat) : Int) := by decide +kernel
  rw [e] at z
  omega
theorem len_S {n : Int} (h : n.natAbs < big) : (S n).length ≤ 61 := Wt.len_numZ h
/-- blocks = [] .. : the last three rows of it, at a list that is empty -/
theorem ok_p_written_pos (T : Txt K mg) : FnOk P w K mg base (L2.CX P w) 1 T.f_p_written_number T.fd_p_written_number ["number"] sp_p_written_pos := by
  refine T.F_p_written_number.okN sc_p_written_number (fun vs H Q E h => ?_) (fun cdv A outer s H vs Q E hr h => ?_)
  · obtain ⟨a, rfl, _⟩ := h
    rfl
  obtain ⟨n, rfl, h0, hb, k⟩ := h
  refine ⟨_, (pss_cons (ps_if (pt_cmpR op_lt (pv 0) pe_int (nomark _)) pss_never pss_nil)
    (pss_cons (ps_set (i := 1) sc_p_written_number.nd rfl (Or.inl rfl) (pe_lst pa_nil))
    (pss_cons (ps_while PassesOwn.never (pt_cmpR op_ge (pv 0) (pe_op op_pow pe_int pe_int) (nomark _)) pss_never)
    (pss_cons (ps_expr (pe_bm PySem.F.plainAttrs_list PySem.F.slot_list_append PySem.F.type_list_append mt_append (pv 1) (pa_cons (pe_callTy call_str_int (by rfl) T.n_str (by decide +kernel) (pa_cons (pv 0) pa_nil)) pa_nil)))
    (pss_one (ps_ret (pe_join pe_str (pe_revL (pv 1))))))))), ?_⟩
  refine ⟨_, rfl, _, _, rfl, rfl, _, rfl, itF (decide_eq_false (by omega)) ?_⟩
  refine ⟨(by show 0 ≤ sizeLine; decide), fun l hl => ?_⟩
  refine Evl.q_while (fun m σ' H' => σ' = [some (.int n), some (.ref l), none] ∧ H' = upd H l (.lst [])) 0 ⟨rfl, rfl⟩ ?_
  rintro m σ' H' ⟨rfl, rfl⟩
  refine ⟨false, Evl.et_test (Evl.ev_is (Evl.ev_op (Evl.ev_var rfl) (ev_powI Evl.ev_c Evl.ev_c (cpow _ _ rfl)) Evl.rv_I0) (congrArg V.bl (big_ge hb))), fun z => (nomatch z), fun _ H1 e1 => ?_⟩
  have l1 := e1 _ _ upd_same
  refine ⟨_, rfl, .inl ⟨rfl, _, SqL.of l1⟩, _, rfl, _, rfl, Wt.log_big hb, l, _, _, rfl, rfl, l1, (by show 0 < sizeLine; decide), ?_⟩
  refine ⟨⟨_, rfl⟩, _, rfl, l, _, rfl, SqL.of upd_same, fun p hp => ?_⟩
  refine ⟨_, p, [S n], rfl, rfl, .inl (SqL.of upd_same), ?_, ?_⟩
  · have := len_S hb
    show (S n).length + 0 + 1 * ("" : Str).length ≤ 16777216
    have e : ("" : Str).length = 0 := by decide +kernel
    omega
  · rw [Wt.join_one]
    exact k _ (((Ex.new hl).trans e1).trans (Ex.refl _) |> fun _ => (Evl.Ex.mut ((Ex.new hl).trans e1) hl).trans (Ex.new hp))
def sp_p_written_number : Sp := fun vs H Q _ => ∃ n, vs = [.int n] ∧ n.natAbs < big ∧ ∀ H', Ex H H' → Q (.str (S n)) H'
theorem ok_p_written_number (T : Txt K mg) : FnOk P w K mg base (L2.CX P w) 2 T.f_p_written_number T.fd_p_written_number ["number"] sp_p_written_number := by
  have G_p_written_number := ok_p_written_pos (P := P) (w := w) (base := base) T
  refine T.F_p_written_number.okN sc_p_written_number (fun vs H Q E h => ?_) (fun cdv A outer s H vs Q E hr h => ?_)
  · obtain ⟨a, rfl, _⟩ := h
    rfl
  obtain ⟨n, rfl, hb, k⟩ := h
  refine ⟨_, (pss_cons (ps_if (pt_cmpR op_lt (pv 0) pe_int (nomark _)) (pss_one (ps_ret (pe_op op_add_str pe_str (pe_call G_p_written_number (hr.mono (by decide)) (by rfl) T.m_p_written_number T.F_p_written_number.kp T.b_p_written_number .nil passL (pa_cons (pe_un un_neg (pv 0)) pa_nil))))) pss_nil)
    (pss_cons (ps_set (i := 1) sc_p_written_number.nd rfl (Or.inl rfl) (pe_lst pa_nil))
    (pss_cons (ps_while PassesOwn.never (pt_cmpR op_ge (pv 0) (pe_op op_pow pe_int pe_int) (nomark _)) pss_never)
    (pss_cons (ps_expr (pe_bm PySem.F.plainAttrs_list PySem.F.slot_list_append PySem.F.type_list_append mt_append (pv 1) (pa_cons (pe_callTy call_str_int (by rfl) T.n_str (by decide +kernel) (pa_cons (pv 0) pa_nil)) pa_nil)))
    (pss_one (ps_ret (pe_join pe_str (pe_revL (pv 1))))))))), ?_⟩
  by_cases h0 : n < 0
  · refine ⟨_, rfl, _, _, rfl, rfl, _, rfl, itT (decide_eq_true h0) ?_⟩
    refine ⟨_, rfl, _, rfl, _, rfl, by omega, by omega, fun H1 e1 => ?_⟩
    refine ⟨_, _, rfl, rfl, ?_, ?_⟩
    · have := len_S (n := -n) (by omega)
      have e : ("-" : Str).length = 1 := by decide +kernel
      show ("-" : Str).length + (S (-n)).length ≤ sizeLine
      rw [e]
      exact Nat.le_trans (show 1 + (S (-n)).length ≤ 62 by omega) (by decide)
    · rw [Wt.neg_text h0]
      exact k _ e1
  refine ⟨_, rfl, _, _, rfl, rfl, _, rfl, itF (decide_eq_false (by omega)) ?_⟩
  refine ⟨(by show 0 ≤ sizeLine; decide), fun l hl => ?_⟩
  refine Evl.q_while (fun m σ' H' => σ' = [some (.int n), some (.ref l), none] ∧ H' = upd H l (.lst [])) 0 ⟨rfl, rfl⟩ ?_
  rintro m σ' H' ⟨rfl, rfl⟩
  refine ⟨false, Evl.et_test (Evl.ev_is (Evl.ev_op (Evl.ev_var rfl) (ev_powI Evl.ev_c Evl.ev_c (cpow _ _ rfl)) Evl.rv_I0) (congrArg V.bl (big_ge hb))), fun z => (nomatch z), fun _ H1 e1 => ?_⟩
  have l1 := e1 _ _ upd_same
  refine ⟨_, rfl, .inl ⟨rfl, _, SqL.of l1⟩, _, rfl, _, rfl, Wt.log_big hb, l, _, _, rfl, rfl, l1, (by show 0 < sizeLine; decide), ?_⟩
  refine ⟨⟨_, rfl⟩, _, rfl, l, _, rfl, SqL.of upd_same, fun p hp => ?_⟩
  refine ⟨_, p, [S n], rfl, rfl, .inl (SqL.of upd_same), ?_, ?_⟩
  · have := len_S hb
    show (S n).length + 0 + 1 * ("" : Str).length ≤ 16777216
    have e : ("" : Str).length = 0 := by decide +kernel
    omega
  · rw [Wt.join_one]
    exact k _ ((Evl.Ex.mut ((Ex.new hl).trans e1) hl).trans (Ex.new hp))
/-- what is written of a share -/
def wrS (a b : Int) : Str := if b = 1 then S a else S a ++ ("/" : Str) ++ S b
theorem tl_wrS (a b : Int) : TL.tl (wrS a b) = Wt.wrL (a, b) := by
  unfold wrS Wt.wrL
  dsimp only
  split
  · exact Wt.tl_toString a
  · rw [TL.tl_append, TL.tl_append, Wt.tl_toString, Wt.tl_toString, Wt.tl_stroke]
    simp
theorem len_wrS {a b : Int} (ha : a.natAbs < big) (hb : b.natAbs < big) : (wrS a b).length ≤ 123 := by
  have h1 := len_S ha
  have h2 := len_S hb
  unfold wrS
  split
  · omega
  · rw [TL.len_tl, TL.tl_append, TL.tl_append, Wt.tl_stroke, List.length_append, List.length_append, ← TL.len_tl, ← TL.len_tl]
    show (S a).length + 1 + (S b).length ≤ 123
    omega
def sp_written (K : PySem.W.Frag) : Sp := fun vs H Q _ => ∃ x a b, vs = [x] ∧ Sh K H x a b ∧ a.natAbs < big ∧ b.natAbs < big ∧ ∀ H', Ex H H' → Q (.str (wrS a b)) H'
theorem ok_written (T : Txt K mg) : FnOk P w K mg base (L2.CX P w) 3 T.f_written T.fd_written ["part"] (sp_written K) := by
  have G_p_written_number := ok_p_written_number (P := P) (w := w) (base := base) T
  refine T.F_written.okN sc_written (fun vs H Q E h => ?_) (fun cdv A outer s H vs Q E hr h => ?_)
  · obtain ⟨x, a, b, rfl, _⟩ := h
    rfl
  obtain ⟨_, a, b, rfl, ⟨p, rfl, hp⟩, ha, hb, k⟩ := h
  refine ⟨_, (pss_cons (ps_asg (pv 0) (pg_tup (by rfl) (pgs_cons (pg_name (i := 1) sc_written.nd rfl (Or.inl rfl)) (pgs_cons (pg_name (i := 2) sc_written.nd rfl (Or.inl rfl)) pgs_nil))))
    (pss_cons (ps_if (pt_cmpR op_eq (pv 2) pe_int (nomark _)) (pss_one (ps_ret (pe_call G_p_written_number (hr.mono (by decide)) (by rfl) T.m_p_written_number T.F_p_written_number.kp T.b_p_written_number .nil passL (pa_cons (pv 1) pa_nil)))) pss_nil)
    (pss_one (ps_ret (pe_op op_add_str (pe_op op_add_str (pe_call G_p_written_number (hr.mono (by decide)) (by rfl) T.m_p_written_number T.F_p_written_number.kp T.b_p_written_number .nil passL (pa_cons (pv 1) pa_nil)) pe_str) (pe_call G_p_written_number (hr.mono (by decide)) (by rfl) T.m_p_written_number T.F_p_written_number.kp T.b_p_written_number .nil passL (pa_cons (pv 2) pa_nil))))))), ?_⟩
  refine ⟨_, rfl, p, _, rfl, hp, rfl, _, _, rfl, _, _, rfl, rfl, ?_⟩
  refine ⟨_, rfl, rfl, _, rfl, ?_⟩
  by_cases b1 : b = 1
  · refine itT (eqT b1) ?_
    refine ⟨_, rfl, _, rfl, ha, fun H1 e1 => ?_⟩
    have z := k H1 e1
    unfold wrS at z
    rw [if_pos b1] at z
    exact z
  · refine itF (eqF b1) ?_
    refine ⟨_, rfl, _, rfl, ha, fun H1 e1 => ?_⟩
    have h1 := len_S ha
    have h2 := len_S hb
    have e : ("/" : Str).length = 1 := by decide +kernel
    have e2 : (S a ++ ("/" : Str)).length = (S a).length + 1 := by rw [TL.len_tl, TL.tl_append, Wt.tl_stroke, List.length_append, ← TL.len_tl]; rfl
    refine ⟨_, _, rfl, rfl, ?_, ?_⟩
    · rw [e]
      exact Nat.le_trans (show (S a).length + 1 ≤ 62 by omega) (by decide)
    refine ⟨_, rfl, _, rfl, hb, fun H2 e2' => ?_⟩
    refine ⟨_, _, rfl, rfl, ?_, ?_⟩
    · rw [e2]
      exact Nat.le_trans (show (S a).length + 1 + (S b).length ≤ 130 by omega) (by decide)
    have z := k H2 (e1.trans e2')
    unfold wrS at z
    rw [if_neg b1] at z
    exact z
def sp_p_read_number (C : Addr) : Sp := fun vs H Q E => ∃ t, vs = [.str t] ∧ t.length ≤ 1000 ∧ (Wt.okW (TL.tl t) = false → ∀ H', Ex H H' → E (.ref C) none H') ∧ (Wt.okW (TL.tl t) = true → ∀ H', Ex H H' → Q (.int (Wt.valW (TL.tl t))) H')
theorem ok_p_read_number (T : Txt K mg) : FnOk P w K mg base (L2.CX P w) 1 T.f_p_read_number T.fd_p_read_number ["text"] (sp_p_read_number T.c_NoText) := by
  refine T.F_p_read_number.okX sc_p_read_number (fun vs H Q E h => ?_) (fun cdv A outer s H vs Q E hr h => ?_)
  · obtain ⟨a, rfl, _⟩ := h
    rfl
  obtain ⟨t, rfl, ht, kE, k⟩ := h
  refine ⟨_, (pss_cons (ps_set (i := 1) sc_p_read_number.nd rfl (Or.inl rfl) (pe_bm PySem.F.plainAttrs_str PySem.F.slot_str_removeprefix PySem.F.type_str_removeprefix mt_removeprefix (pv 0) (pa_cons pe_str pa_nil)))
    (pss_cons (ps_if (PW.pt (pw_or (pt_cmpR op_lt (pe_callB call_len (by rfl) T.n_len (by decide +kernel) (pa_cons (pv 1) pa_nil)) pe_int (nomark _)) (pw_or1 (pt_cmpR op_gt (pe_callB call_len (by rfl) T.n_len (by decide +kernel) (pa_cons (pv 1) pa_nil)) (pe_glob (v := .int 60) (by rfl) T.mk_p_MOST_FIGURES.2 ⟨_, rfl⟩) (nomark _))))) (pss_one (ps_raise rfl (takes_of rfl rfl rfl rfl) (pmk_own PySem.F.excBase_ValueError T.x_NoText T.mc_NoText T.k_NoText (raises_own T.sB_NoText T.tB_NoText) (by rfl)))) pss_nil)
    (pss_cons (ps_for (passes_of rfl) (by rfl) (pi_str (pv 1)) (pg_name (i := 2) sc_p_read_number.nd rfl (Or.inl rfl)) (pss_one (ps_if (pt_cmpR op_notIn_sign (pv 2) (pe_glob (v := .str "0123456789") (by rfl) T.mk_p_FIGURES.2 ⟨_, rfl⟩) (by with_unfolding_all rfl)) (pss_one (ps_raise rfl (takes_of rfl rfl rfl rfl) (pmk_own PySem.F.excBase_ValueError T.x_NoText T.mc_NoText T.k_NoText (raises_own T.sB_NoText T.tB_NoText) (by rfl)))) pss_nil)))
    (pss_one (ps_ret (pe_callTy call_int_str (by rfl) T.n_int (by decide +kernel) (pa_cons (pv 0) pa_nil))))))), ?_⟩
  have hl := Wt.rmpre_len t
  have ef := Wt.tl_rmpre t
  have small : ∀ {n : Nat}, n ≤ 1000 → n ≤ sizeLine := fun h => Nat.le_of_lt (small1000 h)
  refine ⟨_, rfl, rfl, _, _, rfl, rfl, small ht, ?_⟩
  generalize hfg : Txt.removeprefix t ("-" : Str) = fg at ef hl ⊢
  have lf := TL.len_tl fg
  refine ⟨_, rfl, _, fg.length, rfl, ⟨small (by omega), rfl⟩, _, _, rfl, rfl, _, rfl, ?_⟩
  by_cases c1 : fg.length < 1
  · refine itT (decide_eq_true (by omega)) ?_
    refine itT rfl ?_
    refine kE ?_ H (Ex.refl H)
    unfold Wt.okW
    rw [← ef, decide_eq_false (show ¬ 1 ≤ (TL.tl fg).length by omega)]
    rfl
  refine itF (decide_eq_false (by omega)) ?_
  refine ⟨_, rfl, _, fg.length, rfl, ⟨small (by omega), rfl⟩, _, _, rfl, rfl, _, rfl, ?_⟩
  by_cases c2 : fg.length > 60
  · refine itT (decide_eq_true (by omega)) ?_
    refine kE ?_ H (Ex.refl H)
    unfold Wt.okW
    rw [← ef, decide_eq_false (show ¬ (TL.tl fg).length ≤ 60 by omega), Bool.and_false]
    rfl
  refine itF (decide_eq_false (by omega)) ?_
  refine nxt ?_
  dsimp only
  refine q_forG (src_str (Evl.ev_var rfl)) (fun i σ' H' => (∃ v, σ' = [some (.str t), some (.str fg), v]) ∧ Ex H H' ∧ ∀ (j c : Nat), j < i → (TL.tl fg)[j]? = some c → 48 ≤ c ∧ c ≤ 57) (fun H1 e1 => ⟨⟨_, rfl⟩, e1, fun j c hj => absurd hj (by omega)⟩) (fun i σ' H' p => p.2.1) ?_ ?_
  · rintro i x σ' Ha Hb hi ⟨⟨v, rfl⟩, eH, hd⟩ ⟨rfl, c, hc, rfl⟩ N hN
    refine ⟨_, rfl, c, _, rfl, rfl, _, rfl, ?_⟩
    rw [Wt.not_ten]
    have hc' := Wt.cps_tl hc
    by_cases hdig : 48 ≤ c ∧ c ≤ 57
    · refine itF (by rw [decide_eq_true hdig.1, decide_eq_true hdig.2]; rfl) ?_
      refine hN _ _ (Ex.refl _) ⟨⟨_, rfl⟩, eH, fun j d hj hd' => ?_⟩
      rcases Nat.lt_succ_iff_lt_or_eq.mp hj with h | h
      · exact hd j d h hd'
      · subst h
        rw [hc'] at hd'
        rw [← Option.some.inj hd']
        exact hdig
    · refine itT ?_ ?_
      · rw [← Bool.decide_and, decide_eq_false hdig]; rfl
      refine kE ?_ _ eH
      unfold Wt.okW
      rw [← ef, Wt.allD_get hc' hdig, Bool.and_false]
  · rintro σ' H' ⟨⟨v, rfl⟩, eH, hd⟩
    have ok : Wt.okW (TL.tl t) = true := by
      unfold Wt.okW
      rw [← ef, decide_eq_true (show 1 ≤ (TL.tl fg).length by omega), decide_eq_true (show (TL.tl fg).length ≤ 60 by omega)]
      refine Wt.allD_all fun i c hc => hd i c ?_ hc
      rw [Wt.size_tl]
      exact (List.getElem?_eq_some_iff.mp hc).1
    exact ⟨_, rfl, t, _, rfl, Wt.intText_val ok, Wt.okW_len ok, k ok _ eH⟩
/-- what is told of a text -/
def RetRd (o : Option (Int × Int)) (H : Hp) (Q : VK) : Prop := ∀ a b, o = some (a, b) → ∀ p H', Ex H H' → H' p = some (.tup [.int a, .int b]) → Q (.ref p) H'
def sp_read (K : PySem.W.Frag) (C : Addr) : Sp := fun vs H Q E =>
  (∃ t, vs = [.str t] ∧ t.length ≤ 1000 ∧ (Wt.rd (TL.tl t) = none → ∀ H', Ex H H' → E (.ref C) none H') ∧ RetRd (Wt.rd (TL.tl t)) H Q) ∨
  (∃ x n, vs = [x] ∧ TyB K H x n ∧ n ≠ "str" ∧ isTy n = true ∧ ∀ H', Ex H H' → E (.ref C) none H')
theorem ok_read (T : Txt K mg) : FnOk P w K mg base (L2.CX P w) 4 T.f_read T.fd_read ["text"] (sp_read K T.c_NoText) := by
  have G_p_read_number := ok_p_read_number (P := P) (w := w) (base := base) T
  have G_is_share := ok_is_share (P := P) (w := w) (base := base) T
  have G_written := ok_written (P := P) (w := w) (base := base) T
  refine T.F_read.okX sc_read (fun vs H Q E h => ?_) (fun cdv A outer s H vs Q E hr h => ?_)
  · rcases h with ⟨a, rfl, _⟩ | ⟨a, b, rfl, _⟩ <;> rfl
  refine ⟨_, (pss_cons (ps_if (pt_cmpR op_neTy (pe_callTy call_type1 (by rfl) T.n_type (by decide +kernel) (pa_cons (pv 0) pa_nil)) (pe_bltn (v := .ty "str") (by rfl) T.n_str (by decide +kernel) rfl) (nomark _)) (pss_one (ps_raise rfl (takes_of rfl rfl rfl rfl) (pmk_own PySem.F.excBase_ValueError T.x_NoText T.mc_NoText T.k_NoText (raises_own T.sB_NoText T.tB_NoText) (by rfl)))) pss_nil)
    (pss_cons (ps_asg (pe_partition (pv 0) pe_str) (pg_tup (by rfl) (pgs_cons (pg_name (i := 1) sc_read.nd rfl (Or.inl rfl)) (pgs_cons (pg_name (i := 2) sc_read.nd rfl (Or.inl rfl)) (pgs_cons (pg_name (i := 3) sc_read.nd rfl (Or.inl rfl)) pgs_nil)))))
    (Evl.pss_cut (ps_if (pt_cmpR op_eq (pv 2) pe_str (nomark _)) (pss_one (ps_set (i := 3) sc_read.nd rfl (Or.inl rfl) pe_str)) pss_nil)
    (pss_cons (ps_set (i := 4) sc_read.nd rfl (Or.inl rfl) (pe_tup (pa_cons (pe_callS G_p_read_number (hr.mono (by decide)) (by rfl) T.m_p_read_number T.F_p_read_number.kp T.b_p_read_number (fun σ => passAt (takes_of rfl rfl rfl rfl) σ) (pa_cons (pv 1) pa_nil)) (pa_cons (pe_callS G_p_read_number (hr.mono (by decide)) (by rfl) T.m_p_read_number T.F_p_read_number.kp T.b_p_read_number (fun σ => passAt (takes_of rfl rfl rfl rfl) σ) (pa_cons (pv 3) pa_nil)) pa_nil))))
    (pss_cons (ps_if (PW.pt (pw_or (pt_not (pt_val (pe_call G_is_share (hr.mono (by decide)) (by rfl) T.m_is_share T.F_is_share.kp T.b_is_share .nil passL (pa_cons (pv 4) pa_nil)))) (pw_or1 (pt_cmpR op_ne (pe_call G_written (hr.mono (by decide)) (by rfl) T.m_written T.F_written.kp T.b_written .nil passL (pa_cons (pv 4) pa_nil)) (pv 0) (nomark _))))) (pss_one (ps_raise rfl (takes_of rfl rfl rfl rfl) (pmk_own PySem.F.excBase_ValueError T.x_NoText T.mc_NoText T.k_NoText (raises_own T.sB_NoText T.tB_NoText) (by rfl)))) pss_nil)
    (pss_one (ps_ret (pv 4)))))))), ?_⟩
  rcases h with ⟨t, rfl, ht, kE, k⟩ | ⟨x, n, rfl, hty, hn, hi, kE⟩
  · refine ⟨_, rfl, _, _, rfl, .str t, _, _, rfl, rfl, (by decide), (by decide), _, rfl, iteF ?_⟩
    have small : ∀ {n : Nat}, n ≤ 1000 → n ≤ sizeLine := fun h => Nat.le_of_lt (small1000 h)
    refine ⟨_, rfl, ⟨_, rfl⟩, _, _, rfl, rfl, (by decide +kernel), small ht, fun p hp => ?_⟩
    refine ⟨p, _, rfl, SqT.of upd_same, rfl, _, _, rfl, _, _, rfl, _, _, rfl, rfl, ?_⟩
    have tok : ∀ {a b : Int} {H : Hp} (z : V), z ∈ ([.int a, .int b] : List V) → Any K H z := fun z hz => by
      rcases List.mem_cons.mp hz with h | h
      · subst h; exact any_int _
      · rw [List.mem_singleton.mp h]; exact any_int _
    refine Evl.q_cut (M := fun σ' H' => ∃ sa sb st, σ' = [some (.str t), some (.str sa), some (.str st), some (.str sb), none] ∧ Ex H H' ∧ Wt.rd (TL.tl t) = Wt.readP (TL.tl t) (TL.tl sa) (TL.tl sb) ∧ sa.length ≤ 1000 ∧ sb.length ≤ 1000) ?_ ?_
    · by_cases h47 : 47 ∈ TL.tl t
      · obtain ⟨a, b, et, na, el⟩ := Wt.part_of h47
        have hp2 : Txt.partition t ("/" : Str) = (a, ("/" : Str), b) := by rw [et]; exact Wt.partition_two na
        have hlen : a.length ≤ 1000 ∧ b.length ≤ 1000 := by
          have h1 := TL.len_tl t
          rw [el, List.length_append, List.length_cons, ← TL.len_tl, ← TL.len_tl] at h1
          omega
        rw [hp2]
        refine ⟨_, rfl, rfl, _, rfl, itF (decide_eq_false fun z => absurd (Wt.vs_iff.mp z) (show ¬ ("/" : Str) = ("" : Str) by decide +kernel)) ?_⟩
        exact ⟨a, b, _, rfl, Ex.new hp, by rw [el]; exact Wt.rd_strokes na, hlen.1, hlen.2⟩
      · rw [Wt.partition_one h47]
        refine ⟨_, rfl, rfl, _, rfl, itT (decide_eq_true (Wt.vs_iff.mpr (show Str.empty = ("" : Str) by decide +kernel))) ?_⟩
        exact ⟨t, ("1" : Str), _, rfl, Ex.new hp, by rw [Wt.tl_one]; exact Wt.rd_plain h47, ht, by decide +kernel⟩
    · rintro σ' H1 ⟨sa, sb, st, rfl, e1, erd, la, lb⟩
      refine ⟨_, rfl, sa, rfl, la, fun no H2 e2 => kE (by rw [erd]; exact Wt.readP_a no) _ (e1.trans e2), fun oa H2 e2 => ?_⟩
      refine ⟨_, rfl, sb, rfl, lb, fun no H3 e3 => kE (by rw [erd]; exact Wt.readP_b no) _ ((e1.trans e2).trans e3), fun ob H3 e3 => ?_⟩
      refine ⟨(by show 2 ≤ sizeLine; decide), fun q hq => ?_⟩
      have e13 := (e1.trans e2).trans e3
      have e4 := e13.trans (Ex.new (o := HO.tup [.int (Wt.valW (TL.tl sa)), .int (Wt.valW (TL.tl sb))]) hq)
      refine ⟨_, rfl, _, _, rfl, .tup (SqT.of upd_same) tok, fun H5 e5 => ⟨_, rfl, ?_⟩⟩
      have hq5 := e5 _ _ (upd_same (H := H3) (a := q) (o := HO.tup [.int (Wt.valW (TL.tl sa)), .int (Wt.valW (TL.tl sb))]))
      by_cases hs : isSh (Wt.valW (TL.tl sa)) (Wt.valW (TL.tl sb)) = true
      · refine itF (by rw [show shB [.int (Wt.valW (TL.tl sa)), .int (Wt.valW (TL.tl sb))] = true from hs]; rfl) ?_
        refine ⟨_, rfl, _, _, _, rfl, ⟨q, rfl, SqT.of hq5⟩, Wt.okW_abs oa, Wt.okW_abs ob, fun H6 e6 => ⟨_, rfl, rfl, _, rfl, ?_⟩⟩
        by_cases hw : Wt.wrL (Wt.valW (TL.tl sa), Wt.valW (TL.tl sb)) = TL.tl t
        · refine itF ?_ ?_
          · rw [decide_eq_true (Wt.vs_iff.mpr (TL.ext_tl (by rw [tl_wrS]; exact hw)))]; rfl
          refine ⟨_, rfl, k _ _ (by rw [erd]; exact Wt.readP_y oa ob hs hw) q _ ((e4.trans e5).trans e6) (e6 _ _ hq5)⟩
        · refine itT ?_ ?_
          · rw [decide_eq_false fun z => hw (by rw [← tl_wrS, Wt.vs_iff.mp z])]; rfl
          exact kE (by rw [erd]; exact Wt.readP_w hw) _ ((e4.trans e5).trans e6)
      · refine itT ?_ ?_
        · rw [show shB [.int (Wt.valW (TL.tl sa)), .int (Wt.valW (TL.tl sb))] = false from Bool.eq_false_iff.mpr hs]; rfl
        exact kE (by rw [erd]; exact Wt.readP_s (Bool.eq_false_iff.mpr hs)) _ (e4.trans e5)
  · refine ⟨_, rfl, _, _, rfl, hty, _, _, rfl, rfl, hi, (by decide), _, rfl, itT ?_ ?_⟩
    · rw [decide_eq_false hn]; rfl
    exact kE H (Ex.refl H)
def sp_l_cell_at (K : PySem.W.Frag) : Sp := fun vs H Q _ => ∃ a ns k, vs = [.ref a, .int k] ∧ SqL K H a (ns.map V.int) ∧ 0 ≤ k ∧ ∀ H', Ex H H' → Q (.int (wCell ns k)) H'
theorem ok_l_cell_at (T : Txt K mg) : FnOk P w K mg base (L2.CX P w) 1 T.f_l_cell_at T.fd_l_cell_at ["_law_script", "_law_k"] (sp_l_cell_at K) := by
  refine T.F_l_cell_at.okN sc_l_cell_at (fun vs H Q E h => ?_) (fun cdv A outer s H vs Q E hr h => ?_)
  · obtain ⟨x, n, k, rfl, _⟩ := h
    rfl
  obtain ⟨a, ns, k, rfl, hs, h0, q⟩ := h
  refine ⟨_, (pss_cons (ps_if (pt_cmpR op_lt (pv 1) (pe_callB call_len (by rfl) T.n_len (by decide +kernel) (pa_cons (pv 0) pa_nil)) (nomark _)) (pss_one (ps_ret (pe_ix ix_list (pv 0) (pv 1) (fun _ _ => rfl)))) pss_nil)
    (pss_one (ps_ret pe_int))), ?_⟩
  refine ⟨_, rfl, _, rfl, _, _, rfl, .inl ⟨_, hs, rfl⟩, _, _, rfl, rfl, _, rfl, ?_⟩
  by_cases hk : k < (ns.length : Int)
  · refine itT (decide_eq_true (by rw [List.length_map]; exact hk)) ?_
    have hn : k.toNat < ns.length := by omega
    refine ⟨_, rfl, _, rfl, a, _, k, _, rfl, rfl, hs, at_of (j := k.toNat) (v := .int (ns.getD k.toNat 0)) (by omega) ?_, ?_⟩
    · rw [List.getElem?_map, List.getElem?_eq_getElem hn, List.getD_eq_getElem?_getD, List.getElem?_eq_getElem hn]
      rfl
    · have z := q H (Ex.refl H)
      unfold wCell at z
      rw [if_pos hk] at z
      exact z
  · refine itF (decide_eq_false (by rw [List.length_map]; exact hk)) ?_
    have z := q H (Ex.refl H)
    unfold wCell at z
    rw [if_neg hk] at z
    exact z
def sp_l_whole (K : PySem.W.Frag) : Sp := fun vs H Q _ => ∃ x n, vs = [x] ∧ TyB K H x n ∧ isTy n = true ∧ ∀ H', Ex H H' → Q (.bl (decide (n = "int"))) H'
theorem ok_l_whole (T : Txt K mg) : FnOk P w K mg base (L2.CX P w) 1 T.f_l_whole T.fd_l_whole ["_law_found"] (sp_l_whole K) := by
  refine T.F_l_whole.okN sc_l_whole (fun vs H Q E h => ?_) (fun cdv A outer s H vs Q E hr h => ?_)
  · obtain ⟨x, n, rfl, _⟩ := h
    rfl
  obtain ⟨x, n, rfl, hty, hi, k⟩ := h
  refine ⟨_, (pss_one (ps_ret (pe_and (pe_callB call_isi (by rfl) T.n_isinstance (by decide +kernel) (pa_cons (pv 0) (pa_cons (pe_bltn (v := .ty "int") (by rfl) T.n_int (by decide +kernel) rfl) pa_nil))) (pe_one (pe_not (pe_callB call_isi (by rfl) T.n_isinstance (by decide +kernel) (pa_cons (pv 0) (pa_cons (pe_bltn (v := .ty "bool") (by rfl) T.n_bool (by decide +kernel) rfl) pa_nil)))))))), ?_⟩
  refine ⟨_, rfl, _, _, _, _, _, rfl, .ty "int", tyx_of_b hty, kit_ty (isI_int hi), ?_⟩
  refine ⟨_, rfl, ?_⟩
  by_cases h1 : n = "int" ∨ n = "bool"
  · refine itT (decide_eq_true h1) ?_
    refine ⟨_, rfl, _, _, _, _, _, rfl, .ty "bool", tyx_of_b hty, kit_ty (isI_bool hi), ?_⟩
    refine ⟨_, rfl, ?_⟩
    have e : (!decide (n = "bool")) = decide (n = "int") := by
      rcases h1 with z | z <;> subst z <;> decide
    rw [e]
    exact k H (Ex.refl H)
  · refine itF (decide_eq_false h1) ?_
    rw [decide_eq_false (fun z => h1 (.inl z))] at k
    exact k H (Ex.refl H)
def sp_l_common : Sp := fun vs H Q _ => ∃ a b, vs = [.int a, .int b] ∧ 0 ≤ a ∧ 0 ≤ b ∧ ∀ H', Ex H H' → Q (.int (gcdI a b)) H'
theorem ok_l_common (T : Txt K mg) : FnOk P w K mg base (L2.CX P w) 1 T.f_l_common T.fd_l_common ["_law_one", "_law_other"] sp_l_common := by
  refine T.F_l_common.okN sc_l_common (fun vs H Q E h => ?_) (fun cdv A outer s H vs Q E hr h => ?_)
  · obtain ⟨a, b, rfl, _⟩ := h
    rfl
  obtain ⟨a, b, rfl, h0, h1, k⟩ := h
  refine ⟨_, (pss_cons (ps_while PassesOwn.never (pt_cmpR op_gt (pv 1) pe_int (nomark _)) (pss_one (ps_par (i := 0) (j := 1) (by rfl) sc_l_common.nd rfl rfl (by decide) rfl rfl (pa_cons (pv 1) (pa_cons (pe_op op_mod (pv 0) (pv 1)) pa_nil)) (by rfl))))
    (pss_one (ps_ret (pv 0)))), ?_⟩
  refine Evl.q_while (fun m σ' H' => ∃ x y, σ' = [some (.int x), some (.int y)] ∧ 0 ≤ x ∧ 0 ≤ y ∧ gcdI x y = gcdI a b ∧ Ex H H' ∧ m = y.toNat) b.toNat ⟨a, b, rfl, h0, h1, rfl, Ex.refl H, rfl⟩ ?_
  rintro m σ' H' ⟨x, y, rfl, hx, hy, e, eH, rfl⟩
  refine ⟨decide (0 < y), Evl.et_test (Evl.ev_op (Evl.ev_var rfl) Evl.ev_c Evl.rv_I0), fun c H1 e1 => ?_, fun c H1 e1 => ?_⟩
  · have c' : 0 < y := of_decide_eq_true c
    refine ⟨_, fun _ _ h => h, ⟨_, rfl, _, rfl, _, rfl, _, _, rfl, rfl, c', _, _, rfl, ?_⟩⟩
    refine ⟨(x % y).toNat, ?_, y, x % y, rfl, hy, Int.emod_nonneg _ (by omega), ?_, eH.trans e1, rfl⟩
    · have := Int.emod_lt_of_pos x c'
      have := Int.emod_nonneg x (show y ≠ 0 by omega)
      omega
    · rw [gcd_step hx c', e]
  · have c' : ¬ 0 < y := of_decide_eq_false c
    have y0 : y = 0 := by omega
    subst y0
    refine ⟨_, rfl, ?_⟩
    have z : x = gcdI a b := by rw [← e, gcd_zero hx]
    rw [z]
    exact k _ (eH.trans e1)
theorem gcdI_abs (a b : Int) : gcdI (if a < 0 then -a else a) b = gcdI a b := by
  unfold gcdI
  have : (if a < 0 then -a else a).natAbs = a.natAbs := by split <;> omega
  rw [this]
theorem shC_pos {a b : Int} (h : 0 < b) : shC a b = gcdI a b := if_neg (by omega)
def sp_l_share : Sp := fun vs H Q _ => ∃ a b, vs = [.int a, .int b] ∧ 0 < b ∧ b.natAbs < 2 ^ 9000 ∧ RetSh a b H Q
theorem ok_l_share (T : Txt K mg) : FnOk P w K mg base (L2.CX P w) 2 T.f_l_share T.fd_l_share ["_law_top", "_law_bottom"] sp_l_share := by
  have G_l_common := ok_l_common (P := P) (w := w) (base := base) T
  refine T.F_l_share.okN sc_l_share (fun vs H Q E h => ?_) (fun cdv A outer s H vs Q E hr h => ?_)
  · obtain ⟨a, b, rfl, _⟩ := h
    rfl
  obtain ⟨a, b, rfl, b0, hb, k⟩ := h
  refine ⟨_, (pss_cons (ps_set (i := 2) sc_l_share.nd rfl (Or.inl rfl) (pe_call G_l_common (hr.mono (by decide)) (by rfl) T.m_l_common T.F_l_common.kp T.b_l_common .nil passL (pa_cons (pe_callB call_abs (by rfl) T.n_abs (by decide +kernel) (pa_cons (pv 0) pa_nil)) (pa_cons (pv 1) pa_nil))))
    (pss_one (ps_ret (pe_tup (pa_cons (pe_op op_fdivG (pv 0) (pv 2)) (pa_cons (pe_op op_fdivG (pv 1) (pv 2)) pa_nil)))))), ?_⟩
  obtain ⟨c0, _, _, _, _, _, cb⟩ := share_ok (top := a) (bottom := b) (by omega)
  have hc : CDivG a (shC a b) := divG_of c0 (Nat.lt_of_le_of_lt cb hb) (by decide) (Nat.le_refl _)
  have hc2 : CDivG b (shC a b) := hc
  refine ⟨_, rfl, _, rfl, _, rfl, _, _, rfl, (by split <;> omega), (by omega), fun H1 e1 => ?_⟩
  rw [gcdI_abs, ← shC_pos b0]
  refine ⟨_, rfl, _, rfl, _, _, rfl, rfl, hc, _, rfl, _, rfl, _, _, rfl, rfl, hc2, (by show 2 ≤ sizeLine; decide), fun p hp => ?_⟩
  exact k p _ (Evl.fresh_back e1 hp) (e1.trans (Ex.new hp)) upd_same
def sp_l_is (K : PySem.W.Frag) : Sp := fun vs H Q _ => ∃ x y p q u v, vs = [x, y] ∧ Sh K H x p q ∧ Sh K H y u v ∧ ∀ H', Ex H H' → Q (.bl (decide (p = u ∧ q = v))) H'
theorem eqv_two (p q u v : Int) : PyData.eqv (.tuple [.int p, .int q]) (.tuple [.int u, .int v]) = decide (p = u ∧ q = v) := by
  show (p == u && (q == v && true)) = _
  rw [Bool.and_true, Bool.beq_eq_decide_eq, Bool.beq_eq_decide_eq, Bool.decide_and]
theorem ok_l_is (T : Txt K mg) : FnOk P w K mg base (L2.CX P w) 2 T.f_l_is T.fd_l_is ["_law_found", "_law_due"] (sp_l_is K) := by
  have G_l_whole := ok_l_whole (P := P) (w := w) (base := base) T
  refine T.F_l_is.okN sc_l_is (fun vs H Q E h => ?_) (fun cdv A outer s H vs Q E hr h => ?_)
  · obtain ⟨_, _, p, q, u, v, rfl, _⟩ := h
    rfl
  obtain ⟨_, _, p, q, u, v, rfl, ⟨x, rfl, hx⟩, ⟨y, rfl, hy⟩, k⟩ := h
  refine ⟨_, (pss_cons (ps_if (PW.pt (pw_or (pt_not (pt_val (pe_callB call_isi (by rfl) T.n_isinstance (by decide +kernel) (pa_cons (pv 0) (pa_cons (pe_bltn (v := .ty "tuple") (by rfl) T.n_tuple (by decide +kernel) rfl) pa_nil))))) (pw_or (pt_cmpR op_ne (pe_callB call_len (by rfl) T.n_len (by decide +kernel) (pa_cons (pv 0) pa_nil)) pe_int (nomark _)) (pw_or (pt_not (pt_val (pe_call G_l_whole (hr.mono (by decide)) (by rfl) T.m_l_whole T.F_l_whole.kp T.b_l_whole .nil passL (pa_cons (pe_ix ix_tup (pv 0) pe_int (fun _ _ => rfl)) pa_nil)))) (pw_or1 (pt_not (pt_val (pe_call G_l_whole (hr.mono (by decide)) (by rfl) T.m_l_whole T.F_l_whole.kp T.b_l_whole .nil passL (pa_cons (pe_ix ix_tup (pv 0) pe_int (fun _ _ => rfl)) pa_nil))))))))) (pss_one (ps_ret pe_bl)) pss_nil)
    (pss_one (ps_ret (pe_cmpR (op_eqD hr.units) (pv 0) (pv 1) (nomark _))))), ?_⟩
  refine ⟨_, rfl, _, _, _, _, _, rfl, .ty "tuple", tyx_tup hx, kit_ty (isI_tuple (by decide)), ?_⟩
  refine ⟨_, rfl, iteF ?_⟩
  refine ⟨_, rfl, _, _, rfl, .inr ⟨_, hx, rfl⟩, rfl, ⟨_, rfl, itF (neF rfl) ?_⟩⟩
  refine ⟨_, rfl, x, _, 0, _, rfl, rfl, hx, rfl, _, _, rfl, .int _, (by decide), fun H1 e1 => ⟨_, rfl, iteF ?_⟩⟩
  refine ⟨_, rfl, x, _, 1, _, rfl, rfl, Evl.ex_t e1 hx, rfl, _, _, rfl, .int _, (by decide), fun H2 e2 => ⟨_, rfl, iteF ?_⟩⟩
  have e12 := e1.trans e2
  refine ⟨_, rfl, _, rfl, .tuple [.int p, .int q], .tuple [.int u, .int v], .tup (Evl.ex_t e12 hx) (.cons (.int _) (.cons (.int _) .nil)), .tup (Evl.ex_t e12 hy) (.cons (.int _) (.cons (.int _) .nil)), rfl, rfl, ?_⟩
  rw [eqv_two]
  exact k H2 e12
def sp_l_number : Sp := fun vs H Q _ => ∃ c, vs = [.int c] ∧ Bits c ∧ ∀ n H', n.natAbs < big → Ex H H' → Q (.int n) H'
theorem ok_l_number (T : Txt K mg) : FnOk P w K mg base (L2.CX P w) 1 T.f_l_number T.fd_l_number ["_law_cell"] sp_l_number := by
  refine T.F_l_number.okN sc_l_number (fun vs H Q E h => ?_) (fun cdv A outer s H vs Q E hr h => ?_)
  · obtain ⟨c, rfl, _⟩ := h
    rfl
  obtain ⟨c, rfl, hc, k⟩ := h
  refine ⟨_, (pss_cons (ps_if (pt_cmpR op_lt (pe_op op_mod (pv 0) pe_int) pe_int (nomark _)) (pss_one (ps_ret (pe_op op_sub (pe_op op_mod (pe_op op_fdiv (pv 0) pe_int) pe_int) pe_int))) pss_nil)
    (pss_cons (ps_if (pt_cmpR op_eq (pe_op op_mod (pv 0) pe_int) pe_int (nomark _)) (pss_one (ps_ret (pe_ix ix_list (pe_lst (pa_cons (pe_op op_sub (pe_op op_pow pe_int pe_int) pe_int) (pa_cons (pe_op op_sub pe_int (pe_op op_pow pe_int pe_int)) (pa_cons (pe_op op_pow pe_int pe_int) (pa_cons pe_int (pa_cons pe_int pa_nil)))))) (pe_op op_mod (pe_op op_fdiv (pv 0) pe_int) pe_int) (fun _ _ => rfl)))) pss_nil)
    (pss_one (ps_ret (pe_op op_sub (pe_op op_mod (pe_op op_mulG (pe_op op_fdiv (pv 0) pe_int) (pe_op op_pow pe_int pe_int)) (pe_op op_sub (pe_op op_mulG pe_int (pe_op op_pow pe_int pe_int)) pe_int)) (pe_op op_sub (pe_op op_pow pe_int pe_int) pe_int)))))), ?_⟩
  refine ⟨_, rfl, _, _, rfl, rfl, (by show (0 : Int) < 5; decide), _, _, rfl, rfl, _, rfl, ?_⟩
  refine itC (fun c1 => ?_) (fun c1 => ?_)
  · refine ⟨_, rfl, _, _, rfl, rfl, ⟨by decide, by decide⟩, _, _, rfl, rfl, (by show (0 : Int) < 61; decide), _, _, rfl, rfl, ?_⟩
    refine k _ _ (big_small ?_) (Ex.refl H)
    have := Int.emod_nonneg (c / 5) (show (61 : Int) ≠ 0 by decide)
    have := Int.emod_lt_of_pos (c / 5) (show (0 : Int) < 61 by decide)
    show (c / 5 % 61 - 30).natAbs ≤ 1000000
    omega
  refine ⟨_, rfl, _, _, rfl, rfl, (by show (0 : Int) < 5; decide), rfl, _, rfl, ?_⟩
  refine itC (fun c2 => ?_) (fun c2 => ?_)
  · refine s_retX (ex_ixL num_five (Evl.ev_op (Evl.ev_op (Evl.ev_var rfl) Evl.ev_c (Evl.rv_I ⟨by decide, by decide⟩)) Evl.ev_c (Evl.rv_I (by show (0 : Int) < 5; decide))) ?_ ?_ num_mono) ?_
    · exact Int.emod_nonneg _ (by decide)
    · exact Int.emod_lt_of_pos _ (by decide)
    · rintro v H1 e1 ⟨n, rfl, hn⟩
      exact k n H1 hn e1
  · refine ⟨_, rfl, _, _, rfl, rfl, ⟨by decide, by decide⟩, _, _, rfl, rfl, cpow _ _ rfl, _, _, rfl, rfl, mulBits hc, _, _, rfl, rfl, cpow _ _ rfl, _, _, rfl, rfl, ?_⟩
    refine ⟨(by unfold CMulG; decide +kernel : CMulG 2 (10 ^ (60 : Int).toNat)), _, _, rfl, rfl, _, _, rfl, rfl, (by decide +kernel : (0 : Int) < 2 * 10 ^ (60 : Int).toNat - 1), _, _, rfl, rfl, cpow _ _ rfl, _, _, rfl, rfl, _, _, rfl, rfl, ?_⟩
    exact k _ _ (num_last _) (Ex.refl H)
structure KitC (T : Txt K mg) (C : Addr) (b1 b2 b3 b4 b5 b6 b7 : Bool) : Prop where
  e : ExcC K C
  k1 : PySem.W.kitOne K (.ref C) (.ref T.c_Nought) = some b1
  k2 : PySem.W.kitOne K (.ref C) (.ref T.c_NoText) = some b2
  k3 : PySem.W.kitOne K (.ref C) (.ref T.c_NoRow) = some b3
  k4 : PySem.W.kitOne K (.ref C) (.ref T.c_NoMachine) = some b4
  k5 : PySem.W.kitOne K (.ref C) (.ref T.c_NoWord) = some b5
  k6 : PySem.W.kitOne K (.ref C) (.ref T.c_OtherSigns) = some b6
  k7 : PySem.W.kitOne K (.ref C) (.ref T.c_TooMany) = some b7
  k8 : PySem.W.kitOne K (.ref C) (.type "ValueError") = some true
def words (b1 b2 b3 b4 b5 b6 b7 : Bool) : List Str := (pickS b1 "nought" ++ pickS b2 "text") ++ pickS b3 "row" ++ pickS b4 "machine" ++ pickS b5 "word" ++ pickS b6 "signs" ++ pickS b7 "many" ++ pickS (!true) "bare"
def sp_l_word_of (b1 b2 b3 b4 b5 b6 b7 : Bool) : Addr → Sp := fun a vs H Q _ => vs = [.ref a] ∧ ∀ p H', H p = none → Ex H H' → H' p = some (.tup [.str "refused", .str (Txt.join "/" (words b1 b2 b3 b4 b5 b6 b7))]) → Q (.ref p) H'
theorem ok_l_word_of (T : Txt K mg) {C : Addr} {b1 b2 b3 b4 b5 b6 b7 : Bool} (kc : KitC T C b1 b2 b3 b4 b5 b6 b7) : FnZ P w K mg base (L2.CX P w) 1 T.f_l_word_of T.fd_l_word_of ["_law_e"] C (sp_l_word_of b1 b2 b3 b4 b5 b6 b7) := by
  have C' := kc.e
  refine T.F_l_word_of.okZ sc_l_word_of (fun a vs H Q E h => ?_) (fun cdv A outer s H vs Q E p hz hr h => ?_)
  · obtain ⟨rfl, _⟩ := h
    rfl
  obtain ⟨rfl, k⟩ := h
  refine ⟨_, (pss_cons (ps_set (i := 1) sc_l_word_of.nd rfl (Or.inl rfl) (pe_op op_cat (pe_op op_rep (pe_lst (pa_cons pe_str pa_nil)) (pe_callTy call_int1 (by rfl) T.n_int (by decide +kernel) (pa_cons (pe_callB (call_isZ (a := p.1) C' ⟨p.2, hz, List.Mem.head _⟩) (by rfl) T.n_isinstance (by decide +kernel) (pa_cons (pv 0) (pa_cons (pe_glob (v := .ref T.c_Nought) (by rfl) T.mc_Nought rfl) pa_nil))) pa_nil))) (pe_op op_rep (pe_lst (pa_cons pe_str pa_nil)) (pe_callTy call_int1 (by rfl) T.n_int (by decide +kernel) (pa_cons (pe_callB (call_isZ (a := p.1) C' ⟨p.2, hz, List.Mem.head _⟩) (by rfl) T.n_isinstance (by decide +kernel) (pa_cons (pv 0) (pa_cons (pe_glob (v := .ref T.c_NoText) (by rfl) T.mc_NoText rfl) pa_nil))) pa_nil)))))
    (pss_cons (ps_set (i := 1) sc_l_word_of.nd rfl (Or.inl rfl) (pe_op op_cat (pe_op op_cat (pv 1) (pe_op op_rep (pe_lst (pa_cons pe_str pa_nil)) (pe_callTy call_int1 (by rfl) T.n_int (by decide +kernel) (pa_cons (pe_callB (call_isZ (a := p.1) C' ⟨p.2, hz, List.Mem.head _⟩) (by rfl) T.n_isinstance (by decide +kernel) (pa_cons (pv 0) (pa_cons (pe_glob (v := .ref T.c_NoRow) (by rfl) T.mc_NoRow rfl) pa_nil))) pa_nil)))) (pe_op op_rep (pe_lst (pa_cons pe_str pa_nil)) (pe_callTy call_int1 (by rfl) T.n_int (by decide +kernel) (pa_cons (pe_callB (call_isZ (a := p.1) C' ⟨p.2, hz, List.Mem.head _⟩) (by rfl) T.n_isinstance (by decide +kernel) (pa_cons (pv 0) (pa_cons (pe_glob (v := .ref T.c_NoMachine) (by rfl) T.mc_NoMachine rfl) pa_nil))) pa_nil)))))
    (pss_cons (ps_set (i := 1) sc_l_word_of.nd rfl (Or.inl rfl) (pe_op op_cat (pe_op op_cat (pv 1) (pe_op op_rep (pe_lst (pa_cons pe_str pa_nil)) (pe_callTy call_int1 (by rfl) T.n_int (by decide +kernel) (pa_cons (pe_callB (call_isZ (a := p.1) C' ⟨p.2, hz, List.Mem.head _⟩) (by rfl) T.n_isinstance (by decide +kernel) (pa_cons (pv 0) (pa_cons (pe_glob (v := .ref T.c_NoWord) (by rfl) T.mc_NoWord rfl) pa_nil))) pa_nil)))) (pe_op op_rep (pe_lst (pa_cons pe_str pa_nil)) (pe_callTy call_int1 (by rfl) T.n_int (by decide +kernel) (pa_cons (pe_callB (call_isZ (a := p.1) C' ⟨p.2, hz, List.Mem.head _⟩) (by rfl) T.n_isinstance (by decide +kernel) (pa_cons (pv 0) (pa_cons (pe_glob (v := .ref T.c_OtherSigns) (by rfl) T.mc_OtherSigns rfl) pa_nil))) pa_nil)))))
    (pss_cons (ps_set (i := 1) sc_l_word_of.nd rfl (Or.inl rfl) (pe_op op_cat (pe_op op_cat (pv 1) (pe_op op_rep (pe_lst (pa_cons pe_str pa_nil)) (pe_callTy call_int1 (by rfl) T.n_int (by decide +kernel) (pa_cons (pe_callB (call_isZ (a := p.1) C' ⟨p.2, hz, List.Mem.head _⟩) (by rfl) T.n_isinstance (by decide +kernel) (pa_cons (pv 0) (pa_cons (pe_glob (v := .ref T.c_TooMany) (by rfl) T.mc_TooMany rfl) pa_nil))) pa_nil)))) (pe_op op_rep (pe_lst (pa_cons pe_str pa_nil)) (pe_callTy call_int1 (by rfl) T.n_int (by decide +kernel) (pa_cons (pe_not (pe_callB (call_isZ (a := p.1) C' ⟨p.2, hz, List.Mem.head _⟩) (by rfl) T.n_isinstance (by decide +kernel) (pa_cons (pv 0) (pa_cons (pe_bltn (v := .ty "ValueError") (by rfl) T.n_ValueError (by decide +kernel) rfl) pa_nil)))) pa_nil)))))
    (pss_one (ps_ret (pe_tup (pa_cons pe_str (pa_cons (pe_join pe_str (pv 1)) pa_nil))))))))), ?_⟩
  have l1 := pickS_len b1 "nought"
  have l2 := pickS_len b2 "text"
  have l3 := pickS_len b3 "row"
  have l4 := pickS_len b4 "machine"
  have l5 := pickS_len b5 "word"
  have l6 := pickS_len b6 "signs"
  have l7 := pickS_len b7 "many"
  have l8 := pickS_len (!true) "bare"
  have r1 : ∀ {c : Addr} u, L2.RelV (.ref c) u → u = .ref c := fun u h => h
  have lp : ∀ b n, (pick b n).length ≤ 1 := pick_len
  have p1 := lp b1 "nought"
  have p2 := lp b2 "text"
  have p3 := lp b3 "row"
  have p4 := lp b4 "machine"
  have p5 := lp b5 "word"
  have p6 := lp b6 "signs"
  have p7 := lp b7 "many"
  have p8 := lp (!true) "bare"
  refine Evl.q_asgL (el_cat (el_pick rfl r1 kc.k1) (el_pick rfl r1 kc.k2) (by omega)) fun a1 H1 n1 e1 h1 => ?_
  refine Evl.q_asgL (el_cat (el_cat1 (Evl.ev_var rfl) h1 (el_pick rfl r1 kc.k3) (by simp only [List.length_append]; omega)) (el_pick rfl r1 kc.k4) (by simp only [List.length_append]; omega)) fun a2 H2 n2 e2 h2 => ?_
  refine Evl.q_asgL (el_cat (el_cat1 (Evl.ev_var rfl) h2 (el_pick rfl r1 kc.k5) (by simp only [List.length_append]; omega)) (el_pick rfl r1 kc.k6) (by simp only [List.length_append]; omega)) fun a3 H3 n3 e3 h3 => ?_
  refine Evl.q_asgL (el_cat (el_cat1 (Evl.ev_var rfl) h3 (el_pick rfl r1 kc.k7) (by simp only [List.length_append]; omega)) (el_pickN rfl (fun u h => h) kc.k8) (by simp only [List.length_append]; omega)) fun a4 H4 n4 e4 h4 => ?_
  have hw : H4 a4 = some (.lst ((words b1 b2 b3 b4 b5 b6 b7).map V.str)) := by
    rw [h4]
    unfold words
    simp only [List.map_append, pick_map, List.append_assoc]
  have hz : ((words b1 b2 b3 b4 b5 b6 b7).map (·.length)).sum + (words b1 b2 b3 b4 b5 b6 b7).length * ("/" : Str).length ≤ 16777216 := by
    cases b1 <;> cases b2 <;> cases b3 <;> cases b4 <;> cases b5 <;> cases b6 <;> cases b7 <;> decide +kernel
  refine Evl.s_retU (Evl.eu_tup (Evl.ea_cons Evl.ev_c (Evl.ea_cons (ev_join Evl.ev_c (Evl.ev_var rfl) hw hz) Evl.ea_nil)) (by simp)) fun p H5 n5 e5 h5 => ?_
  exact k p H5 (Evl.fresh_back (((e1.trans e2).trans e3).trans e4) n5) ((((e1.trans e2).trans e3).trans e4).trans e5) h5

/-! ### the law's own reading -/
def figV (l : Wt.L) : V := if Wt.canon l = true then .int (Wt.valW l) else .non
def sp_l_figures : Sp := fun vs H Q _ => ∃ t, vs = [.str t] ∧ t.length ≤ 1000 ∧ ∀ H', Ex H H' → Q (figV (TL.tl t)) H'
theorem ok_l_figures (T : Txt K mg) : FnOk P w K mg base (L2.CX P w) 1 T.f_l_figures T.fd_l_figures ["_law_word"] sp_l_figures := by
  refine T.F_l_figures.okN sc_l_figures (fun vs H Q E h => ?_) (fun cdv A outer s H vs Q E hr h => ?_)
  · obtain ⟨a, rfl, _⟩ := h
    rfl
  obtain ⟨t, rfl, ht, k⟩ := h
  refine ⟨_, (pss_cons (ps_set (i := 1) sc_l_figures.nd rfl (Or.inl rfl) (pe_ifExp (pt_cmpR op_eq (pe_slice sl_str (pv 0) po_none (po_some pe_int)) pe_str (nomark _)) (pe_slice sl_str (pv 0) (po_some pe_int) po_none) (pv 0)))
    (pss_cons (ps_if (PW.pt (pw_or (pt_cmpR op_eq (pv 1) pe_str (nomark _)) (pw_or (pt_cmpR op_gt (pe_callB call_len (by rfl) T.n_len (by decide +kernel) (pa_cons (pv 1) pa_nil)) pe_int (nomark _)) (pw_or1 (pt_cmpR op_gt (pe_callB call_len (by rfl) T.n_len (by decide +kernel) (pa_cons (pe_lc (own := [("_law_sign", 3)]) (by rfl) sc_l_figures.nd (pi_str (pv 1)) (blkOk_by (own := [("_law_sign", 3)]) (N := N_l_figures) (sc := defScope s_l_figures) (by decide +kernel)) (fun _ _ _ _ _ => pg_name (i := 3) sc_l_figures.nd rfl (Or.inl rfl)) (fun _ _ _ _ _ => pts_one (pt_cmpR op_notIn_sign (pv 3) pe_str (by with_unfolding_all rfl))) (fun _ _ _ _ _ => (pv 3))) pa_nil)) pe_int (nomark _)))))) (pss_one (ps_ret pe_non)) pss_nil)
    (pss_cons (ps_if (PW.pt (pw_and (pt_cmpR op_eq (pe_ix ix_str (pv 1) pe_int (fun _ _ => rfl)) pe_str (nomark _)) (pw_and1 (pt_cmpR op_ne (pv 0) pe_str (nomark _))))) (pss_one (ps_ret pe_non)) pss_nil)
    (pss_cons (ps_set (i := 2) sc_l_figures.nd rfl (Or.inl rfl) pe_int)
    (pss_cons (ps_for PassesOwn.never (by rfl) (pi_str (pv 1)) (pg_name (i := 3) sc_l_figures.nd rfl (Or.inl rfl)) (pss_one (ps_set (i := 2) sc_l_figures.nd rfl (Or.inl rfl) (pe_op op_add (pe_op op_mulG pe_int (pv 2)) (pe_bm PySem.F.plainAttrs_str PySem.F.slot_str_index PySem.F.type_str_index mt_sindex pe_str (pa_cons (pv 3) pa_nil))))))
    (pss_one (ps_ret (pe_ifExp (pt_cmpR op_eq (pe_slice sl_str (pv 0) po_none (po_some pe_int)) pe_str (nomark _)) (pe_op op_sub pe_int (pv 2)) (pv 2))))))))), ?_⟩
  have small : ∀ {n : Nat}, n ≤ 1000 → n ≤ sizeLine := fun h => Nat.le_of_lt (small1000 h)
  have hdash : ∀ {σ : L2.St} {H : Hp}, σ[0]? = some (some (.str t)) → Evl.EvT (tTest (tOp rEq (tSl rSlS (tVar 0) tNoPart (tPart (tC (.int 1)))) (tC (.str "-")))) σ H (decide ((TL.tl t).head? = some 45)) := fun h0 =>
    Evl.et_is (Evl.et_test (Evl.ev_op (ev_slS (Evl.ev_var h0) Evl.eo_none (Evl.eo_some Evl.ev_c) (small ht)) Evl.ev_c (Evl.rv_eq rfl))) (Wt.dash_test t)
  -- the figures
  refine Evl.q_asg (v := .str (Wt.figS t)) (Evl.ev_if (hdash rfl) (fun c => Evl.ev_is (ev_slS (Evl.ev_var rfl) (Evl.eo_some Evl.ev_c) Evl.eo_none (small ht)) (congrArg V.str (Wt.figS_neg (of_decide_eq_true c)).symm)) (fun c => Evl.ev_is (Evl.ev_var rfl) (congrArg V.str (Wt.figS_pos (of_decide_eq_false c)).symm))) fun H1 e1 => ?_
  have hl := Wt.figS_len t
  have et := Wt.tl_figS t
  generalize hfg : Wt.figS t = fg at hl et ⊢
  have lf := TL.len_tl fg
  have sz : fg.cps.size = (TL.tl fg).length := Wt.size_tl fg
  -- no figures, or too many, or other signs
  have test1 : Evl.EvT (tOr (tTest (tOp rEq (tVar 1) (tC (.str "")))) (tOr (tTest (tOp (rI0 fun i j => .bl (decide (j < i))) (tCB (rLenA K) (tCons (tVar 1) tNil)) (tC (.int 60))))
      (tTest (tOp (rI0 fun i j => .bl (decide (j < i))) (tCB (rLenA K) (tCons (tLc (iStr (tVar 1)) (gName 3) (tTest (tOp (fun x y H Q => ∃ (c : Nat) (z : Str), x = .str ⟨#[c]⟩ ∧ y = .str z ∧ Q (.bl (!decide (c ∈ z.cps.toList))) H) (tVar 3) (tC (.str "0123456789")))) (tVar 3) [3]) tNil)) (tC (.int 0))))))
      [some (.str t), some (.str fg), none, none] H1 (!Wt.okW (TL.tl t)) := by
    refine Evl.et_is (Evl.et_or (Evl.et_test (Evl.ev_op (Evl.ev_var rfl) Evl.ev_c (Evl.rv_eq rfl))) fun _ => Evl.et_or (Evl.et_test (Evl.ev_op (ev_lenS (Evl.ev_var rfl) (small (by omega))) Evl.ev_c Evl.rv_I0)) fun _ => Evl.et_test (Evl.ev_op (ev_lenL (el_lcG (Wt.badAt (TL.tl fg)) (fun i => .str ⟨#[(TL.tl fg).getD i 0]⟩) (src_str (Evl.ev_var rfl)) (by omega) ?_)) Evl.ev_c Evl.rv_I0)) ?_
    · rintro i x Ha Hb hi eH ⟨rfl, c, hc, rfl⟩ R hR
      have hc' := Wt.getD_of (Wt.cps_tl hc)
      refine hR _ _ rfl (Ex.refl _) (Evl.et_is (Evl.et_test (fun H2 e2 Q q => ⟨_, rfl, c, _, rfl, rfl, q H2 (Ex.refl H2)⟩)) ?_) (fun _ => Evl.ev_is (Evl.ev_var rfl) (by rw [hc']))
      rw [Wt.not_ten]
      unfold Wt.badAt
      rw [hc']
    · have eg : (Evl.given fg.cps.size (Wt.badAt (TL.tl fg)) fun i => V.str ⟨#[(TL.tl fg).getD i 0]⟩).length = ((List.range (TL.tl fg).length).filter (Wt.badAt (TL.tl fg))).length := by
        unfold Evl.given
        rw [List.length_map, sz]
      rw [eg, Wt.bad_count]
      unfold Wt.okW
      rw [← et]
      have a1 : decide (V.str fg = V.str ("" : Str)) = decide ((TL.tl fg).length < 1) := by
        rw [decide_eq_decide, Wt.vs_iff]
        constructor
        · intro e; rw [e]; decide +kernel
        · intro e; exact TL.ext_tl (by rw [show TL.tl ("" : Str) = [] by decide +kernel]; exact List.length_eq_zero_iff.mp (by omega))
      rw [a1]
      have a2 : decide ((60 : Int) < (fg.length : Nat)) = decide (60 < (TL.tl fg).length) := by
        rw [decide_eq_decide, ← lf]
        omega
      rw [a2]
      by_cases q1 : 1 ≤ (TL.tl fg).length
      · by_cases q2 : (TL.tl fg).length ≤ 60
        · rw [decide_eq_true q1, decide_eq_true q2, decide_eq_false (show ¬ (TL.tl fg).length < 1 by omega), decide_eq_false (show ¬ 60 < (TL.tl fg).length by omega)]
          simp
        · rw [decide_eq_false q2, decide_eq_true (show 60 < (TL.tl fg).length by omega)]
          simp
      · rw [decide_eq_false q1, decide_eq_true (show (TL.tl fg).length < 1 by omega)]
        simp
  refine Evl.q_when test1 (fun c H2 e2 => ?_) (fun c H2 e2 => ?_)
  · have no : Wt.okW (TL.tl t) = false := by simpa using c
    have z := k H2 (e1.trans e2)
    unfold figV at z
    rw [if_neg (fun w => by rw [Wt.okW_canon w] at no; cases no)] at z
    exact z
  have ok : Wt.okW (TL.tl t) = true := by simpa using c
  obtain ⟨o1, o2, o3⟩ := Wt.okW_iff.mp ok
  rw [← et] at o1 o2 o3
  have e12 := e1.trans e2
  obtain ⟨c0, r0, hc0⟩ : ∃ c r, TL.tl fg = c :: r := by
    cases h : TL.tl fg with
    | nil => rw [h] at o1; exact absurd o1 (by decide)
    | cons c r => exact ⟨c, r, rfl⟩
  have canon_iff : Wt.canon (TL.tl t) = !(decide (c0 = 48) && !decide (TL.tl t = [48])) := by
    unfold Wt.canon
    rw [ok, Bool.true_and, ← et, hc0]
    have : decide ((c0 :: r0).head? ≠ some 48) = !decide (c0 = 48) := by
      by_cases q : c0 = 48 <;> simp [q]
    rw [this, Bool.not_and, Bool.not_not]
  refine Evl.q_when (b := decide (c0 = 48) && !decide (TL.tl t = [48])) (Evl.et_and (Evl.et_is (Evl.et_test (Evl.ev_op (Evl.ev_op (Evl.ev_var rfl) Evl.ev_c (Evl.rv_ixS (c := c0) (by omega) (show atI (TL.tl fg) ((0 : Nat) : Int) = some c0 by rw [hc0]; exact atI_nat rfl))) Evl.ev_c (Evl.rv_eq rfl))) ?_) fun _ => Evl.et_is (Evl.et_test (Evl.ev_op (Evl.ev_var rfl) Evl.ev_c (Evl.rv_ne rfl))) ?_) (fun c H3 e3 => ?_) (fun c H3 e3 => ?_)
  · rw [decide_eq_decide, Wt.vs_iff]
    constructor
    · intro e
      have := congrArg TL.tl e
      rw [show TL.tl ("0" : Str) = [48] by decide +kernel] at this
      exact (List.cons.inj this).1
    · intro e
      rw [e]
      decide +kernel
  · congr 1
    rw [decide_eq_decide, Wt.vs_iff]
    constructor
    · intro e; rw [e]; decide +kernel
    · intro e; exact TL.ext_tl (by rw [e]; decide +kernel)
  · have z := k H3 (e12.trans e3)
    unfold figV at z
    rw [if_neg (by rw [canon_iff, c]; decide)] at z
    exact z
  have can : Wt.canon (TL.tl t) = true := by rw [canon_iff, c]; rfl
  have e13 := e12.trans e3
  -- the worth of the figures
  refine Evl.q_asg Evl.ev_c fun H4 e4 => ?_
  refine q_forG (src_str (Evl.ev_var rfl)) (fun i σ' H' => (∃ v, σ' = [some (.str t), some (.str fg), some (.int ((NumText.digitsVal ((TL.tl fg).take i) : Nat) : Int)), v]) ∧ Ex H4 H') (fun H5 e5 => ⟨⟨_, rfl⟩, e5⟩) (fun i σ' H' p => p.2) ?_ ?_
  · rintro i x σ' Ha Hb hi ⟨⟨v, rfl⟩, eH⟩ ⟨rfl, c, hc, rfl⟩ N hN
    have hc' := Wt.cps_tl hc
    have hd := o3 c (List.mem_of_getElem? hc')
    have lt := Wt.dv_lt (u := (TL.tl fg).take i) (fun d hd => o3 d (List.mem_of_mem_take hd))
    have lt2 : NumText.digitsVal ((TL.tl fg).take i) < big := Nat.lt_of_lt_of_le lt (Nat.pow_le_pow_right (by decide) (by rw [List.length_take]; omega))
    refine ⟨_, rfl, _, _, rfl, rfl, mulG_of (a := 4) (b := 200) (by decide) (Nat.lt_of_lt_of_le lt2 big_pow) (by decide) (by decide) (by decide), rfl, _, rfl, _, _, _, _, rfl, rfl, Wt.occ_dig hd, _, _, rfl, rfl, ?_⟩
    refine hN _ _ (Ex.refl _) ⟨⟨some (.str ⟨#[c]⟩), ?_⟩, eH⟩
    rw [Wt.take_dv hc']
    have e : (10 : Int) * ((NumText.digitsVal ((TL.tl fg).take i) : Nat) : Int) + ((c - 48 : Nat) : Int) = ((NumText.digitsVal ((TL.tl fg).take i) * 10 + (c - 48) : Nat) : Int) := by omega
    rw [← e]
    rfl
  · rintro σ' H5 ⟨⟨v, rfl⟩, e5⟩
    have full : (TL.tl fg).take fg.cps.size = TL.tl fg := List.take_of_length_le (by omega)
    rw [full]
    have e15 := (e13.trans e4).trans e5
    have fin : ∀ H6, Ex H5 H6 → Q (.int (Wt.valW (TL.tl t))) H6 := fun H6 e6 => by
      have z := k H6 (e15.trans e6)
      unfold figV at z
      rw [if_pos can] at z
      exact z
    refine Evl.s_ret (Evl.ev_if (hdash rfl) (fun c => Evl.ev_is (Evl.ev_op Evl.ev_c (Evl.ev_var rfl) Evl.rv_I0) ?_) (fun c => Evl.ev_is (Evl.ev_var rfl) ?_)) fin
    · have c' := of_decide_eq_true c
      unfold Wt.valW
      rw [if_pos c', et, Int.zero_sub]
    · have c' := of_decide_eq_false c
      unfold Wt.valW
      rw [if_neg c', et]
/-- what is due of a text -/
def DueV (K : PySem.W.Frag) (o : Option (Int × Int)) (v : V) (H : Hp) : Prop := match o with
  | none => v = .non
  | some (a, b) => Sh K H v a b
theorem dueV_mono {K : PySem.W.Frag} {o : Option (Int × Int)} {v : V} {H H' : Hp} (e : Ex H H') (h : DueV K o v H) : DueV K o v H' := by
  unfold DueV at *
  split at h
  · exact h
  · exact h.mono e
theorem small2 {n : Nat} (h : n ≤ 1000) : n + 2 ≤ sizeLine := Nat.le_trans (show n + 2 ≤ 2000 by omega) (by decide)
def sp_l_read_here (K : PySem.W.Frag) : Sp := fun vs H Q _ =>
  (∃ t, vs = [.str t] ∧ t.length ≤ 1000 ∧ ∀ v H', Ex H H' → DueV K (Wt.rd (TL.tl t)) v H' → Q v H') ∨
  (∃ x n, vs = [x] ∧ TyB K H x n ∧ n ≠ "str" ∧ isTy n = true ∧ ∀ H', Ex H H' → Q .non H')
theorem isI_str {n : String} (h : isTy n = true) : kitB n "str" = some (decide (n = "str")) := by
  refine isTy_cases h (fun n => kitB n "str" = some (decide (n = "str"))) ?_ ?_ ?_ ?_ ?_ ?_ ?_ ?_ ?_ ?_ ?_ ?_ ?_ ?_ ?_ <;> decide +kernel
theorem canon_val {l : Wt.L} (h : Wt.canon l = true) : (Wt.valW l).natAbs < big := Wt.okW_abs (Wt.okW_canon h)
theorem ok_l_read_here (T : Txt K mg) : FnOk P w K mg base (L2.CX P w) 2 T.f_l_read_here T.fd_l_read_here ["_law_text"] (sp_l_read_here K) := by
  have G_l_figures := ok_l_figures (P := P) (w := w) (base := base) T
  have G_l_common := ok_l_common (P := P) (w := w) (base := base) T
  refine T.F_l_read_here.okN sc_l_read_here (fun vs H Q E h => ?_) (fun cdv A outer s H vs Q E hr h => ?_)
  · rcases h with ⟨a, rfl, _⟩ | ⟨a, b, rfl, _⟩ <;> rfl
  refine ⟨_, (pss_cons (ps_if (PW.pt (pw_or (pt_not (pt_val (pe_callB call_isi (by rfl) T.n_isinstance (by decide +kernel) (pa_cons (pv 0) (pa_cons (pe_bltn (v := .ty "str") (by rfl) T.n_str (by decide +kernel) rfl) pa_nil))))) (pw_or1 (pt_cmpR op_gt (pe_bm PySem.F.plainAttrs_str PySem.F.slot_str_count PySem.F.type_str_count mt_count (pv 0) (pa_cons pe_str pa_nil)) pe_int (nomark _))))) (pss_one (ps_ret pe_non)) pss_nil)
    (pss_cons (ps_set (i := 1) sc_l_read_here.nd rfl (Or.inl rfl) (pe_split (pv 0) pe_str))
    (pss_cons (ps_set (i := 2) sc_l_read_here.nd rfl (Or.inl rfl) (pe_call G_l_figures (hr.mono (by decide)) (by rfl) T.m_l_figures T.F_l_figures.kp T.b_l_figures .nil passL (pa_cons (pe_ix ix_list (pv 1) pe_int (fun _ _ => rfl)) pa_nil)))
    (pss_cons (ps_if (PW.pt (pw_or (pt_cmpR op_isN (pv 2) pe_non (nomark _)) (pw_or1 (pt_cmpR op_eq (pe_callB call_len (by rfl) T.n_len (by decide +kernel) (pa_cons (pv 1) pa_nil)) pe_int (nomark _))))) (pss_one (ps_ret (pe_ifExp (pt_cmpR op_isN (pv 2) pe_non (nomark _)) pe_non (pe_tup (pa_cons (pv 2) (pa_cons pe_int pa_nil)))))) pss_nil)
    (pss_cons (ps_set (i := 3) sc_l_read_here.nd rfl (Or.inl rfl) (pe_call G_l_figures (hr.mono (by decide)) (by rfl) T.m_l_figures T.F_l_figures.kp T.b_l_figures .nil passL (pa_cons (pe_ix ix_list (pv 1) pe_int (fun _ _ => rfl)) pa_nil)))
    (pss_cons (ps_if (PW.pt (pw_or (pt_cmpR op_isN (pv 3) pe_non (nomark _)) (pw_or (pt_cmpR op_lt (pv 3) pe_int (nomark _)) (pw_or1 (pt_cmpR op_gt (pe_call G_l_common (hr.mono (by decide)) (by rfl) T.m_l_common T.F_l_common.kp T.b_l_common .nil passL (pa_cons (pe_callB call_abs (by rfl) T.n_abs (by decide +kernel) (pa_cons (pv 2) pa_nil)) (pa_cons (pv 3) pa_nil))) pe_int (nomark _)))))) (pss_one (ps_ret pe_non)) pss_nil)
    (pss_one (ps_ret (pe_tup (pa_cons (pv 2) (pa_cons (pv 3) pa_nil))))))))))), ?_⟩
  rcases h with ⟨t, rfl, ht, k⟩ | ⟨x, n, rfl, hty, hn, hi, k⟩
  · have small : ∀ {n : Nat}, n ≤ 1000 → n ≤ sizeLine := fun h => Nat.le_of_lt (small1000 h)
    refine ⟨_, rfl, _, _, _, _, _, rfl, .ty "str", .base (.str t), kit_ty (isI_str (by decide)), ⟨_, rfl, iteF ?_⟩⟩
    refine ⟨_, rfl, rfl, _, _, rfl, rfl, _, _, rfl, rfl, _, rfl, ?_⟩
    rw [Wt.count_is]
    by_cases c1 : 1 < (TL.tl t).count 47
    · refine itT (decide_eq_true (by omega)) ?_
      refine k _ H (Ex.refl H) ?_
      have h47 : 47 ∈ TL.tl t := List.count_pos_iff.mp (by omega)
      obtain ⟨a, b, et, na, el⟩ := Wt.part_of h47
      have hb : 47 ∈ TL.tl b := by
        rw [el, List.count_append, List.count_cons_self, List.count_eq_zero.mpr na] at c1
        exact List.count_pos_iff.mp (by omega)
      rw [el, Wt.rd_two na, if_pos hb]
      rfl
    refine itF (decide_eq_false (by omega)) ?_
    have words : ∃ ws : List Str, Txt.split t ("/" : Str) = ws ∧ ((∃ h : 47 ∉ TL.tl t, ws = [t] ∧ Wt.rd (TL.tl t) = Wt.readL1 (TL.tl t)) ∨ ∃ a b : Str, ws = [a, b] ∧ a.length ≤ 1000 ∧ b.length ≤ 1000 ∧ Wt.rd (TL.tl t) = Wt.readL2 (TL.tl a) (TL.tl b)) := by
      by_cases h47 : 47 ∈ TL.tl t
      · obtain ⟨a, b, et, na, el⟩ := Wt.part_of h47
        have hb : 47 ∉ TL.tl b := fun z => by
          rw [el, List.count_append, List.count_cons_self] at c1
          have := List.count_pos_iff.mpr z
          omega
        have hlen : a.length ≤ 1000 ∧ b.length ≤ 1000 := by
          have h1 := TL.len_tl t
          rw [el, List.length_append, List.length_cons, ← TL.len_tl, ← TL.len_tl] at h1
          omega
        refine ⟨[a, b], by rw [et]; exact Wt.split_two na hb, .inr ⟨a, b, rfl, hlen.1, hlen.2, ?_⟩⟩
        rw [el, Wt.rd_two na, if_neg hb]
      · exact ⟨[t], Wt.split_one h47, .inl ⟨h47, rfl, Wt.rd_one h47⟩⟩
    obtain ⟨ws, ew, hw⟩ := words
    refine ⟨_, rfl, ⟨_, rfl⟩, _, _, rfl, rfl, (by decide +kernel), small2 ht, fun l hl => ?_⟩
    rw [ew]
    have hws : (upd H l (.lst (ws.map V.str))) l = some (.lst (ws.map V.str)) := upd_same
    have e1 : Ex H (upd H l (.lst (ws.map V.str))) := Ex.new hl
    generalize upd H l (.lst (ws.map V.str)) = H1 at hws e1 ⊢
    rcases hw with ⟨h47, rfl, erd⟩ | ⟨a, b, rfl, la, lb, erd⟩
    · refine ⟨_, rfl, l, _, 0, _, rfl, rfl, SqL.of hws, rfl, t, rfl, ht, fun H2 e2 => ?_⟩
      refine ⟨_, rfl, rfl, _, rfl, ?_⟩
      rw [erd] at k
      unfold Wt.readL1 at k
      unfold figV
      by_cases ca : Wt.canon (TL.tl t) = true
      · rw [if_pos ca] at k ⊢
        refine itF (decide_eq_false fun z => nomatch z) ?_
        refine ⟨_, rfl, _, _, rfl, .inl ⟨_, SqL.of (e2 _ _ hws), rfl⟩, rfl, _, rfl, itT (eqT rfl) ?_⟩
        refine ⟨_, rfl, rfl, _, rfl, itF (decide_eq_false fun z => nomatch z) ?_⟩
        refine ⟨_, rfl, (by show 2 ≤ sizeLine; decide), fun q hq => ?_⟩
        exact k _ _ ((e1.trans e2).trans (Ex.new hq)) ⟨q, rfl, SqT.of upd_same⟩
      · rw [if_neg ca] at k ⊢
        refine itT (decide_eq_true rfl) ?_
        refine itT rfl ?_
        refine ⟨_, rfl, rfl, _, rfl, itT (decide_eq_true rfl) ?_⟩
        exact k _ _ (e1.trans e2) rfl
    · refine ⟨_, rfl, l, _, 0, _, rfl, rfl, SqL.of hws, rfl, a, rfl, la, fun H2 e2 => ?_⟩
      refine ⟨_, rfl, rfl, _, rfl, ?_⟩
      rw [erd] at k
      unfold Wt.readL2 at k
      unfold figV
      have l2 := e2 _ _ hws
      by_cases ca : Wt.canon (TL.tl a) = true
      · rw [if_pos ca]
        refine itF (decide_eq_false fun z => nomatch z) ?_
        refine ⟨_, rfl, _, _, rfl, .inl ⟨_, SqL.of l2, rfl⟩, rfl, _, rfl, itF (eqF (show ((2 : Nat) : Int) ≠ 1 by decide)) ?_⟩
        refine ⟨_, rfl, l, _, 1, _, rfl, rfl, SqL.of l2, rfl, b, rfl, lb, fun H3 e3 => ?_⟩
        refine ⟨_, rfl, rfl, _, rfl, ?_⟩
        have e13 := (e1.trans e2).trans e3
        unfold figV
        by_cases cb : Wt.canon (TL.tl b) = true
        · rw [if_pos cb]
          refine itF (decide_eq_false fun z => nomatch z) ?_
          refine ⟨_, rfl, _, _, rfl, rfl, _, rfl, ?_⟩
          by_cases h2 : Wt.valW (TL.tl b) < 2
          · refine itT (decide_eq_true h2) ?_
            refine itT rfl ?_
            rw [if_neg (by rintro ⟨_, _, z, _⟩; omega)] at k
            exact k _ _ e13 rfl
          refine itF (decide_eq_false h2) ?_
          refine ⟨_, rfl, _, rfl, _, rfl, _, _, rfl, (by split <;> omega), (by omega), fun H4 e4 => ⟨_, _, rfl, rfl, _, rfl, ?_⟩⟩
          rw [gcdI_abs]
          have g0 : 0 < gcdI (Wt.valW (TL.tl a)) (Wt.valW (TL.tl b)) := gcdI_pos (by omega)
          by_cases hg : Nat.gcd (Wt.valW (TL.tl a)).natAbs (Wt.valW (TL.tl b)).natAbs = 1
          · refine itF (decide_eq_false ?_) ?_
            · unfold gcdI
              rw [hg]
              decide
            rw [if_pos ⟨ca, cb, by omega, hg⟩] at k
            refine ⟨_, rfl, _, rfl, (by show 2 ≤ sizeLine; decide), fun q hq => ?_⟩
            exact k _ _ ((e13.trans e4).trans (Ex.new hq)) ⟨q, rfl, SqT.of upd_same⟩
          · refine itT (decide_eq_true ?_) ?_
            · unfold gcdI at *
              omega
            rw [if_neg (by rintro ⟨_, _, _, z⟩; exact hg z)] at k
            exact k _ _ (e13.trans e4) rfl
        · rw [if_neg cb]
          refine itT (decide_eq_true rfl) ?_
          refine itT rfl ?_
          rw [if_neg (by rintro ⟨_, z, _⟩; exact cb z)] at k
          exact k _ _ e13 rfl
      · rw [if_neg ca]
        refine itT (decide_eq_true rfl) ?_
        refine itT rfl ?_
        refine ⟨_, rfl, rfl, _, rfl, itT (decide_eq_true rfl) ?_⟩
        rw [if_neg (by rintro ⟨z, _⟩; exact ca z)] at k
        exact k _ _ (e1.trans e2) rfl
  · refine ⟨_, rfl, _, _, _, _, _, rfl, .ty "str", tyx_of_b hty, kit_ty (isI_str hi), ⟨_, rfl, ?_⟩⟩
    rw [decide_eq_false hn]
    exact k H (Ex.refl H)
def sp_l_told (K : PySem.W.Frag) : Sp := fun vs H Q _ =>
  (∃ t, vs = [.str t] ∧ t.length ≤ 1000 ∧ (Wt.rd (TL.tl t) = none → ∀ p H', Ex H H' → H' p = some (.tup [.str "refused", .str "text"]) → Q (.ref p) H') ∧ RetRd (Wt.rd (TL.tl t)) H Q) ∨
  (∃ x n, vs = [x] ∧ TyB K H x n ∧ n ≠ "str" ∧ isTy n = true ∧ ∀ p H', Ex H H' → H' p = some (.tup [.str "refused", .str "text"]) → Q (.ref p) H')
theorem ok_l_told (T : Txt K mg) (kc : KitC T T.c_NoText false true false false false false false) (eP : PySem.W.exmOne K (.ref T.c_NoText) (.ref T.c_WeighError) = some true) : FnOk P w K mg base (L2.CX P w) 5 T.f_l_told T.fd_l_told ["_law_text"] (sp_l_told K) := by
  have G_read := ok_read (P := P) (w := w) (base := base) T
  have Z_l_word_of := ok_l_word_of (P := P) (w := w) (base := base) T kc
  refine T.F_l_told.okN sc_l_told (fun vs H Q E h => ?_) (fun cdv A outer s H vs Q E hr h => ?_)
  · rcases h with ⟨a, rfl, _⟩ | ⟨a, b, rfl, _⟩ <;> rfl
  refine ⟨_, (pss_one (ps_try_as (i := 1) rfl rfl sc_l_told.nd rfl rfl ⟨rfl, by decide, .inl T.mc_WeighError⟩ takes0 (fun W pn xe tk _ => (pss_one (ps_ret (pe_callS G_read (hr.mono (by decide)) (by rfl) T.m_read T.F_read.kp T.b_read (fun σ => passAt tk σ) (pa_cons (pv 0) pa_nil))))) (fun a oe cls dd pn hz0 hf => (pss_one (ps_ret (pe_callZs hz0 hf Z_l_word_of (hr.mono (by decide)) (by rfl) T.m_l_word_of T.F_l_word_of.kp T.b_l_word_of (pa_cons (pv 1) pa_nil))))))), ?_⟩
  have wd : Txt.join "/" (words false true false false false false false) = ("text" : Str) := by decide +kernel
  rcases h with ⟨t, rfl, ht, k0, k⟩ | ⟨x, n, rfl, hty, hn, hi, k⟩
  · refine ⟨_, rfl, .inl ⟨t, rfl, ht, fun no H1 e1 => ?_, k⟩⟩
    refine ⟨true, eP, fun _ x nx => ?_, fun z => nomatch z⟩
    refine ⟨rfl, rfl, _, rfl, rfl, fun p H' np e hp => ?_⟩
    exact k0 no p H' (e1.trans e) (by rw [hp, wd])
  · refine ⟨_, rfl, .inr ⟨x, n, rfl, hty, hn, hi, fun H1 e1 => ?_⟩⟩
    refine ⟨true, eP, fun _ x nx => ?_, fun z => nomatch z⟩
    refine ⟨rfl, rfl, _, rfl, rfl, fun p H' np e hp => ?_⟩
    exact k p H' (e1.trans e) (by rw [hp, wd])
def sp_l_changed : Sp := fun vs H Q _ => ∃ t c, vs = [.str t, .int c] ∧ t.length ≤ 400 ∧ ∀ z H', z.length ≤ 1000 → Ex H H' → Q (.str z) H'
theorem ok_l_changed (T : Txt K mg) : FnOk P w K mg base (L2.CX P w) 1 T.f_l_changed T.fd_l_changed ["_law_text", "_law_cell"] sp_l_changed := by
  refine T.F_l_changed.okN sc_l_changed (fun vs H Q E h => ?_) (fun cdv A outer s H vs Q E hr h => ?_)
  · obtain ⟨a, b, rfl, _⟩ := h
    rfl
  obtain ⟨t, c, rfl, ht, k⟩ := h
  refine ⟨_, (pss_cons (ps_set (i := 2) sc_l_changed.nd rfl (Or.inl rfl) pe_str)
    (pss_cons (ps_set (i := 2) sc_l_changed.nd rfl (Or.inl rfl) (pe_op op_add_str (pe_op op_add_str (pv 2) pe_str) (pe_op op_mulS pe_str pe_int)))
    (pss_cons (ps_set (i := 3) sc_l_changed.nd rfl (Or.inl rfl) (pe_op op_mod (pe_op op_fdiv (pv 1) pe_int) (pe_op op_add (pe_callB call_len (by rfl) T.n_len (by decide +kernel) (pa_cons (pv 0) pa_nil)) pe_int)))
    (pss_cons (ps_set (i := 4) sc_l_changed.nd rfl (Or.inl rfl) (pe_ix ix_str (pv 2) (pe_op op_mod (pe_op op_fdiv (pv 1) pe_int) (pe_callB call_len (by rfl) T.n_len (by decide +kernel) (pa_cons (pv 2) pa_nil))) (fun _ _ => rfl)))
    (pss_cons (ps_if (pt_cmpR op_eq (pe_op op_mod (pv 1) pe_int) pe_int (nomark _)) (pss_one (ps_ret (pe_op op_add_str (pe_op op_add_str (pe_slice sl_str (pv 0) po_none (po_some (pv 3))) (pv 4)) (pe_slice sl_str (pv 0) (po_some (pv 3)) po_none)))) pss_nil)
    (pss_cons (ps_if (pt_cmpR op_eq (pe_op op_mod (pv 1) pe_int) pe_int (nomark _)) (pss_one (ps_ret (pe_op op_add_str (pe_slice sl_str (pv 0) po_none (po_some (pv 3))) (pe_slice sl_str (pv 0) (po_some (pe_op op_add (pv 3) pe_int)) po_none)))) pss_nil)
    (pss_one (ps_ret (pe_op op_add_str (pe_op op_add_str (pe_slice sl_str (pv 0) po_none (po_some (pv 3))) (pv 4)) (pe_slice sl_str (pv 0) (po_some (pe_op op_add (pv 3) pe_int)) po_none)))))))))), ?_⟩
  have small : ∀ {n : Nat}, n ≤ 3000 → n ≤ sizeLine := fun h => Nat.le_trans h (by decide)
  have e1 : (Wt.someA).length + (("\t\n" : Str)).length ≤ sizeLine := by decide +kernel
  have e2 : (Wt.someA ++ (("\t\n" : Str))).length + (Txt.mul ("0123456789/-+_" : Str) 5).length ≤ sizeLine := by decide +kernel
  refine ⟨_, rfl, _, _, rfl, rfl, e1, _, _, rfl, rfl, Wt.mul5, _, _, rfl, rfl, e2, ?_⟩
  show tSeq _ _ _ [some (.str t), some (.int c), some (.str Wt.someS), none, none] H
  generalize hS : Wt.someS = S
  have sp : 0 < S.length := by rw [← hS]; exact Wt.someS_pos
  have sl : S.length ≤ 1000 := by rw [← hS]; exact Wt.someS_le
  refine ⟨_, rfl, _, _, rfl, rfl, ⟨by decide, by decide⟩, _, rfl, _, t.length, rfl, ⟨small (by omega), rfl⟩, _, _, rfl, rfl, _, _, rfl, rfl, (by omega), ?_⟩
  have hi0 := Int.emod_nonneg (c / 7) (show ((S.length : Nat) : Int) ≠ 0 by omega)
  have hi1 := Int.emod_lt_of_pos (c / 7) (show (0 : Int) < ((S.length : Nat) : Int) by omega)
  have hat : ∀ h : (c / 7 % ((S.length : Nat) : Int)).toNat < S.cps.toList.length, atI S.cps.toList (c / 7 % ((S.length : Nat) : Int)) = some S.cps.toList[(c / 7 % ((S.length : Nat) : Int)).toNat] := fun h => by
    have e : c / 7 % ((S.length : Nat) : Int) = (((c / 7 % ((S.length : Nat) : Int)).toNat : Nat) : Int) := by omega
    have z := atI_nat (xs := S.cps.toList) (List.getElem?_eq_getElem h)
    rw [← e] at z
    exact z
  have hlt : (c / 7 % ((S.length : Nat) : Int)).toNat < S.cps.toList.length := by rw [Array.length_toList]; show _ < S.length; omega
  refine ⟨_, rfl, _, rfl, _, _, rfl, rfl, ⟨by decide, by decide⟩, _, rfl, _, S.length, rfl, ⟨small (by omega), rfl⟩, _, _, rfl, rfl, (by omega), _, _, S.cps.toList[(c / 7 % ((S.length : Nat) : Int)).toNat], rfl, rfl, small (by omega), ?_, ?_⟩
  · exact hat hlt
  generalize S.cps.toList[(c / 7 % ((S.length : Nat) : Int)).toNat] = sg
  have sgl : (⟨#[sg]⟩ : Str).length = 1 := rfl
  have cl : ∀ lo hi, (cutS t lo hi).length ≤ t.length := fun lo hi => cutS_length t lo hi
  have fin3 : ∀ (a b : Str) (H1 : Hp), a.length ≤ t.length → b.length ≤ t.length → Ex H H1 → Q (.str (a ++ (⟨#[sg]⟩ : Str) ++ b)) H1 := fun a b H1 h1 h2 e => k _ _ (by rw [Wt.len_app, Wt.len_app, sgl]; omega) e
  refine ⟨_, rfl, _, _, rfl, rfl, (by show (0 : Int) < 3; decide), rfl, _, rfl, itC (fun c1 => ?_) (fun c1 => ?_)⟩
  · refine ⟨_, rfl, _, rfl, _, rfl, _, rfl, small (by omega), _, rfl, _, _, rfl, rfl, ?_, _, rfl, _, rfl, _, rfl, _, rfl, small (by omega), _, _, rfl, rfl, ?_, fin3 _ _ _ (cl _ _) (cl _ _) (Ex.refl _)⟩
    · rw [sgl]
      exact small (Nat.le_trans (Nat.add_le_add_right (cl _ _) 1) (by omega))
    · rw [Wt.len_app, sgl]
      exact small (Nat.le_trans (Nat.add_le_add (Nat.add_le_add_right (cl _ _) 1) (cl _ _)) (by omega))
  refine ⟨_, rfl, _, _, rfl, rfl, (by show (0 : Int) < 3; decide), rfl, _, rfl, itC (fun c2 => ?_) (fun c2 => ?_)⟩
  · refine ⟨_, rfl, _, rfl, _, rfl, _, rfl, small (by omega), _, rfl, _, rfl, _, _, rfl, rfl, _, rfl, _, rfl, small (by omega), _, _, rfl, rfl, ?_, ?_⟩
    · exact small (Nat.le_trans (Nat.add_le_add (cl _ _) (cl _ _)) (by omega))
    · exact k _ _ (by rw [Wt.len_app]; exact Nat.le_trans (Nat.add_le_add (cl _ _) (cl _ _)) (by omega)) (Ex.refl _)
  · refine ⟨_, rfl, _, rfl, _, rfl, _, rfl, small (by omega), _, rfl, _, _, rfl, rfl, ?_, _, rfl, _, rfl, _, _, rfl, rfl, _, rfl, _, rfl, small (by omega), _, _, rfl, rfl, ?_, fin3 _ _ _ (cl _ _) (cl _ _) (Ex.refl _)⟩
    · rw [sgl]
      exact small (Nat.le_trans (Nat.add_le_add_right (cl _ _) 1) (by omega))
    · rw [Wt.len_app, sgl]
      exact small (Nat.le_trans (Nat.add_le_add (Nat.add_le_add_right (cl _ _) 1) (cl _ _)) (by omega))
def OddV (K : PySem.W.Frag) (v : V) (H : Hp) : Prop := (∃ t, v = .str t ∧ t.length ≤ 1000) ∨ ∃ n, TyB K H v n ∧ n ≠ "str" ∧ isTy n = true
theorem odd_mono : Mono (OddV K) := fun v H H' e h => by
  rcases h with h | ⟨n, h1, h2⟩
  · exact .inl h
  · exact .inr ⟨n, tyb_mono e h1, h2⟩
theorem rv_mulS {z : Str} {n : Int} {H : Hp} (h : MulOk z n) : Evl.RV rMulS (.str z) (.int n) H (.str (Txt.mul z n)) := fun H1 _ Q q => ⟨z, n, rfl, rfl, h, q H1 (Ex.refl H1)⟩
def rAddT : R2 := fun x y H Q => ∃ i j, x = .str i ∧ y = .str j ∧ i.length + j.length ≤ sizeLine ∧ Q (.str (i ++ j)) H
theorem rv_addS {a b : Str} {H : Hp} (h : a.length + b.length ≤ sizeLine) : Evl.RV rAddT (.str a) (.str b) H (.str (a ++ b)) := fun H1 _ Q q => ⟨a, b, rfl, rfl, h, q H1 (Ex.refl H1)⟩
def sp_l_odd (K : PySem.W.Frag) : Sp := fun vs H Q _ => ∃ c, vs = [.int c] ∧ ∀ v H', OddV K v H' → Ex H H' → Q v H'
theorem ok_l_odd (T : Txt K mg) : FnOk P w K mg base (L2.CX P w) 1 T.f_l_odd T.fd_l_odd ["_law_cell"] (sp_l_odd K) := by
  refine T.F_l_odd.okN sc_l_odd (fun vs H Q E h => ?_) (fun cdv A outer s H vs Q E hr h => ?_)
  · obtain ⟨a, rfl, _⟩ := h
    rfl
  obtain ⟨c, rfl, k⟩ := h
  refine ⟨_, (pss_cons (ps_set (i := 1) sc_l_odd.nd rfl (Or.inl rfl) (pe_lst (pa_cons pe_str (pa_cons pe_str (pa_cons pe_str (pa_cons pe_str (pa_cons pe_str (pa_cons pe_str (pa_cons pe_str (pa_cons pe_str (pa_cons pe_non (pa_cons pe_int (pa_cons (pe_tup (pa_cons pe_int (pa_cons pe_int pa_nil))) (pa_cons (pe_lst (pa_cons pe_str pa_nil)) (pa_cons (pe_op op_mulS pe_str pe_int) (pa_cons (pe_op op_add_str pe_str (pe_op op_mulS pe_str pe_int)) pa_nil))))))))))))))))
    (pss_cons (ps_set (i := 1) sc_l_odd.nd rfl (Or.inl rfl) (pe_op op_cat (pv 1) (pe_lst (pa_cons pe_str (pa_cons pe_str (pa_cons pe_str (pa_cons pe_str (pa_cons pe_str (pa_cons pe_str (pa_cons pe_str (pa_cons pe_str (pa_cons pe_str (pa_cons pe_str pa_nil)))))))))))))
    (pss_one (ps_ret (pe_ix ix_list (pv 1) (pe_op op_mod (pv 0) pe_int) (fun _ _ => rfl)))))), ?_⟩
  have oM := odd_mono (K := K)
  have st : ∀ {v : V} {t : Str} {σ : L2.St} {H : Hp}, v = .str t → t.length ≤ 1000 → EvX (tC v) σ H (OddV K) := fun h1 h2 => ex_of Evl.ev_c fun _ _ => .inl ⟨_, h1, h2⟩
  refine q_asgX (P := IsL 14 (OddV K)) (ex_lstL (n := 14) (eas_cons oM (st rfl (by decide +kernel)) (eas_cons oM (st rfl (by decide +kernel)) (eas_cons oM (st rfl (by decide +kernel)) (eas_cons oM (st rfl (by decide +kernel)) (eas_cons oM (st rfl (by decide +kernel)) (eas_cons oM (st rfl (by decide +kernel)) (eas_cons oM (st rfl (by decide +kernel)) (eas_cons oM (st rfl (by decide +kernel)) (eas_cons oM (ex_of Evl.ev_c fun _ _ => .inr ⟨_, .non, by decide, by decide⟩) (eas_cons oM (ex_of Evl.ev_c fun _ _ => .inr ⟨_, .int _, by decide, by decide⟩) (eas_cons oM (ex_ofU (Evl.eu_tup (Evl.ea_cons Evl.ev_c (Evl.ea_cons Evl.ev_c Evl.ea_nil)) (by simp)) fun a H1 _ h1 => .inr ⟨_, .tup (SqT.of h1), by decide, by decide⟩) (eas_cons oM (ex_ofL (Evl.el_lst (Evl.ea_cons Evl.ev_c Evl.ea_nil) (by simp)) fun a H1 _ h1 => .inr ⟨_, .lst (SqL.of h1), by decide, by decide⟩) (eas_cons oM (ex_of (Evl.ev_op Evl.ev_c Evl.ev_c (rv_mulS Wt.mul61)) fun _ _ => .inl ⟨_, rfl, by decide +kernel⟩) (eas_cons oM (ex_of (Evl.ev_op Evl.ev_c (Evl.ev_op Evl.ev_c Evl.ev_c (rv_mulS Wt.mul61')) (rv_addS (by decide +kernel))) fun _ _ => .inl ⟨_, rfl, by decide +kernel⟩) eas_nil)))))))))))))) (by decide) oM) fun v1 H1 e1 p1 => ?_
  refine q_asgX (P := IsL 24 (OddV K)) (ex_catL (n := 14) (k := 10) (ex_of (Evl.ev_var rfl) fun H' e => isL_mono oM _ _ _ e p1) (ex_lstL (n := 10) (eas_cons oM (st rfl (by decide +kernel)) (eas_cons oM (st rfl (by decide +kernel)) (eas_cons oM (st rfl (by decide +kernel)) (eas_cons oM (st rfl (by decide +kernel)) (eas_cons oM (st rfl (by decide +kernel)) (eas_cons oM (st rfl (by decide +kernel)) (eas_cons oM (st rfl (by decide +kernel)) (eas_cons oM (st rfl (by decide +kernel)) (eas_cons oM (st rfl (by decide +kernel)) (eas_cons oM (st rfl (by decide +kernel)) eas_nil)))))))))) (by decide) oM) (by decide) oM) fun v2 H2 e2 p2 => ?_
  refine s_retX (ex_ixL (n := 24) (ex_of (Evl.ev_var rfl) fun H' e => isL_mono oM _ _ _ e p2) (Evl.ev_op (Evl.ev_var rfl) Evl.ev_c (Evl.rv_I (by show (0 : Int) < 24; decide))) (Int.emod_nonneg _ (by decide)) (Int.emod_lt_of_pos _ (by decide)) oM) fun v H3 e3 p3 => ?_
  exact k v H3 p3 ((e1.trans e2).trans e3)
def sp_law (K : PySem.W.Frag) : Sp := fun vs H Q _ => ∃ (a : Addr) (ns : List Int), vs = [.ref a] ∧ SqL K H a (ns.map V.int) ∧ (∀ z ∈ ns, Bits z) ∧ ∀ H', Q (.bl true) H'
theorem ok_law (T : Txt K mg) (kc : KitC T T.c_NoText false true false false false false false) (eP : PySem.W.exmOne K (.ref T.c_NoText) (.ref T.c_WeighError) = some true) : FnOk P w K mg base (L2.CX P w) 6 T.f_law T.fd_law ["_law_script"] (sp_law K) := by
  have G_l_cell_at := ok_l_cell_at (P := P) (w := w) (base := base) T
  have G_l_number := ok_l_number (P := P) (w := w) (base := base) T
  have G_l_share := ok_l_share (P := P) (w := w) (base := base) T
  have G_l_is := ok_l_is (P := P) (w := w) (base := base) T
  have G_written := ok_written (P := P) (w := w) (base := base) T
  have G_read := ok_read (P := P) (w := w) (base := base) T
  have G_l_told := ok_l_told (P := P) (w := w) (base := base) T kc eP
  have G_l_changed := ok_l_changed (P := P) (w := w) (base := base) T
  have G_l_odd := ok_l_odd (P := P) (w := w) (base := base) T
  have G_l_read_here := ok_l_read_here (P := P) (w := w) (base := base) T
  refine T.F_law.okN sc_law (fun vs H Q E h => ?_) (fun cdv A outer s H vs Q E hr h => ?_)
  · obtain ⟨a, ns, rfl, _⟩ := h
    rfl
  obtain ⟨a, ns, rfl, hs, hbits, k⟩ := h
  have hr : Room (6 - 1) _ := hr
  refine ⟨_, (pss_cons (ps_set (i := 1) sc_law.nd rfl (Or.inl rfl) (pe_call G_l_number (hr.mono (by decide)) (by rfl) T.m_l_number T.F_l_number.kp T.b_l_number .nil passL (pa_cons (pe_call G_l_cell_at (hr.mono (by decide)) (by rfl) T.m_l_cell_at T.F_l_cell_at.kp T.b_l_cell_at .nil passL (pa_cons (pv 0) (pa_cons pe_int pa_nil))) pa_nil)))
    (pss_cons (ps_set (i := 2) sc_law.nd rfl (Or.inl rfl) (pe_call G_l_share (hr.mono (by decide)) (by rfl) T.m_l_share T.F_l_share.kp T.b_l_share .nil passL (pa_cons (pv 1) (pa_cons (pe_callB (call_max2 rfl) (by rfl) T.n_max (by decide +kernel) (pa_cons pe_int (pa_cons (pe_callB call_abs (by rfl) T.n_abs (by decide +kernel) (pa_cons (pe_call G_l_number (hr.mono (by decide)) (by rfl) T.m_l_number T.F_l_number.kp T.b_l_number .nil passL (pa_cons (pe_call G_l_cell_at (hr.mono (by decide)) (by rfl) T.m_l_cell_at T.F_l_cell_at.kp T.b_l_cell_at .nil passL (pa_cons (pv 0) (pa_cons pe_int pa_nil))) pa_nil)) pa_nil)) pa_nil))) pa_nil))))
    (pss_cons (ps_set (i := 3) sc_law.nd rfl (Or.inl rfl) (pe_callTy call_str_int (by rfl) T.n_str (by decide +kernel) (pa_cons (pe_ix ix_tup (pv 2) pe_int (fun _ _ => rfl)) pa_nil)))
    (Evl.pss_cut (ps_if (pt_cmpR op_gt (pe_ix ix_tup (pv 2) pe_int (fun _ _ => rfl)) pe_int (nomark _)) (pss_one (ps_set (i := 3) sc_law.nd rfl (Or.inl rfl) (pe_op op_add_str (pe_op op_add_str (pv 3) pe_str) (pe_callTy call_str_int (by rfl) T.n_str (by decide +kernel) (pa_cons (pe_ix ix_tup (pv 2) pe_int (fun _ _ => rfl)) pa_nil))))) pss_nil)
    (pss_cons (ps_set (i := 4) sc_law.nd rfl (Or.inl rfl) (pe_call G_written (hr.mono (by decide)) (by rfl) T.m_written T.F_written.kp T.b_written .nil passL (pa_cons (pv 2) pa_nil)))
    (pss_cons (ps_if (PW.pt (pw_or (pt_not (pt_val (pe_callB call_isi (by rfl) T.n_isinstance (by decide +kernel) (pa_cons (pv 4) (pa_cons (pe_bltn (v := .ty "str") (by rfl) T.n_str (by decide +kernel) rfl) pa_nil))))) (pw_or (pt_cmpR op_ne (pv 4) (pv 3) (nomark _)) (pw_or1 (pt_not (pt_val (pe_call G_l_is (hr.mono (by decide)) (by rfl) T.m_l_is T.F_l_is.kp T.b_l_is .nil passL (pa_cons (pe_call G_read (hr.mono (by decide)) (by rfl) T.m_read T.F_read.kp T.b_read .nil passL (pa_cons (pv 3) pa_nil)) (pa_cons (pv 2) pa_nil))))))))) (pss_one (ps_ret pe_bl)) pss_nil)
    (pss_cons (ps_set (i := 5) sc_law.nd rfl (Or.inl rfl) (pe_call G_l_cell_at (hr.mono (by decide)) (by rfl) T.m_l_cell_at T.F_l_cell_at.kp T.b_l_cell_at .nil passL (pa_cons (pv 0) (pa_cons pe_int pa_nil))))
    (pss_cons (ps_for PassesOwn.never (by rfl) (pi_list (pe_lst (pa_cons (pe_call G_l_changed (hr.mono (by decide)) (by rfl) T.m_l_changed T.F_l_changed.kp T.b_l_changed .nil passL (pa_cons (pv 3) (pa_cons (pv 5) pa_nil))) (pa_cons (pe_call G_l_odd (hr.mono (by decide)) (by rfl) T.m_l_odd T.F_l_odd.kp T.b_l_odd .nil passL (pa_cons (pv 5) pa_nil)) (pa_cons (pv 3) pa_nil))))) (pg_name (i := 6) sc_law.nd rfl (Or.inl rfl)) (pss_cons (ps_set (i := 7) sc_law.nd rfl (Or.inl rfl) (pe_call G_l_read_here (hr.mono (by decide)) (by rfl) T.m_l_read_here T.F_l_read_here.kp T.b_l_read_here .nil passL (pa_cons (pv 6) pa_nil)))
    (pss_cons (ps_set (i := 8) sc_law.nd rfl (Or.inl rfl) (pe_call G_l_told (hr.mono (by decide)) (by rfl) T.m_l_told T.F_l_told.kp T.b_l_told .nil passL (pa_cons (pv 6) pa_nil)))
    (pss_one (ps_if (PW.pt (pw_or (PW.pt (pw_and (pt_cmpR op_isN (pv 7) pe_non (nomark _)) (pw_and1 (pt_cmpR (op_neD hr.units) (pv 8) (pe_tup (pa_cons pe_str (pa_cons pe_str pa_nil))) (nomark _))))) (pw_or1 (PW.pt (pw_and (pt_cmpR op_notN (pv 7) pe_non (nomark _)) (pw_and1 (pt_not (pt_val (pe_call G_l_is (hr.mono (by decide)) (by rfl) T.m_l_is T.F_l_is.kp T.b_l_is .nil passL (pa_cons (pv 8) (pa_cons (pv 7) pa_nil))))))))))) (pss_one (ps_ret pe_bl)) pss_nil)))))
    (pss_one (ps_ret pe_bl)))))))))), ?_⟩
  have cb : ∀ i, Bits (wCell ns i) := wCell_bits hbits
  have two9 : ∀ {n : Int}, n.natAbs < big → n.natAbs < 2 ^ 9000 := fun h => Nat.lt_of_lt_of_le h (Nat.le_trans big_pow (Nat.pow_le_pow_right (by decide) (by decide)))
  have small : ∀ {n : Nat}, n ≤ 3000 → n ≤ sizeLine := fun h => Nat.le_trans h (by decide)
  have mx : ∀ {y : Int}, y.natAbs < big → 0 < (if (if y < 0 then -y else y) > 1 then (if y < 0 then -y else y) else 1) ∧ (if (if y < 0 then -y else y) > 1 then (if y < 0 then -y else y) else 1).natAbs < big := fun {y} h => by
    have hb : 1 < big := by decide +kernel
    split <;> (constructor <;> (split at * <;> omega))
  refine ⟨_, rfl, a, ns, 0, rfl, hs, by decide, fun H1 e1 => ⟨_, rfl, cb 0, fun x H2 hx e2 => ?_⟩⟩
  refine ⟨_, rfl, _, rfl, a, ns, 1, rfl, Evl.ex_l (e1.trans e2) hs, by decide, fun H3 e3 => ⟨_, rfl, cb 1, fun y H4 hy e4 => ?_⟩⟩
  refine ⟨_, rfl, _, _, rfl, _, _, rfl, (mx hy).1, two9 (mx hy).2, fun p H5 n5 e5 hp => ?_⟩
  have gd : 0 < shBt x (if (if y < 0 then -y else y) > 1 then (if y < 0 then -y else y) else 1) ∧ (shT x (if (if y < 0 then -y else y) > 1 then (if y < 0 then -y else y) else 1)).natAbs < big ∧ (shBt x (if (if y < 0 then -y else y) > 1 then (if y < 0 then -y else y) else 1)).natAbs < big ∧ isSh (shT x (if (if y < 0 then -y else y) > 1 then (if y < 0 then -y else y) else 1)) (shBt x (if (if y < 0 then -y else y) > 1 then (if y < 0 then -y else y) else 1)) = true := by
    have m := mx hy
    obtain ⟨_, bp, _, _, lt, lb, _⟩ := share_ok (top := x) (bottom := (if (if y < 0 then -y else y) > 1 then (if y < 0 then -y else y) else 1)) (by omega)
    exact ⟨bp, by omega, by omega, isSh_share (by omega)⟩
  obtain ⟨g1, g2, g3, g4⟩ := gd
  generalize hA : shT x _ = A at hp g2 g4
  generalize hB : shBt x _ = B at hp g1 g3 g4
  have e15 := (((e1.trans e2).trans e3).trans e4).trans e5
  -- the text
  have hlen := len_wrS g2 g3
  refine ⟨_, rfl, p, _, 0, _, rfl, rfl, SqT.of hp, rfl, _, rfl, Wt.log_big g2, ?_⟩
  refine Evl.q_cut (M := fun σ' H' => σ' = [some (.ref a), some (.int x), some (.ref p), some (.str (wrS A B)), none, none, none, none, none] ∧ H' = H5) ?_ ?_
  · refine ⟨_, rfl, p, _, 1, _, rfl, rfl, SqT.of hp, rfl, _, _, rfl, rfl, _, rfl, ?_⟩
    by_cases b1 : B = 1
    · refine itF (decide_eq_false (by omega)) ?_
      refine ⟨?_, rfl⟩
      unfold wrS
      rw [if_pos b1]
      rfl
    · refine itT (decide_eq_true (by omega)) ?_
      have h1 := len_S g2
      have h2 := len_S g3
      have e : ("/" : Str).length = 1 := by decide +kernel
      refine ⟨_, rfl, _, _, rfl, rfl, ?_, _, rfl, p, _, 1, _, rfl, rfl, SqT.of hp, rfl, _, rfl, Wt.log_big g3, _, _, rfl, rfl, ?_, ?_, rfl⟩
      · rw [e]
        exact small (show (S A).length + 1 ≤ 3000 by omega)
      · rw [Wt.len_app, e]
        exact small (show (S A).length + 1 + (S B).length ≤ 3000 by omega)
      · unfold wrS
        rw [if_neg b1]
        rfl
  rintro σ' H' ⟨rfl, rfl⟩
  have rdT : Wt.rd (TL.tl (wrS A B)) = some (A, B) := by rw [tl_wrS]; exact Wt.rd_wr g2 g3 g4
  refine ⟨_, rfl, .ref p, A, B, rfl, ⟨p, rfl, SqT.of hp⟩, g2, g3, fun H6 e6 => ?_⟩
  refine ⟨_, rfl, _, _, _, _, _, rfl, .ty "str", .base (.str _), kit_ty (isI_str (by decide)), ⟨_, rfl, iteF ?_⟩⟩
  refine ⟨_, rfl, _, rfl, rfl, _, rfl, itF (by simp) ?_⟩
  refine ⟨_, rfl, .inl ⟨wrS A B, rfl, by omega, fun no => absurd (rdT.symm.trans no) (fun z => nomatch z), fun a' b' hab p7 H7 e7 h7 => ?_⟩⟩
  obtain ⟨rfl, rfl⟩ : A = a' ∧ B = b' := by
    have := rdT.symm.trans hab
    have := Option.some.inj this
    exact ⟨congrArg Prod.fst this, congrArg Prod.snd this⟩
  have hp7 := e7 _ _ (e6 _ _ hp)
  refine ⟨_, rfl, _, _, _, _, _, _, rfl, ⟨p7, rfl, SqT.of h7⟩, ⟨p, rfl, SqT.of hp7⟩, fun H8 e8 => ⟨_, rfl, itF (by simp) ?_⟩⟩
  have e18 := ((e15.trans e6).trans e7).trans e8
  refine nxt ?_
  dsimp only
  refine Evl.q_asg (v := .int (wCell ns 2)) (Evl.ev_call (vs := [.ref a, .int 2]) (Evl.ea_cons (Evl.ev_var rfl) (Evl.ea_cons Evl.ev_c Evl.ea_nil)) fun H9 e9 Q q E => ⟨a, ns, 2, rfl, Evl.ex_l (e18.trans e9) hs, by decide, q⟩) fun H9 e9 => ?_
  have oM := odd_mono (K := K)
  refine q_forX (n := 3) (P := OddV K) (ex_lstL (n := 3) (eas_cons oM ?_ (eas_cons oM ?_ (eas_cons oM ?_ eas_nil))) (by decide) oM) oM (fun i σ' _ => ∃ c0 t0 t1 t2, σ' = [some (.ref a), some (.int x), some (.ref p), some (.str (wrS A B)), some (.str (wrS A B)), c0, t0, t1, t2]) (fun _ _ => ⟨_, _, _, _, rfl⟩) ?_ ?_
  · refine ex_call (vs := [.str (wrS A B), .int (wCell ns 2)]) (Evl.ea_cons (Evl.ev_var rfl) (Evl.ea_cons (Evl.ev_var rfl) Evl.ea_nil)) fun H10 e10 Q q E => ⟨_, _, rfl, by omega, fun z H11 hz e11 => q _ _ e11 (.inl ⟨z, rfl, hz⟩)⟩
  · refine ex_call (vs := [.int (wCell ns 2)]) (Evl.ea_cons (Evl.ev_var rfl) Evl.ea_nil) fun H10 e10 Q q E => ⟨_, rfl, fun v H11 hv e11 => q _ _ e11 hv⟩
  · exact ex_of (Evl.ev_var rfl) fun _ _ => .inl ⟨_, rfl, by omega⟩
  · rintro i z σ' H10 hi hz ⟨c0, t0, t1, t2, rfl⟩ N hN
    have refd : ∀ (v : V) (H11 : Hp) (p9 : Addr) (H12 : Hp), v = .non → Ex H10 H11 → Ex H11 H12 → H12 p9 = some (.tup [.str "refused", .str "text"]) →
        tIfS (tOr (tAnd (tTest (tOp (fun x y H Q => y = .non ∧ Q (.bl (decide (x = .non))) H) (tVar 7) (tC .non))) (tTest (tOp (rNeD K) (tVar 8) (tTup (tCons (tC (.str "refused")) (tCons (tC (.str "text")) tNil))))))
          (tAnd (tTest (tOp (fun x y H Q => y = .non ∧ Q (.bl (!decide (x = .non))) H) (tVar 7) (tC .non))) (tNot (tB (tCall (sp_l_is K) [] E0 (tCons (tVar 8) (tCons (tVar 7) tNil)))))))
          (tRet (tC (.bl false))) tNext { nx := N, rt := Q } [some (.ref a), some (.int x), some (.ref p), some (.str (wrS A B)), some (.str (wrS A B)), c0, some z, some v, some (.ref p9)] H12 := by
      intro v H11 p9 H12 hv ex1 ex2 h9
      subst hv
      refine ⟨_, rfl, rfl, _, rfl, itT (decide_eq_true rfl) ?_⟩
      refine ⟨_, rfl, (by show 2 ≤ sizeLine; decide), fun q hq => ?_⟩
      refine ⟨.tuple [.str "refused", .str "text"], .tuple [.str "refused", .str "text"], .tup (SqT.of ((Ex.new hq) _ _ h9)) (.cons (.str _) (.cons (.str _) .nil)), .tup (SqT.of upd_same) (.cons (.str _) (.cons (.str _) .nil)), by decide +kernel, by decide +kernel, _, rfl, ?_⟩
      rw [show PyData.eqv (.tuple [.str "refused", .str "text"]) (.tuple [.str "refused", .str "text"]) = true by decide +kernel]
      refine itF rfl ?_
      refine ⟨_, rfl, rfl, _, rfl, itF rfl ?_⟩
      refine iteF ?_
      exact hN _ _ ((ex1.trans ex2).trans (Ex.new hq)) ⟨_, _, _, _, rfl⟩
    rcases hz with ⟨t, rfl, ht⟩ | ⟨n, hty, hn, hi⟩
    · refine ⟨_, rfl, .inl ⟨t, rfl, ht, fun v H11 e11 hv => ?_⟩⟩
      refine ⟨_, rfl, .inl ⟨t, rfl, ht, fun no p9 H12 e12 h9 => ?_, fun a' b' hab p9 H12 e12 h9 => ?_⟩⟩
      · rw [no] at hv
        exact refd v H11 p9 H12 hv e11 e12 h9
      · rw [hab] at hv
        obtain ⟨q, rfl, hq⟩ := hv
        refine ⟨_, rfl, rfl, _, rfl, itF (decide_eq_false fun z => nomatch z) ?_⟩
        refine iteF ?_
        refine ⟨_, rfl, rfl, _, rfl, itT (by rw [decide_eq_false fun z => nomatch z]; rfl) ?_⟩
        refine ⟨_, rfl, _, rfl, _, _, _, _, _, _, rfl, ⟨p9, rfl, SqT.of h9⟩, ⟨q, rfl, Evl.ex_t e12 hq⟩, fun H13 e13 => ⟨_, rfl, itF (by simp) ?_⟩⟩
        exact hN _ _ ((e11.trans e12).trans e13) ⟨_, _, _, _, rfl⟩
    · refine ⟨_, rfl, .inr ⟨z, n, rfl, hty, hn, hi, fun H11 e11 => ?_⟩⟩
      refine ⟨_, rfl, .inr ⟨z, n, rfl, tyb_mono e11 hty, hn, hi, fun p9 H12 e12 h9 => ?_⟩⟩
      exact refd .non H11 p9 H12 rfl e11 e12 h9
  · rintro σ' H10 _
    exact k _
end
theorem law_start {K : PySem.W.Frag} {H : Hp} {a : Addr} {ns : List Int} (hl : ns.length ≤ 63) (hb : ∀ z ∈ ns, Bits z) (hS : SqL K H a (ns.map V.int)) : sp_law K [.ref a] H (fun v _ => v = .bl true) fun _ _ _ => False := ⟨a, ns, rfl, hS, hb, fun _ => rfl⟩
theorem all_mk {l : PySem.W.OpenLaw} {w : World} {K : PySem.W.Frag} {h : Heap} {mg : Str → Option Value} {fa : Addr} {c_WeighError c_Nought c_NoText c_NoRow c_NoMachine c_NoWord c_OtherSigns c_TooMany f0 f1 f2 f3 f4 f5 f6 f7 f8 f9 f10 f11 f12 f13 f14 f15 f16 f17 f18 : Addr} (X : K.In h) (G : h.Ns mainGlobals mg) (hfa : mg "law" = some (.ref fa))
    {od0 an0 od1 an1 od2 an2 od3 an3 od4 an4 od5 an5 od6 an6 od7 an7 od8 an8 od9 an9 od10 an10 od11 an11 od12 an12 od13 an13 od14 an14 od15 an15 od16 an16 od17 an17 od18 an18 : Option Addr} {sl0 sl1 sl2 sl3 sl4 sl5 sl6 sl7 sl8 sl9 sl10 sl11 sl12 sl13 sl14 sl15 sl16 sl17 sl18 : Array (Option Value)} {oc0 kV0 dc0 pm0 cd0 ct0 oc1 kV1 dc1 pm1 cd1 ct1 oc2 kV2 dc2 pm2 cd2 ct2 oc3 kV3 dc3 pm3 cd3 ct3 oc4 kV4 dc4 pm4 cd4 ct4 oc5 kV5 dc5 pm5 cd5 ct5 oc6 kV6 dc6 pm6 cd6 ct6 oc7 kV7 dc7 pm7 cd7 ct7 oc8 kV8 dc8 pm8 cd8 ct8 oc9 kV9 dc9 pm9 cd9 ct9 oc10 kV10 dc10 pm10 cd10 ct10 oc11 kV11 dc11 pm11 cd11 ct11 oc12 kV12 dc12 pm12 cd12 ct12 oc13 kV13 dc13 pm13 cd13 ct13 oc14 kV14 dc14 pm14 cd14 ct14 oc15 kV15 dc15 pm15 cd15 ct15 oc16 kV16 dc16 pm16 cd16 ct16 oc17 kV17 dc17 pm17 cd17 ct17 oc18 kV18 dc18 pm18 cd18 ct18 : Value} {t_p_FIGURES t_p_MOST_FIGURES : Tok}
    (aC_WeighError : PySem.W.nsIn K mainGlobals "WeighError" = some (some (.ref c_WeighError)))
    (aC_Nought : PySem.W.nsIn K mainGlobals "Nought" = some (some (.ref c_Nought)))
    (aC_NoText : PySem.W.nsIn K mainGlobals "NoText" = some (some (.ref c_NoText)))
    (x_NoText : PySem.W.excIn K c_NoText [.type "ValueError", .type "Exception", .type "BaseException", .type "object"] "ValueError.__new__" = true)
    (k_NoText : PySem.W.keepIn K (.ref c_NoText) = true)
    (sB_NoText : PySem.W.subIn K (.ref c_NoText) (.type "BaseException") = some true)
    (tB_NoText : PySem.W.typeIn K (.ref c_NoText) = some (.type "type"))
    (aC_NoRow : PySem.W.nsIn K mainGlobals "NoRow" = some (some (.ref c_NoRow)))
    (aC_NoMachine : PySem.W.nsIn K mainGlobals "NoMachine" = some (some (.ref c_NoMachine)))
    (aC_NoWord : PySem.W.nsIn K mainGlobals "NoWord" = some (some (.ref c_NoWord)))
    (aC_OtherSigns : PySem.W.nsIn K mainGlobals "OtherSigns" = some (some (.ref c_OtherSigns)))
    (aC_TooMany : PySem.W.nsIn K mainGlobals "TooMany" = some (some (.ref c_TooMany)))
    (a0 : PySem.W.nsIn K mainGlobals "_is_whole" = some (some (.ref f0)))
    (l0 : K.lookup f0 = some ⟨oc0, od0, .func (PySem.W.fnOf "_is_whole" "_is_whole" (defArgs s_p_is_whole) (defBody s_p_is_whole) (defScope s_p_is_whole) .none kV0 dc0 pm0 an0 cd0 ct0), sl0⟩)
    (q0 : PySem.W.codeIn K cd0 "_is_whole" = true)
    (k0 : PySem.W.keepIn K (.ref f0) = true)
    (a1 : PySem.W.nsIn K mainGlobals "is_share" = some (some (.ref f1)))
    (l1 : K.lookup f1 = some ⟨oc1, od1, .func (PySem.W.fnOf "is_share" "is_share" (defArgs s_is_share) (defBody s_is_share) (defScope s_is_share) .none kV1 dc1 pm1 an1 cd1 ct1), sl1⟩)
    (q1 : PySem.W.codeIn K cd1 "is_share" = true)
    (k1 : PySem.W.keepIn K (.ref f1) = true)
    (a2 : PySem.W.nsIn K mainGlobals "_written_number" = some (some (.ref f2)))
    (l2 : K.lookup f2 = some ⟨oc2, od2, .func (PySem.W.fnOf "_written_number" "_written_number" (defArgs s_p_written_number) (defBody s_p_written_number) (defScope s_p_written_number) .none kV2 dc2 pm2 an2 cd2 ct2), sl2⟩)
    (q2 : PySem.W.codeIn K cd2 "_written_number" = true)
    (k2 : PySem.W.keepIn K (.ref f2) = true)
    (a3 : PySem.W.nsIn K mainGlobals "written" = some (some (.ref f3)))
    (l3 : K.lookup f3 = some ⟨oc3, od3, .func (PySem.W.fnOf "written" "written" (defArgs s_written) (defBody s_written) (defScope s_written) .none kV3 dc3 pm3 an3 cd3 ct3), sl3⟩)
    (q3 : PySem.W.codeIn K cd3 "written" = true)
    (k3 : PySem.W.keepIn K (.ref f3) = true)
    (a4 : PySem.W.nsIn K mainGlobals "_read_number" = some (some (.ref f4)))
    (l4 : K.lookup f4 = some ⟨oc4, od4, .func (PySem.W.fnOf "_read_number" "_read_number" (defArgs s_p_read_number) (defBody s_p_read_number) (defScope s_p_read_number) .none kV4 dc4 pm4 an4 cd4 ct4), sl4⟩)
    (q4 : PySem.W.codeIn K cd4 "_read_number" = true)
    (k4 : PySem.W.keepIn K (.ref f4) = true)
    (a5 : PySem.W.nsIn K mainGlobals "read" = some (some (.ref f5)))
    (l5 : K.lookup f5 = some ⟨oc5, od5, .func (PySem.W.fnOf "read" "read" (defArgs s_read) (defBody s_read) (defScope s_read) .none kV5 dc5 pm5 an5 cd5 ct5), sl5⟩)
    (q5 : PySem.W.codeIn K cd5 "read" = true)
    (k5 : PySem.W.keepIn K (.ref f5) = true)
    (a6 : PySem.W.nsIn K mainGlobals "_law_cell_at" = some (some (.ref f6)))
    (l6 : K.lookup f6 = some ⟨oc6, od6, .func (PySem.W.fnOf "_law_cell_at" "_law_cell_at" (defArgs s_l_cell_at) (defBody s_l_cell_at) (defScope s_l_cell_at) .none kV6 dc6 pm6 an6 cd6 ct6), sl6⟩)
    (q6 : PySem.W.codeIn K cd6 "_law_cell_at" = true)
    (k6 : PySem.W.keepIn K (.ref f6) = true)
    (a7 : PySem.W.nsIn K mainGlobals "_law_whole" = some (some (.ref f7)))
    (l7 : K.lookup f7 = some ⟨oc7, od7, .func (PySem.W.fnOf "_law_whole" "_law_whole" (defArgs s_l_whole) (defBody s_l_whole) (defScope s_l_whole) .none kV7 dc7 pm7 an7 cd7 ct7), sl7⟩)
    (q7 : PySem.W.codeIn K cd7 "_law_whole" = true)
    (k7 : PySem.W.keepIn K (.ref f7) = true)
    (a8 : PySem.W.nsIn K mainGlobals "_law_common" = some (some (.ref f8)))
    (l8 : K.lookup f8 = some ⟨oc8, od8, .func (PySem.W.fnOf "_law_common" "_law_common" (defArgs s_l_common) (defBody s_l_common) (defScope s_l_common) .none kV8 dc8 pm8 an8 cd8 ct8), sl8⟩)
    (q8 : PySem.W.codeIn K cd8 "_law_common" = true)
    (k8 : PySem.W.keepIn K (.ref f8) = true)
    (a9 : PySem.W.nsIn K mainGlobals "_law_share" = some (some (.ref f9)))
    (l9 : K.lookup f9 = some ⟨oc9, od9, .func (PySem.W.fnOf "_law_share" "_law_share" (defArgs s_l_share) (defBody s_l_share) (defScope s_l_share) .none kV9 dc9 pm9 an9 cd9 ct9), sl9⟩)
    (q9 : PySem.W.codeIn K cd9 "_law_share" = true)
    (k9 : PySem.W.keepIn K (.ref f9) = true)
    (a10 : PySem.W.nsIn K mainGlobals "_law_is" = some (some (.ref f10)))
    (l10 : K.lookup f10 = some ⟨oc10, od10, .func (PySem.W.fnOf "_law_is" "_law_is" (defArgs s_l_is) (defBody s_l_is) (defScope s_l_is) .none kV10 dc10 pm10 an10 cd10 ct10), sl10⟩)
    (q10 : PySem.W.codeIn K cd10 "_law_is" = true)
    (k10 : PySem.W.keepIn K (.ref f10) = true)
    (a11 : PySem.W.nsIn K mainGlobals "_law_number" = some (some (.ref f11)))
    (l11 : K.lookup f11 = some ⟨oc11, od11, .func (PySem.W.fnOf "_law_number" "_law_number" (defArgs s_l_number) (defBody s_l_number) (defScope s_l_number) .none kV11 dc11 pm11 an11 cd11 ct11), sl11⟩)
    (q11 : PySem.W.codeIn K cd11 "_law_number" = true)
    (k11 : PySem.W.keepIn K (.ref f11) = true)
    (a12 : PySem.W.nsIn K mainGlobals "_law_word_of" = some (some (.ref f12)))
    (l12 : K.lookup f12 = some ⟨oc12, od12, .func (PySem.W.fnOf "_law_word_of" "_law_word_of" (defArgs s_l_word_of) (defBody s_l_word_of) (defScope s_l_word_of) .none kV12 dc12 pm12 an12 cd12 ct12), sl12⟩)
    (q12 : PySem.W.codeIn K cd12 "_law_word_of" = true)
    (k12 : PySem.W.keepIn K (.ref f12) = true)
    (a13 : PySem.W.nsIn K mainGlobals "_law_figures" = some (some (.ref f13)))
    (l13 : K.lookup f13 = some ⟨oc13, od13, .func (PySem.W.fnOf "_law_figures" "_law_figures" (defArgs s_l_figures) (defBody s_l_figures) (defScope s_l_figures) .none kV13 dc13 pm13 an13 cd13 ct13), sl13⟩)
    (q13 : PySem.W.codeIn K cd13 "_law_figures" = true)
    (k13 : PySem.W.keepIn K (.ref f13) = true)
    (a14 : PySem.W.nsIn K mainGlobals "_law_read_here" = some (some (.ref f14)))
    (l14 : K.lookup f14 = some ⟨oc14, od14, .func (PySem.W.fnOf "_law_read_here" "_law_read_here" (defArgs s_l_read_here) (defBody s_l_read_here) (defScope s_l_read_here) .none kV14 dc14 pm14 an14 cd14 ct14), sl14⟩)
    (q14 : PySem.W.codeIn K cd14 "_law_read_here" = true)
    (k14 : PySem.W.keepIn K (.ref f14) = true)
    (a15 : PySem.W.nsIn K mainGlobals "_law_told" = some (some (.ref f15)))
    (l15 : K.lookup f15 = some ⟨oc15, od15, .func (PySem.W.fnOf "_law_told" "_law_told" (defArgs s_l_told) (defBody s_l_told) (defScope s_l_told) .none kV15 dc15 pm15 an15 cd15 ct15), sl15⟩)
    (q15 : PySem.W.codeIn K cd15 "_law_told" = true)
    (k15 : PySem.W.keepIn K (.ref f15) = true)
    (a16 : PySem.W.nsIn K mainGlobals "_law_changed" = some (some (.ref f16)))
    (l16 : K.lookup f16 = some ⟨oc16, od16, .func (PySem.W.fnOf "_law_changed" "_law_changed" (defArgs s_l_changed) (defBody s_l_changed) (defScope s_l_changed) .none kV16 dc16 pm16 an16 cd16 ct16), sl16⟩)
    (q16 : PySem.W.codeIn K cd16 "_law_changed" = true)
    (k16 : PySem.W.keepIn K (.ref f16) = true)
    (a17 : PySem.W.nsIn K mainGlobals "_law_odd" = some (some (.ref f17)))
    (l17 : K.lookup f17 = some ⟨oc17, od17, .func (PySem.W.fnOf "_law_odd" "_law_odd" (defArgs s_l_odd) (defBody s_l_odd) (defScope s_l_odd) .none kV17 dc17 pm17 an17 cd17 ct17), sl17⟩)
    (q17 : PySem.W.codeIn K cd17 "_law_odd" = true)
    (k17 : PySem.W.keepIn K (.ref f17) = true)
    (a18 : PySem.W.nsIn K mainGlobals "law" = some (some (.ref f18)))
    (l18 : K.lookup f18 = some ⟨oc18, od18, .func (PySem.W.fnOf "law" "law" (defArgs s_law) (defBody s_law) (defScope s_law) .none kV18 dc18 pm18 an18 cd18 ct18), sl18⟩)
    (q18 : PySem.W.codeIn K cd18 "law" = true)
    (k18 : PySem.W.keepIn K (.ref f18) = true)
    (z_int : PySem.W.nsIn K mainGlobals "int" = some none)
    (z_type : PySem.W.nsIn K mainGlobals "type" = some none)
    (z_tuple : PySem.W.nsIn K mainGlobals "tuple" = some none)
    (z_len : PySem.W.nsIn K mainGlobals "len" = some none)
    (z_divmod : PySem.W.nsIn K mainGlobals "divmod" = some none)
    (z_str : PySem.W.nsIn K mainGlobals "str" = some none)
    (z_isinstance : PySem.W.nsIn K mainGlobals "isinstance" = some none)
    (z_bool : PySem.W.nsIn K mainGlobals "bool" = some none)
    (z_abs : PySem.W.nsIn K mainGlobals "abs" = some none)
    (z_ValueError : PySem.W.nsIn K mainGlobals "ValueError" = some none)
    (z_max : PySem.W.nsIn K mainGlobals "max" = some none)
    (g_gcd : PySem.W.nsIn K mainGlobals "gcd" = some (some (.builtin "math.gcd")))
    (mk_p_FIGURES : PySem.W.nsIn K mainGlobals "_FIGURES" = some (some (.str "0123456789" t_p_FIGURES)))
    (mk_p_MOST_FIGURES : PySem.W.nsIn K mainGlobals "_MOST_FIGURES" = some (some (.int 60 t_p_MOST_FIGURES)))
    (e6 : PySem.W.specialIn K (.builtin "object.__class__") "__get__" = some (some (.builtin "getset_descriptor.__get__")))
    (e7 : PySem.W.takesIn K (.builtin "object.__class__") = some true)
    (ic_WeighError : PySem.W.isClsIn K c_WeighError = true)
    (tB_WeighError : PySem.W.typeIn K (.ref c_WeighError) = some (.type "type"))
    (ic_Nought : PySem.W.isClsIn K c_Nought = true)
    (tB_Nought : PySem.W.typeIn K (.ref c_Nought) = some (.type "type"))
    (ic_NoText : PySem.W.isClsIn K c_NoText = true)
    (ic_NoRow : PySem.W.isClsIn K c_NoRow = true)
    (tB_NoRow : PySem.W.typeIn K (.ref c_NoRow) = some (.type "type"))
    (ic_NoMachine : PySem.W.isClsIn K c_NoMachine = true)
    (tB_NoMachine : PySem.W.typeIn K (.ref c_NoMachine) = some (.type "type"))
    (ic_NoWord : PySem.W.isClsIn K c_NoWord = true)
    (tB_NoWord : PySem.W.typeIn K (.ref c_NoWord) = some (.type "type"))
    (ic_OtherSigns : PySem.W.isClsIn K c_OtherSigns = true)
    (tB_OtherSigns : PySem.W.typeIn K (.ref c_OtherSigns) = some (.type "type"))
    (ic_TooMany : PySem.W.isClsIn K c_TooMany = true)
    (tB_TooMany : PySem.W.typeIn K (.ref c_TooMany) = some (.type "type"))
    (sB_WeighError : PySem.W.subIn K (.ref c_WeighError) (.type "BaseException") = some true)
    (e1_NoText : PySem.W.findIn K (.ref c_NoText) "__getattribute__" = some (some (.builtin "BaseException.__getattribute__")))
    (e2_NoText : PySem.W.findIn K (.ref c_NoText) "__getattr__" = some none)
    (e4_NoText : PySem.W.hasDictIn K c_NoText = true)
    (e5_NoText : PySem.W.findIn K (.ref c_NoText) "__class__" = some (some (.builtin "object.__class__")))
    (e8_NoText : PySem.W.mroIn K c_NoText (.type "object") = some true)
    (ve_NoText : PySem.W.subIn K (.ref c_NoText) (.type "ValueError") = some true)
    (we_NoText : PySem.W.subIn K (.ref c_NoText) (.ref c_WeighError) = some true)
    (s_NoText_Nought : PySem.W.subIn K (.ref c_NoText) (.ref c_Nought) = some false)
    (s_NoText_NoText : PySem.W.subIn K (.ref c_NoText) (.ref c_NoText) = some true)
    (s_NoText_NoRow : PySem.W.subIn K (.ref c_NoText) (.ref c_NoRow) = some false)
    (s_NoText_NoMachine : PySem.W.subIn K (.ref c_NoText) (.ref c_NoMachine) = some false)
    (s_NoText_NoWord : PySem.W.subIn K (.ref c_NoText) (.ref c_NoWord) = some false)
    (s_NoText_OtherSigns : PySem.W.subIn K (.ref c_NoText) (.ref c_OtherSigns) = some false)
    (s_NoText_TooMany : PySem.W.subIn K (.ref c_NoText) (.ref c_TooMany) = some false)
    : ∃ fd : FuncData, (∀ (s : Shared) (v : Value), BindsTo s fd ⟨[v], []⟩ [("_law_script", v)]) ∧ ∀ base : Heap, K.In base → base.Ns mainGlobals mg → FnOk l.prog w K mg base (L2.CX l.prog w) 6 fa fd ["_law_script"] (sp_law K) := by
  have e : f18 = fa := Value.ref.inj (Option.some.inj ((PySem.W.mg_of X G a18).symm.trans hfa))
  subst e
  let T : Txt K mg := {
    c_WeighError := c_WeighError,
    mc_WeighError := PySem.W.mg_of X G aC_WeighError,
    c_Nought := c_Nought,
    mc_Nought := PySem.W.mg_of X G aC_Nought,
    c_NoText := c_NoText,
    mc_NoText := PySem.W.mg_of X G aC_NoText,
    x_NoText := x_NoText,
    k_NoText := k_NoText,
    sB_NoText := sB_NoText,
    tB_NoText := tB_NoText,
    c_NoRow := c_NoRow,
    mc_NoRow := PySem.W.mg_of X G aC_NoRow,
    c_NoMachine := c_NoMachine,
    mc_NoMachine := PySem.W.mg_of X G aC_NoMachine,
    c_NoWord := c_NoWord,
    mc_NoWord := PySem.W.mg_of X G aC_NoWord,
    c_OtherSigns := c_OtherSigns,
    mc_OtherSigns := PySem.W.mg_of X G aC_OtherSigns,
    c_TooMany := c_TooMany,
    mc_TooMany := PySem.W.mg_of X G aC_TooMany,
    f_p_is_whole := f0,
    fd_p_is_whole := _,
    F_p_is_whole := fun_mk (st := s_p_is_whole) l0 q0 k0,
    b_p_is_whole := (fun_mk (st := s_p_is_whole) l0 q0 k0).binds (ps := ["thing"]) fun _ _ _ _ _ _ us hl => match us, hl with | [_], _ => rfl,
    m_p_is_whole := PySem.W.mg_of X G a0,
    f_is_share := f1,
    fd_is_share := _,
    F_is_share := fun_mk (st := s_is_share) l1 q1 k1,
    b_is_share := (fun_mk (st := s_is_share) l1 q1 k1).binds (ps := ["thing"]) fun _ _ _ _ _ _ us hl => match us, hl with | [_], _ => rfl,
    m_is_share := PySem.W.mg_of X G a1,
    f_p_written_number := f2,
    fd_p_written_number := _,
    F_p_written_number := fun_mk (st := s_p_written_number) l2 q2 k2,
    b_p_written_number := (fun_mk (st := s_p_written_number) l2 q2 k2).binds (ps := ["number"]) fun _ _ _ _ _ _ us hl => match us, hl with | [_], _ => rfl,
    m_p_written_number := PySem.W.mg_of X G a2,
    f_written := f3,
    fd_written := _,
    F_written := fun_mk (st := s_written) l3 q3 k3,
    b_written := (fun_mk (st := s_written) l3 q3 k3).binds (ps := ["part"]) fun _ _ _ _ _ _ us hl => match us, hl with | [_], _ => rfl,
    m_written := PySem.W.mg_of X G a3,
    f_p_read_number := f4,
    fd_p_read_number := _,
    F_p_read_number := fun_mk (st := s_p_read_number) l4 q4 k4,
    b_p_read_number := (fun_mk (st := s_p_read_number) l4 q4 k4).binds (ps := ["text"]) fun _ _ _ _ _ _ us hl => match us, hl with | [_], _ => rfl,
    m_p_read_number := PySem.W.mg_of X G a4,
    f_read := f5,
    fd_read := _,
    F_read := fun_mk (st := s_read) l5 q5 k5,
    b_read := (fun_mk (st := s_read) l5 q5 k5).binds (ps := ["text"]) fun _ _ _ _ _ _ us hl => match us, hl with | [_], _ => rfl,
    m_read := PySem.W.mg_of X G a5,
    f_l_cell_at := f6,
    fd_l_cell_at := _,
    F_l_cell_at := fun_mk (st := s_l_cell_at) l6 q6 k6,
    b_l_cell_at := (fun_mk (st := s_l_cell_at) l6 q6 k6).binds (ps := ["_law_script", "_law_k"]) fun _ _ _ _ _ _ us hl => match us, hl with | [_, _], _ => rfl,
    m_l_cell_at := PySem.W.mg_of X G a6,
    f_l_whole := f7,
    fd_l_whole := _,
    F_l_whole := fun_mk (st := s_l_whole) l7 q7 k7,
    b_l_whole := (fun_mk (st := s_l_whole) l7 q7 k7).binds (ps := ["_law_found"]) fun _ _ _ _ _ _ us hl => match us, hl with | [_], _ => rfl,
    m_l_whole := PySem.W.mg_of X G a7,
    f_l_common := f8,
    fd_l_common := _,
    F_l_common := fun_mk (st := s_l_common) l8 q8 k8,
    b_l_common := (fun_mk (st := s_l_common) l8 q8 k8).binds (ps := ["_law_one", "_law_other"]) fun _ _ _ _ _ _ us hl => match us, hl with | [_, _], _ => rfl,
    m_l_common := PySem.W.mg_of X G a8,
    f_l_share := f9,
    fd_l_share := _,
    F_l_share := fun_mk (st := s_l_share) l9 q9 k9,
    b_l_share := (fun_mk (st := s_l_share) l9 q9 k9).binds (ps := ["_law_top", "_law_bottom"]) fun _ _ _ _ _ _ us hl => match us, hl with | [_, _], _ => rfl,
    m_l_share := PySem.W.mg_of X G a9,
    f_l_is := f10,
    fd_l_is := _,
    F_l_is := fun_mk (st := s_l_is) l10 q10 k10,
    b_l_is := (fun_mk (st := s_l_is) l10 q10 k10).binds (ps := ["_law_found", "_law_due"]) fun _ _ _ _ _ _ us hl => match us, hl with | [_, _], _ => rfl,
    m_l_is := PySem.W.mg_of X G a10,
    f_l_number := f11,
    fd_l_number := _,
    F_l_number := fun_mk (st := s_l_number) l11 q11 k11,
    b_l_number := (fun_mk (st := s_l_number) l11 q11 k11).binds (ps := ["_law_cell"]) fun _ _ _ _ _ _ us hl => match us, hl with | [_], _ => rfl,
    m_l_number := PySem.W.mg_of X G a11,
    f_l_word_of := f12,
    fd_l_word_of := _,
    F_l_word_of := fun_mk (st := s_l_word_of) l12 q12 k12,
    b_l_word_of := (fun_mk (st := s_l_word_of) l12 q12 k12).binds (ps := ["_law_e"]) fun _ _ _ _ _ _ us hl => match us, hl with | [_], _ => rfl,
    m_l_word_of := PySem.W.mg_of X G a12,
    f_l_figures := f13,
    fd_l_figures := _,
    F_l_figures := fun_mk (st := s_l_figures) l13 q13 k13,
    b_l_figures := (fun_mk (st := s_l_figures) l13 q13 k13).binds (ps := ["_law_word"]) fun _ _ _ _ _ _ us hl => match us, hl with | [_], _ => rfl,
    m_l_figures := PySem.W.mg_of X G a13,
    f_l_read_here := f14,
    fd_l_read_here := _,
    F_l_read_here := fun_mk (st := s_l_read_here) l14 q14 k14,
    b_l_read_here := (fun_mk (st := s_l_read_here) l14 q14 k14).binds (ps := ["_law_text"]) fun _ _ _ _ _ _ us hl => match us, hl with | [_], _ => rfl,
    m_l_read_here := PySem.W.mg_of X G a14,
    f_l_told := f15,
    fd_l_told := _,
    F_l_told := fun_mk (st := s_l_told) l15 q15 k15,
    b_l_told := (fun_mk (st := s_l_told) l15 q15 k15).binds (ps := ["_law_text"]) fun _ _ _ _ _ _ us hl => match us, hl with | [_], _ => rfl,
    m_l_told := PySem.W.mg_of X G a15,
    f_l_changed := f16,
    fd_l_changed := _,
    F_l_changed := fun_mk (st := s_l_changed) l16 q16 k16,
    b_l_changed := (fun_mk (st := s_l_changed) l16 q16 k16).binds (ps := ["_law_text", "_law_cell"]) fun _ _ _ _ _ _ us hl => match us, hl with | [_, _], _ => rfl,
    m_l_changed := PySem.W.mg_of X G a16,
    f_l_odd := f17,
    fd_l_odd := _,
    F_l_odd := fun_mk (st := s_l_odd) l17 q17 k17,
    b_l_odd := (fun_mk (st := s_l_odd) l17 q17 k17).binds (ps := ["_law_cell"]) fun _ _ _ _ _ _ us hl => match us, hl with | [_], _ => rfl,
    m_l_odd := PySem.W.mg_of X G a17,
    f_law := f18,
    fd_law := _,
    F_law := fun_mk (st := s_law) l18 q18 k18,
    b_law := (fun_mk (st := s_law) l18 q18 k18).binds (ps := ["_law_script"]) fun _ _ _ _ _ _ us hl => match us, hl with | [_], _ => rfl,
    m_law := PySem.W.mg_of X G a18,
    n_int := PySem.W.mg_none_of X G z_int,
    n_type := PySem.W.mg_none_of X G z_type,
    n_tuple := PySem.W.mg_none_of X G z_tuple,
    n_len := PySem.W.mg_none_of X G z_len,
    n_divmod := PySem.W.mg_none_of X G z_divmod,
    n_str := PySem.W.mg_none_of X G z_str,
    n_isinstance := PySem.W.mg_none_of X G z_isinstance,
    n_bool := PySem.W.mg_none_of X G z_bool,
    n_abs := PySem.W.mg_none_of X G z_abs,
    n_ValueError := PySem.W.mg_none_of X G z_ValueError,
    n_max := PySem.W.mg_none_of X G z_max,
    g_gcd := PySem.W.mg_of X G g_gcd,
    mk_p_FIGURES := ⟨t_p_FIGURES, PySem.W.mg_of X G mk_p_FIGURES⟩,
    mk_p_MOST_FIGURES := ⟨t_p_MOST_FIGURES, PySem.W.mg_of X G mk_p_MOST_FIGURES⟩ }
  exact ⟨_, fun s v => .of_eq rfl, fun base _ _ => ok_law T ⟨⟨e1_NoText, e2_NoText, sB_NoText, e4_NoText, e5_NoText, e6, e7, e8_NoText⟩, kit_other ic_Nought tB_Nought s_NoText_Nought s_NoText_NoText, kit_self, kit_other ic_NoRow tB_NoRow s_NoText_NoRow s_NoText_NoText, kit_other ic_NoMachine tB_NoMachine s_NoText_NoMachine s_NoText_NoText, kit_other ic_NoWord tB_NoWord s_NoText_NoWord s_NoText_NoText, kit_other ic_OtherSigns tB_OtherSigns s_NoText_OtherSigns s_NoText_NoText, kit_other ic_TooMany tB_TooMany s_NoText_TooMany s_NoText_NoText, kit_ve ve_NoText⟩ (exm_sub sB_WeighError ic_WeighError tB_WeighError we_NoText)⟩
theorem walk {l : PySem.W.OpenLaw} {q : Program} {loose : List Str} {XP : (Str → Option Value) → Heap → Prop} {YP : World → Heap → Prop} {d : DefRec} {K : Params → PySem.W.Frag} (hn : l.most = some 63) (hdf : d.params.defaults = [])
    (hY : ∀ (w : World) (h : Heap), YP w h → (K w.params).In h)
    (F : ∀ (w : World) (mg : Str → Option Value) (fa : Addr) (h : Heap), (K w.params).In h → h.Ns mainGlobals mg → mg d.name = some (.ref fa) →
      ∃ fd : FuncData, (∀ (s : Shared) (u : Value), BindsTo s fd ⟨[u], []⟩ [("_law_script", u)]) ∧ ∀ base : Heap, (K w.params).In base → base.Ns mainGlobals mg → FnOk l.prog w (K w.params) mg base (L2.CX l.prog w) 6 fa fd ["_law_script"] (sp_law (K w.params))) :
    PySem.W.WalkO q loose XP YP l.row.toRowW d [] (fun f vs => PySem.call f vs) :=
  L2.walk_ofB (n := 63) (k := 6) (x := "_law_script") (CX := fun w => L2.CX l.prog w) (sp := fun w => sp_law (K w.params)) hn (by decide) hdf ⟨rfl, by decide, by decide⟩ hY F
    (fun _ _ a ns hl hb _ hS => law_start hl (fun z hz => bits_of (hb z hz)) hS) fun _ _ _ _ _ h => by
      obtain ⟨_, _, _, _, _, _, _, _, _, _, _, _, z⟩ := h
      exact z.elim
end My
open PySem PySem.W PyProof.Rows in
set_option maxRecDepth 100000 in
set_option maxHeartbeats 0 in
theorem PySem.Challenge.cw_weighwords_k03_written_holds : PySem.Challenge.rw_weighwords_k03_written.Holds := by
  w_on; o_law; k_head; (case hw => w_witness2)
  k_fill
  refine My.walk (l := PySem.Challenge.rw_weighwords_k03_written) rfl rfl (fun w h Y => PySem.W.kIn_of Y) ?F
  case F =>
    intro w mg fa h KX G hmg
    refine' My.all_mk KX G hmg ?aC_WeighError ?aC_Nought ?aC_NoText ?x_NoText ?k_NoText ?sB_NoText ?tB_NoText ?aC_NoRow ?aC_NoMachine ?aC_NoWord ?aC_OtherSigns ?aC_TooMany ?a0 ?l0 ?q0 ?k0 ?a1 ?l1 ?q1 ?k1 ?a2 ?l2 ?q2 ?k2 ?a3 ?l3 ?q3 ?k3 ?a4 ?l4 ?q4 ?k4 ?a5 ?l5 ?q5 ?k5 ?a6 ?l6 ?q6 ?k6 ?a7 ?l7 ?q7 ?k7 ?a8 ?l8 ?q8 ?k8 ?a9 ?l9 ?q9 ?k9 ?a10 ?l10 ?q10 ?k10 ?a11 ?l11 ?q11 ?k11 ?a12 ?l12 ?q12 ?k12 ?a13 ?l13 ?q13 ?k13 ?a14 ?l14 ?q14 ?k14 ?a15 ?l15 ?q15 ?k15 ?a16 ?l16 ?q16 ?k16 ?a17 ?l17 ?q17 ?k17 ?a18 ?l18 ?q18 ?k18 ?z_int ?z_type ?z_tuple ?z_len ?z_divmod ?z_str ?z_isinstance ?z_bool ?z_abs ?z_ValueError ?z_max ?g_gcd ?mk_p_FIGURES ?mk_p_MOST_FIGURES ?e6 ?e7 ?ic_WeighError ?tB_WeighError ?ic_Nought ?tB_Nought ?ic_NoText ?ic_NoRow ?tB_NoRow ?ic_NoMachine ?tB_NoMachine ?ic_NoWord ?tB_NoWord ?ic_OtherSigns ?tB_OtherSigns ?ic_TooMany ?tB_TooMany ?sB_WeighError ?e1_NoText ?e2_NoText ?e4_NoText ?e5_NoText ?e8_NoText ?ve_NoText ?we_NoText ?s_NoText_Nought ?s_NoText_NoText ?s_NoText_NoRow ?s_NoText_NoMachine ?s_NoText_NoWord ?s_NoText_OtherSigns ?s_NoText_TooMany
    (case aC_WeighError => k_is)
    (case aC_Nought => k_is)
    (case aC_NoText => k_is)
    (case x_NoText => k_exc)
    (case k_NoText => k_is)
    (case sB_NoText => k_is)
    (case tB_NoText => k_is)
    (case aC_NoRow => k_is)
    (case aC_NoMachine => k_is)
    (case aC_NoWord => k_is)
    (case aC_OtherSigns => k_is)
    (case aC_TooMany => k_is)
    (case a0 => k_is)
    (case l0 => k_is)
    (case q0 => k_is)
    (case k0 => k_is)
    (case a1 => k_is)
    (case l1 => k_is)
    (case q1 => k_is)
    (case k1 => k_is)
    (case a2 => k_is)
    (case l2 => k_is)
    (case q2 => k_is)
    (case k2 => k_is)
    (case a3 => k_is)
    (case l3 => k_is)
    (case q3 => k_is)
    (case k3 => k_is)
    (case a4 => k_is)
    (case l4 => k_is)
    (case q4 => k_is)
    (case k4 => k_is)
    (case a5 => k_is)
    (case l5 => k_is)
    (case q5 => k_is)
    (case k5 => k_is)
    (case a6 => k_is)
    (case l6 => k_is)
    (case q6 => k_is)
    (case k6 => k_is)
    (case a7 => k_is)
    (case l7 => k_is)
    (case q7 => k_is)
    (case k7 => k_is)
    (case a8 => k_is)
    (case l8 => k_is)
    (case q8 => k_is)
    (case k8 => k_is)
    (case a9 => k_is)
    (case l9 => k_is)
    (case q9 => k_is)
    (case k9 => k_is)
    (case a10 => k_is)
    (case l10 => k_is)
    (case q10 => k_is)
    (case k10 => k_is)
    (case a11 => k_is)
    (case l11 => k_is)
    (case q11 => k_is)
    (case k11 => k_is)
    (case a12 => k_is)
    (case l12 => k_is)
    (case q12 => k_is)
    (case k12 => k_is)
    (case a13 => k_is)
    (case l13 => k_is)
    (case q13 => k_is)
    (case k13 => k_is)
    (case a14 => k_is)
    (case l14 => k_is)
    (case q14 => k_is)
    (case k14 => k_is)
    (case a15 => k_is)
    (case l15 => k_is)
    (case q15 => k_is)
    (case k15 => k_is)
    (case a16 => k_is)
    (case l16 => k_is)
    (case q16 => k_is)
    (case k16 => k_is)
    (case a17 => k_is)
    (case l17 => k_is)
    (case q17 => k_is)
    (case k17 => k_is)
    (case a18 => k_is)
    (case l18 => k_is)
    (case q18 => k_is)
    (case k18 => k_is)
    (case z_int => k_is)
    (case z_type => k_is)
    (case z_tuple => k_is)
    (case z_len => k_is)
    (case z_divmod => k_is)
    (case z_str => k_is)
    (case z_isinstance => k_is)
    (case z_bool => k_is)
    (case z_abs => k_is)
    (case z_ValueError => k_is)
    (case z_max => k_is)
    (case g_gcd => k_is)
    (case mk_p_FIGURES => k_is)
    (case mk_p_MOST_FIGURES => k_is)
    (case e6 => k_is)
    (case e7 => k_is)
    (case ic_WeighError => k_is)
    (case tB_WeighError => k_is)
    (case ic_Nought => k_is)
    (case tB_Nought => k_is)
    (case ic_NoText => k_is)
    (case ic_NoRow => k_is)
    (case tB_NoRow => k_is)
    (case ic_NoMachine => k_is)
    (case tB_NoMachine => k_is)
    (case ic_NoWord => k_is)
    (case tB_NoWord => k_is)
    (case ic_OtherSigns => k_is)
    (case tB_OtherSigns => k_is)
    (case ic_TooMany => k_is)
    (case tB_TooMany => k_is)
    (case sB_WeighError => k_is)
    (case e1_NoText => k_is)
    (case e2_NoText => k_is)
    (case e4_NoText => k_is)
    (case e5_NoText => k_is)
    (case e8_NoText => k_is)
    (case ve_NoText => k_is)
    (case we_NoText => k_is)
    (case s_NoText_Nought => k_is)
    (case s_NoText_NoText => k_is)
    (case s_NoText_NoRow => k_is)
    (case s_NoText_NoMachine => k_is)
    (case s_NoText_NoWord => k_is)
    (case s_NoText_OtherSigns => k_is)
    (case s_NoText_TooMany => k_is)
