import PyProof.Rows.All
import Wide.All
import OpenK.AllK
import Wide.FinOn
import PyProof.InstNe
import PyProof.ReprRoads
import KE.KCallOwn
import HandS.ForMost
import HandS.OwnEq
import HandS.Defaults
import HandS.MakeKw
import HandS.Property
import HandS.IsInst
import HandS.FStr
import HandS.Wide
import HandS.WideBits
import HandS.Codes
import HandS.MakeKwOnly
import HandS.Flow
import HandS.Deep
import HandS.TupAny
import HandS.Style
import HandS.Records
import HandS.Walk
import HandS.Conv
import HandS.HotCalls
import HandS.Lambda
import HandS.ExcCtx
import HandS.ExcInitHot
import HandS.ExcField
import HandS.ExcIs
import KE.KTryMore
import HandS.ExcInit
import PyProof.ExcBaseAll.ArithmeticError
import PyProof.ExcBaseAll.LookupError
import KE.KExcIs
import HandS.EndTab
import HandS.Evl
import HandS.Replace
import HandS.RaiseMore
import KE.GoesMore
import KE.GoesEnum
import KE.GoesZip
import HandS.ClsMeth
import HandS.Dict
import PyProof.ReprBulk
import PyProof.Rows.ReprOcc
import PyProof.FitsInt
import KE.KNestM
import KE.KStateDown
import HandS.Head2
import PySem.Challenge.RW_glimpserounds_k15_letters_refused
set_option Elab.async false
set_option linter.all false
set_option maxRecDepth 100000
set_option maxHeartbeats 2000000
namespace L2.G
open PySem PySem.Spec PyProof.Rows
section
variable {X : Cx} {CX : CXT} {k : Nat} {f C : Addr} {fd : FuncData} {ps : List Str} {sp : Sp} {E : XK} {pins : List (Addr × Obj)} {σ : St} {H : Hp} {s : Shared} {A : Around}
theorem env_at (I : Inv X pins σ H s) (fr : A.frames = X.A.frames) : Env0 X.prog X.w X.K X.mg X.base A X.stack s H := by
  have e := I.env0
  exact ⟨fr.trans e.frames, e.mod, e.bs, e.bsz, e.funs, e.frf, e.hok, e.bare⟩
/-- a def that is kept, called from below the running body -/
theorem run_at (F : FnOk X.prog X.w X.K X.mg X.base CX k f fd ps sp) (hb : Binds X.K fd ps []) (hx : Passes CX X E) (rm : Room k A) (fr : A.frames = X.A.frames)
    (I : Inv X pins σ H s) {vs : List V} {us : List Value} {Q : VK} (r : Vals vs us) (h : sp vs H Q E) :
    wpAny (model X.prog X.w) A (call (.ref f) us) (EP X pins σ Q) X.xe s := by
  have hl : us.length = ps.length := r.length.symm.trans (F.len _ _ _ _ h)
  have bb := hb s us I.kIn (by simpa using hl)
  refine wpAny_call (codeAny_mono (F.run A X.stack s H ⟨us, []⟩ us vs Q E rm (env_at I fr) (by simpa using bb) r h) fun res s' hq => ?_)
  match res, hq with
  | .error e, hq => exact hx pins σ H s e s' I hq
  | .ok (.ret u), hq => exact I.after hq
  | .ok .next, hq => exact False.elim hq
  | .ok .brk, hq => exact False.elim hq
  | .ok .cont, hq => exact False.elim hq
theorem inst_at (I : Inv X pins σ H s) {a dx : Addr} {fs : List (Str × V)} (e : H a = some (.ins C dx fs)) : ∃ od, PySem.W.InstAt s.heap a (PySem.W.instObj C dx) C (some od) := by
  obtain ⟨mA, O, _⟩ := ins_get I.hok e
  obtain ⟨od, J, _⟩ := O.look
  exact ⟨od, J⟩
def rLenI (C : Addr) (sp : Sp) (E : XK) : List V → Hp → VK → Prop := fun xs H Q => ∃ a dx fs, xs = [.ref a] ∧ H a = some (.ins C dx fs) ∧ sp [.ref a] H (fun v H' => ∃ n : Int, v = .int n ∧ 0 ≤ n ∧ n < 2 ^ 63 ∧ Q (.int n) H') E
/-- len(o) by an own __len__ -/
theorem cr_lenI (F : FnOk X.prog X.w X.K X.mg X.base CX k f fd ps sp) (hb : Binds X.K fd ps []) (hx : Passes CX X E) (hr : Room (k + 1) X.A)
    (hs : PySem.W.findIn X.K (.ref C) "__len__" = some (some (.ref f))) (hf : PySem.W.isFn X.K (.ref f) = true) : CallR X (.builtin "len") (rLenI C sp E) := by
  intro pins s σ H xs us Q I r h
  obtain ⟨a, dx, fs, rfl, ea, q⟩ := h
  obtain ⟨u, rfl, ru⟩ := vals1 r
  cases (show u = Value.ref a from ru)
  obtain ⟨od, J⟩ := inst_at I ea
  obtain ⟨m, hF⟩ := I.fr
  refine PySem.W.len_K hF I.ok.mod.kin J hs hf (thn (run_at F hb hx hr.in1 rfl I (vs := [.ref a]) (us := [.ref a]) (.cons rfl .nil) q) fun v s' hv => ?_)
  obtain ⟨z, H', I', rz, n, ez, h0, h1, q'⟩ := hv
  subst ez
  obtain ⟨t, rfl⟩ := rz
  exact ⟨⟨h0, h1⟩, .int n, H', I'.tok _, ⟨_, rfl⟩, q'⟩
/-- repr(o) by an own __repr__ -/
def rTxtI (C : Addr) (sp : Sp) (E : XK) : List V → Hp → VK → Prop := fun xs H Q => ∃ a dx fs, xs = [.ref a] ∧ H a = some (.ins C dx fs) ∧ sp [.ref a] H (fun v H' => ∃ z : Str, v = .str z ∧ Q (.str z) H') E
theorem cr_reprI (F : FnOk X.prog X.w X.K X.mg X.base CX k f fd ps sp) (hb : Binds X.K fd ps []) (hx : Passes CX X E) (hr : Room (k + 1) X.A)
    (hs : PySem.W.findIn X.K (.ref C) "__repr__" = some (some (.ref f))) (hf : PySem.W.isFn X.K (.ref f) = true) : CallR X (.builtin "repr") (rTxtI C sp E) := by
  intro pins s σ H xs us Q I r h
  obtain ⟨a, dx, fs, rfl, ea, q⟩ := h
  obtain ⟨u, rfl, ru⟩ := vals1 r
  cases (show u = Value.ref a from ru)
  obtain ⟨od, J⟩ := inst_at I ea
  obtain ⟨m, hF⟩ := I.fr
  refine PySem.W.repr_K hr.in1.units0 hF I.ok.mod.kin J hs hf (thn (run_at F hb hx hr.in1 rfl I (vs := [.ref a]) (us := [.ref a]) (.cons rfl .nil) q) fun v s' hv => ?_)
  obtain ⟨z, H', I', rz, n, ez, q'⟩ := hv
  subst ez
  obtain ⟨t, rfl⟩ := rz
  exact ⟨.str n, H', I', ⟨_, rfl⟩, q'⟩
/-- str(o) by an own __str__ -/
theorem cr_strI (F : FnOk X.prog X.w X.K X.mg X.base CX k f fd ps sp) (hb : Binds X.K fd ps []) (hx : Passes CX X E) (hr : Room (k + 2) X.A)
    (hs : PySem.W.findIn X.K (.ref C) "__str__" = some (some (.ref f))) (hf : PySem.W.isFn X.K (.ref f) = true) : CallR X (.type "str") (rTxtI C sp E) := by
  intro pins s σ H xs us Q I r h
  obtain ⟨a, dx, fs, rfl, ea, q⟩ := h
  obtain ⟨u, rfl, ru⟩ := vals1 r
  cases (show u = Value.ref a from ru)
  obtain ⟨od, J⟩ := inst_at I ea
  refine PySem.W.kso_call hr.in1.in1.units0 I.kIn J hs hf (thn (run_at F hb hx hr.in1.in1 rfl I (vs := [.ref a]) (us := [.ref a]) (.cons rfl .nil) q) fun v s' hv => ?_)
  obtain ⟨z, H', I', rz, n, ez, q'⟩ := hv
  subst ez
  obtain ⟨t, rfl⟩ := rz
  exact ⟨.str n, H', I', ⟨_, rfl⟩, q'⟩
/-- the truth of o by an own __len__, no __bool__ -/
def rTruI (C : Addr) (sp : Sp) (E : XK) : V → Hp → (Bool → Hp → Prop) → Prop := fun x H Q => ∃ a dx fs, x = .ref a ∧ H a = some (.ins C dx fs) ∧ sp [.ref a] H (fun v H' => ∃ n : Int, v = .int n ∧ 0 ≤ n ∧ n < 2 ^ 63 ∧ Q (n != 0) H') E
theorem len_body (F : FnOk X.prog X.w X.K X.mg X.base CX k f fd ps sp) (hb : Binds X.K fd ps []) (hx : Passes CX X E) (hr : Room k A) (fr : A.frames = X.A.frames) {a dx : Addr} {fs : List (Str × V)}
    (hs : PySem.W.findIn X.K (.ref C) "__len__" = some (some (.ref f))) (hf : PySem.W.isFn X.K (.ref f) = true) (I : Inv X pins σ H s) (ea : H a = some (.ins C dx fs)) {R : Int → Hp → Prop}
    (q : sp [.ref a] H (fun v H' => ∃ n : Int, v = .int n ∧ 0 ≤ n ∧ n < 2 ^ 63 ∧ R n H') E) :
    wpAny (model X.prog X.w) A (Builtin.«len» ⟨[.ref a], []⟩) (fun fin s' => ∃ n t, fin = .done (.ret (.int n t)) ∧ ∃ H', Inv X pins σ H' s' ∧ R n H') X.xe s := by
  obtain ⟨od, J⟩ := inst_at I ea
  unfold Builtin.«len»
  refine wpAny_bind (m := oneArg "len" _) (wpAny_pure ?_)
  refine wpAny_bind (m := callSpecial? (.ref a) (Str.ofString "__len__")) (PySem.W.special_fn I.kIn J hs (beq_iff_eq.mp hf) (thn (run_at F hb hx hr fr I (vs := [.ref a]) (us := [.ref a]) (.cons rfl .nil) q) fun v s' hv => ?_))
  obtain ⟨z, H', I', rz, n, ez, h0, h1, q'⟩ := hv
  subst ez
  obtain ⟨t, rfl⟩ := rz
  refine wpAny_bind (wpAny_holding (wpAny_pure ?_))
  refine wpAny_bind (wpAny_letGo ?_)
  dsimp only
  rw [if_neg (by omega), if_neg (by omega)]
  exact wpAny_bind (wpAny_mkInt (wpAny_pure ⟨_, _, rfl, H', I'.tok _, q'⟩))
theorem tr_lenI (F : FnOk X.prog X.w X.K X.mg X.base CX k f fd ps sp) (hb : Binds X.K fd ps []) (hx : Passes CX X E) (hr : Room (k + 1) X.A)
    (hn : PySem.W.findIn X.K (.ref C) "__bool__" = some none) (hs : PySem.W.findIn X.K (.ref C) "__len__" = some (some (.ref f))) (hf : PySem.W.isFn X.K (.ref f) = true) : TruR X (rTruI C sp E) := by
  intro pins s σ H x u Q I r h
  obtain ⟨a, dx, fs, rfl, ea, q⟩ := h
  cases (show u = Value.ref a from r)
  obtain ⟨od, J⟩ := inst_at I ea
  unfold truthy
  refine wpAny_bind (m := callSpecial? (.ref a) (Str.ofString "__bool__")) (wpAny_bind (wpAny_bind (J.type.here ((PySem.W.looks_findIn I.kIn hn).here (wpAny_pure ?_)))))
  refine wpAny_bind (wpAny_bind (J.type.here ((PySem.W.looks_findIn I.kIn hs).here ?_)))
  rw [if_neg (by simp)]
  refine wpAny_bind (wpAny_runValue (codeAny_builtin entry_len ?_))
  rw [Around.under_plainId plain_len _]
  refine thn (len_body F hb hx hr.in1 rfl hs hf I ea q) fun fin s' hh => ?_
  obtain ⟨n, t, rfl, H', I', q'⟩ := hh
  exact wpAny_pure ⟨H', I', q'⟩
/-- x == y by an own __eq__ that gives a truth -/
def rEqI (C : Addr) (sp : Sp) (E : XK) (T : V → Hp → Prop) (g : Bool → Bool) : R2 := fun x y H Q => ∃ a dx fs, x = .ref a ∧ H a = some (.ins C dx fs) ∧ T y H ∧ sp [.ref a, y] H (fun v H' => ∃ b : Bool, v = .bl b ∧ Q (.bl (g b)) H') E
/-- what is known of a value's type: not a subclass of C -/
def NotSub (K : PySem.W.Frag) (C : Addr) (y : V) (H : Hp) : Prop := (∃ dx b fs, y = .ref b ∧ H b = some (.ins C dx fs)) ∨ ∃ t, TyX K H y t ∧ PySem.W.notFirst K C t = true
theorem notSub_looks {y : V} {u : Value} (I : Inv X pins σ H s) (ry : RelV y u) (h : NotSub X.K C y H) : ∃ t, PySem.W.Looks (model X.prog X.w) s.heap (typeOf u) t ∧ PySem.W.notFirst X.K C t = true := by
  rcases h with ⟨dx, b, fs, rfl, e⟩ | ⟨t, ty, n⟩
  · cases (show u = Value.ref b from ry)
    obtain ⟨od, J⟩ := inst_at I e
    exact ⟨.ref C, J.type, by simp [PySem.W.notFirst]⟩
  · obtain ⟨P, Z, p, _⟩ := kit_of I ry ty
    exact ⟨t, Z.ty _ _ I.kIn p, n⟩
theorem op_eqI (F : FnOk X.prog X.w X.K X.mg X.base CX k f fd ps sp) (hb : Binds X.K fd ps []) (hx : Passes CX X E) (hr : Room k X.A)
    (hs : PySem.W.findIn X.K (.ref C) "__eq__" = some (some (.ref f))) (hf : PySem.W.isFn X.K (.ref f) = true) : OpR X (compareOp .Eq) (rEqI C sp E (NotSub X.K C) id) := by
  intro pins s σ H x y v u Q I rx ry h
  obtain ⟨a, dx, fs, rfl, ea, ty, q⟩ := h
  cases (show v = Value.ref a from rx)
  obtain ⟨od, J⟩ := inst_at I ea
  obtain ⟨m, hF⟩ := I.fr
  obtain ⟨t, lt, hn⟩ := notSub_looks I ry ty
  show wpAny _ _ (richCompare .Eq (.ref a) u) _ _ _
  refine PySem.W.cmp_K (op := .Eq) hr.units0 hF I.ok.mod.kin J lt hn hs hf (thn (run_at F hb hx hr rfl I (vs := [.ref a, y]) (us := [.ref a, u]) (.cons rfl (.cons ry .nil)) q) fun v' s' hv => ?_)
  obtain ⟨z, H', I', rz, b, ez, q'⟩ := hv
  subst ez
  cases (show v' = Value.bool b from rz)
  exact ⟨.bl b, H', I', rfl, q'⟩
theorem ifBound_ne {M : Model} {A : Around} {E' : Value → Shared → Prop} {s : Shared} {K : PySem.W.Frag} {x : Addr} {ox : Obj} {od : Option Obj} {args : List Value} {Q : Option Value → Shared → Prop} (XK' : K.In s.heap) (J : PySem.W.InstAt s.heap x ox C od)
    (hs : PySem.W.findIn K (.ref C) "__ne__" = some (some (.builtin "object.__ne__"))) (h : wpAny M A (call (.builtin "object.__ne__") (.ref x :: args)) (fun v => Q (some v)) E' s) :
    wpAny M A (callSpecialIfBound? (.ref x) "__ne__" args) Q E' s := by
  simp only [callSpecialIfBound?, bindSpecialIfBound?]
  refine wpAny_holding (wpAny_bind (wpAny_bind (wpAny_bind (J.type.here ((PySem.W.looks_findIn XK' hs).here ?_)))))
  refine wpAny_bind (wpAny_askSetting (wpAny_ite ?_))
  have goOn : wpAny M A (call (.builtin "object.__ne__") ([.ref x] ++ args) >>= fun v => pure (some v)) Q E' s :=
    wpAny_bind (wpAny_mono h (fun _ _ z => wpAny_pure z) fun _ _ z => z)
  split
  · exact wpAny_bind (wpAny_of_eq (PySem.F.cmp_object.ne.bind _) (wpAny_pure (by exact goOn)))
  · exact wpAny_tryCatch (wpAny_bind (wpAny_of_eq (PySem.F.cmp_object.ne.bind _) (wpAny_pure (by exact goOn))))
theorem ne_body {prog : Program} {w : World} {A : Around} {E' : Value → Shared → Prop} {s : Shared} {K : PySem.W.Frag} {x : Addr} {ox : Obj} {od : Option Obj} {b : Value} {Q : Fin → Shared → Prop} (hu : A.units < cLine) (XK' : K.In s.heap) (J : PySem.W.InstAt s.heap x ox C od)
    (hs : PySem.W.findIn K (.ref C) "__eq__" = some (some (.ref f))) (hf : PySem.W.isFn K (.ref f) = true)
    (h : wpAny (model prog w) A (call (.ref f) [.ref x, b]) (fun v s' => ∃ c : Bool, v = .bool c ∧ Q (.done (.ret (.bool (!c)))) s') E' s) : wpAny (model prog w) A (Builtin.«object.__ne__» ⟨[.ref x, b], []⟩) Q E' s := by
  unfold Builtin.«object.__ne__»
  repeat (first
    | with_reducible refine wpAny_cRoomFor hu ?_
    | (refine wpAny_bind (m := callSpecialIfBound? (.ref x) (Str.ofString "__eq__") [b]) (PySem.W.ifBound_K XK' J hs hf (wpAny_mono h (fun r s' hr => by
          obtain ⟨c, rfl, hq⟩ := hr
          repeat (first | exact hq | exact wpAny_pure hq | exact wpAny_truthy_bool hq | (refine wpAny_bind (m := truthy (.bool _)) (wpAny_truthy_bool ?_)) | wp_step)) fun _ _ z => z)))
    | wp_step)
theorem op_neI (F : FnOk X.prog X.w X.K X.mg X.base CX k f fd ps sp) (hb : Binds X.K fd ps []) (hx : Passes CX X E) (hr : Room (k + 2) X.A) (hm : PySem.W.mroIn X.K C (.type "object") = some true)
    (hne : PySem.W.findIn X.K (.ref C) "__ne__" = some (some (.builtin "object.__ne__"))) (hs : PySem.W.findIn X.K (.ref C) "__eq__" = some (some (.ref f))) (hf : PySem.W.isFn X.K (.ref f) = true) :
    OpR X (compareOp .NotEq) (rEqI C sp E (NotSub X.K C) fun b => !b) := by
  intro pins s σ H x y v u Q I rx ry h
  obtain ⟨a, dx, fs, rfl, ea, ty, q⟩ := h
  cases (show v = Value.ref a from rx)
  obtain ⟨od, J⟩ := inst_at I ea
  obtain ⟨t, lt, hn⟩ := notSub_looks I ry ty
  have run : wpAny (model X.prog X.w) X.A.in1 (call (.ref f) [.ref a, u]) (fun v s' => ∃ c : Bool, v = .bool c ∧ EP X pins σ Q (.bool (!c)) s') X.xe s := by
    refine thn (run_at F hb hx (hr.in1.mono (Nat.le_succ _)) rfl I (vs := [.ref a, y]) (us := [.ref a, u]) (.cons rfl (.cons ry .nil)) q) fun v' s' hv => ?_
    obtain ⟨z, H', I', rz, b, ez, q'⟩ := hv
    subst ez
    cases (show v' = Value.bool b from rz)
    exact ⟨b, rfl, .bl (!b), H', I', rfl, q'⟩
  have one : wpAny (model X.prog X.w) X.A (tryCompare (.ref a) "__ne__" u) (fun r s' => ∃ c : Bool, r = some (.bool c) ∧ EP X pins σ Q (.bool c) s') X.xe s := by
    unfold tryCompare
    refine wpAny_bind (ifBound_ne I.kIn J hne (wpAny_call (codeAny_call_builtin PySem.F.cmp_object.ne.plain PySem.F.cmpEntry_ne (PySem.W.check_slot PySem.F.cmpKind_ne PySem.F.cmpSplit_ne (J.type.andThen (PySem.W.looks_mroIn I.kIn hm)) (PySem.F.cmpArgs_ne _ _)
      (ne_body hr.in1.units0 I.kIn J hs hf (thn run fun v s' hv => ?_))))))
    obtain ⟨c, rfl, hq⟩ := hv
    exact ⟨c, rfl, wpAny_pure ⟨_, rfl, hq⟩⟩
  show wpAny _ _ (richCompare .NotEq (.ref a) u) _ _ _
  unfold richCompare
  simp only [oneThing_ref, cmpInfo_NotEq]
  refine wpAny_holding (wpAny_bind (wpAny_cRoomFor hr.units0 ?_))
  refine wpAny_bind (J.type.here (wpAny_bind (lt.here ?_)))
  split
  · rename_i qq
    have e : PySem.W.subIn X.K t (.ref C) = some false := by
      rcases Bool.or_eq_true_iff.mp hn with e | e
      · rw [beq_iff_eq.mp e] at qq
        simp at qq
      · exact beq_iff_eq.mp e
    refine wpAny_bind ((PySem.W.looks_subIn I.kIn e).here ?_)
    simp only [Bool.false_eq_true, if_false]
    refine wpAny_bind (wpAny_mono one (fun r s' z => ?_) fun _ _ e => e)
    obtain ⟨c, rfl, hq⟩ := z
    exact wpAny_pure hq
  · refine wpAny_bind (wpAny_pure ?_)
    simp only [Bool.false_eq_true, if_false]
    refine wpAny_bind (wpAny_mono one (fun r s' z => ?_) fun _ _ e => e)
    obtain ⟨c, rfl, hq⟩ := z
    exact wpAny_pure hq
end
end L2.G
set_option Elab.async false
set_option linter.all false
set_option maxRecDepth 100000
set_option maxHeartbeats 2000000
namespace L2.G
open PySem PySem.Spec PyProof.Rows
/-- nothing is being shown (no repr of a container runs around) -/
abbrev Quiet (A : Around) : Prop := A.guards = some []
theorem quiet_deeper {A : Around} (h : Quiet A) (env : Env) : Quiet (A.deeper env) := by
  first | exact h | (simpa [Around.deeper] using h)
/-- a def's promise where nothing is being shown -/
structure FnOkG (P : Program) (w : World) (K : PySem.W.Frag) (mg : Str → Option Value) (base : Heap) (CX : CXT) (k : Nat) (f : Addr) (fd : FuncData) (ps : List Str) (sp : Sp) : Prop where
  len : ∀ vs H Q E, sp vs H Q E → vs.length = ps.length
  run : ∀ (A : Around) (outer : List Env) (s : Shared) (H : Hp) (args : Args) (us : List Value) (vs : List V) (Q : VK) (E : XK), Quiet A → Room k A → Env0 P w K mg base A outer s H →
    BindsTo s fd args (ps.zip us) → Vals vs us → sp vs H Q E → codeAny (model P w) A (.call (.ref f) args) (CR CX outer P w H s Q E) s
section
variable {P : Program} {w : World} {K : PySem.W.Frag} {mg : Str → Option Value} {base : Heap} {CX : CXT} {k : Nat} {f : Addr} {fd : FuncData} {ps N : List Str} {sp : Sp}
theorem _root_.L2.FnOk.quiet (F : FnOk P w K mg base CX k f fd ps sp) : FnOkG P w K mg base CX k f fd ps sp :=
  ⟨F.len, fun A outer s H args us vs Q E _ => F.run A outer s H args us vs Q E⟩
/-- a def by its body, where nothing is being shown -/
theorem fn_ofG {name qual : Str} {params : Arguments} {body : List Stmt} {scope : Scope} {dV kV doc pm cdv ct oc : Value} {an od : Option Addr} {osl : Array (Option Value)}
    (lk : K.lookup f = some ⟨oc, od, .func (PySem.W.fnOf name qual params body scope dV kV doc pm an cdv ct), osl⟩) (hcd : PySem.W.codeIn K cdv qual = true) (S : FnScope N ps scope)
    (len : ∀ vs H Q E, sp vs H Q E → vs.length = ps.length)
    (hbody : ∀ (A : Around) (outer : List Env) (s : Shared) (H : Hp) (vs : List V) (Q : VK) (E : XK), Quiet (A.deeper (envOfC qual scope s.heap.objs.size f cdv)) → Room k (A.deeper (envOfC qual scope s.heap.objs.size f cdv)) → sp vs H Q E →
      ∃ t, PSs (cxOf CX P w K mg base N qual scope f cdv A outer s H E) body t ∧ t { nx := fun _ H' => Q .non H', rt := Q } (start N vs) H) :
    FnOkG P w K mg base CX (k + 1) f (PySem.W.fnOf name qual params body scope dV kV doc pm an cdv ct) ps sp := by
  refine ⟨len, fun A outer s H args us vs Q E qt hr e0 hb r hsp => ?_⟩
  have inS : K.In s.heap := e0.mod.kin.keeps fun b o z => (e0.bs b o z).1
  have noL : s.heap.NoLimit := e0.mod.nolimit.keeps fun b o z => (e0.bs b o z).1
  have kinds : ∀ y ∈ ps.zip us, scope.names.lookup y.1 = some .local ∨ (scope.names.lookup y.1 = some .cell ∧ ((cellsFrom (s.heap.objs.size + 1) scope.names []).lookup y.1).isSome = true) := by
    rintro ⟨n, v⟩ hy
    exact (S.par n (List.of_mem_zip hy).1).imp id fun z => ⟨z, PySem.W.cellsFrom_some _ _ _ (.inl z)⟩
  refine codeAny_call_function hr.depth (inS _ _ lk) rfl S.co S.gen rfl (PySem.W.codeRec_of inS hcd) (hb _ _ _ _ (wpAny_newFunctionEnv_cells S.kind kinds fun env he s1 x => ?_))
  subst he
  obtain ⟨t, ht, hq⟩ := hbody A outer s H vs Q E (quiet_deeper qt _) (hr.deeper _) hsp
  have I := inv_start (CX := CX) (E := E) S hr.hd e0 (len _ _ _ _ hsp) r x
  refine ⟨noL.keeps x.toInCall.keep, codeAny_func (wpAny_mono (ht.run [] s1 (start N vs) H _ I hq) (fun fl s' hs => ?_) fun _ _ hs => hs)⟩
  match fl, hs with
  | .ret u, ⟨v, σ', H', J, rv, q⟩ => exact ⟨v, H', J.os, J.bare, J.base, J.hok, rv, q⟩
  | .next, ⟨σ', H', J, q⟩ => exact ⟨.non, H', J.os, J.bare, J.base, J.hok, rfl, q⟩
  | .brk, ⟨_, _, _, q⟩ => exact False.elim q
  | .cont, ⟨_, _, _, q⟩ => exact False.elim q
theorem _root_.L2.Fun.okG {x qual : Str} {st : Stmt} (F : Fun K x qual st f fd) (S : FnScope N ps (defScope st)) (len : ∀ vs H Q E, sp vs H Q E → vs.length = ps.length)
    (hbody : ∀ (cdv : Value) (A : Around) (outer : List Env) (s : Shared) (H : Hp) (vs : List V) (Q : VK) (E : XK), Quiet (A.deeper (envOfC qual (defScope st) s.heap.objs.size f cdv)) → Room k (A.deeper (envOfC qual (defScope st) s.heap.objs.size f cdv)) → sp vs H Q E →
      ∃ t, PSs (cxOf CX0 P w K mg base N qual (defScope st) f cdv A outer s H E).nox (defBody st) t ∧ t { nx := fun _ H' => Q .non H', rt := Q } (start N vs) H) : FnOkG P w K mg base CX0 (k + 1) f fd ps sp := by
  obtain ⟨oc, od, kV, doc, pm, an, cdv, ct, osl, e, lk, hcd⟩ := F.ex
  subst e
  refine fn_ofG lk hcd S len fun A outer s H vs Q E qt hr hs => ?_
  obtain ⟨t, h, q⟩ := hbody cdv A outer s H vs Q E qt hr hs
  exact ⟨t, h.nox, q⟩
end
section
variable {X : Cx} {CX : CXT} {k : Nat} {f : Addr} {fd : FuncData} {ps : List Str} {sp : Sp} {E : XK} {pins : List (Addr × Obj)} {σ : St} {H : Hp} {s : Shared} {dvs : List V} {ds : List Value} {x : Str} {p pos : Pos} {e : Expr} {es : List Expr} {t : TA}
theorem run_atG (F : FnOkG X.prog X.w X.K X.mg X.base CX k f fd ps sp) (qt : Quiet X.A) (hr : Room k X.A) (hb : Binds X.K fd ps ds) (hd : Vals dvs ds) (hx : Passes CX X E)
    (I : Inv X pins σ H s) {vs : List V} {us : List Value} {Q : VK} (r : Vals vs us) (h : sp (vs ++ dvs) H Q E) : wpAny (model X.prog X.w) X.A (call (.ref f) us) (EP X pins σ Q) X.xe s := by
  have rr : Vals (vs ++ dvs) (us ++ ds) := r.append hd
  refine wpAny_call (codeAny_mono (F.run X.A X.stack s H ⟨us, []⟩ (us ++ ds) (vs ++ dvs) Q E qt hr I.env0 (hb s us I.kIn (rr.length.symm.trans (F.len _ _ _ _ h))) rr h) fun res s' hq => ?_)
  match res, hq with
  | .error e, hq => exact hx pins σ H s e s' I hq
  | .ok (.ret u), hq => exact I.after hq
  | .ok .next, hq => exact False.elim hq
  | .ok .brk, hq => exact False.elim hq
  | .ok .cont, hq => exact False.elim hq
/-- f(e, ..), where nothing is being shown -/
theorem pe_callG (F : FnOkG X.prog X.w X.K X.mg X.base CX k f fd ps sp) (qt : Quiet X.A) (hr : Room k X.A) (hg : Gl X x) (hm : X.mg x = some (.ref f)) (hk : PySem.W.keepIn X.K (.ref f) = true) (hb : Binds X.K fd ps ds) (hd : Vals dvs ds) (hx : Passes CX X E)
    (ha : PA X (e :: es) t) (hdb : (x == ("__debug__" : Str)) = false := by decide) (he : starEach (e :: es) X.env = (false, eval e X.env) :: starEach es X.env := by rfl) (hpl : (backTo pos (starEach es X.env)).any (·.1) = false := by rfl) :
    PE X (.Call (.Name x p) (e :: es) [] pos) (tCall sp dvs E t) := by
  refine ⟨fun pins s σ H Q I h => wpAny_Call_Name_kw (ld_glob I hg hm ?_ hdb)⟩
  refine PySem.W.callWith_K (h₀ := X.base) I.ok.mod.kin hk (thn (ha.run pos pins s σ H _ I h) fun us s1 hh => ?_) he hpl
  obtain ⟨vs, H1, I1, r, q⟩ := hh
  exact ⟨I1.kIn, run_atG F qt hr hb hd hx I1 r q⟩
/-- repr of data -/
def rShow (K : PySem.W.Frag) : List V → Hp → VK → Prop := fun xs H Q => ∃ (a : Addr) (d : PyData), xs = [.ref a] ∧ Dp K H (.ref a) d ∧ d.showable = true ∧ d.hasDict = false ∧ d.depth ≤ 20 ∧ d.shown.length ≤ sizeLine ∧ Q (.str d.shown) H
theorem cr_show (qt : Quiet X.A) (hr : Room k X.A) : CallR X (.builtin "repr") (rShow X.K) := by
  intro pins s σ H xs us Q I r h
  obtain ⟨a, d, rfl, hd, h1, h2, h3, h4, q⟩ := h
  obtain ⟨u, rfl, ru⟩ := vals1 r
  obtain ⟨as, rd⟩ := Dp.reads I d (.ref a) u hd ru
  cases (show u = Value.ref a from ru)
  refine repr_of_reads' rd h1 (fun z => by rw [h2] at z; cases z) qt (by have := hr.units; omega) (fun _ _ z => z) (fun h' u tk hk => ?_) h4
  exact ⟨.str d.shown, H, I.kept (t' := tk) hk, ⟨_, rfl⟩, q⟩
end
end L2.G
set_option Elab.async false
set_option linter.all false
set_option maxRecDepth 100000
set_option maxHeartbeats 2000000
namespace L2.G
open PySem PySem.Spec PyProof.Rows
theorem quiet_caller : Quiet callerA := by first | rfl | decide
/-- the law's call from a heap in which the script alone is tracked -/
theorem call_from {P : Program} {w : World} {K : PySem.W.Frag} {mg mb : Str → Option Value} {k : Nat} {fa a : Addr} {fd : FuncData} {x : Str} {sp : Sp} {s₁ : Shared} {vs : List Value} {ns : List Int}
    (KX : K.In s₁.heap) (hns : s₁.heap.Ns mainGlobals mg) (hb : s₁.heap.Ns builtinsNs mb) (hbb : ∀ x : Str, x ≠ "__name__" → mb x = bootBuiltins x) (hlim : s₁.heap.NoLimit) (hg : s₁.gens = #[])
    (ha : s₁.heap.get? a = some { cls := .type "list", data := .seq vs.toArray }) (hr : Room k callerA)
    (F : ∀ base : Heap, K.In base → base.Ns mainGlobals mg → FnOkG P w K mg base CX0 k fa fd [x] sp) (hbind : ∀ (s : Shared) (u : Value), BindsTo s fd ⟨[u], []⟩ [(x, u)])
    (H : Hp) (hO : Only H) (hsp : sp [.ref a] H (fun v _ => v = .bl true) fun _ _ _ => False) (hok : HOk P w H s₁.heap) (hA : ∀ b, H b ≠ none → b = a) (hK : H a ≠ none → K.lookup a = none) :
    codeAny (model P w) callerA (.call (.ref fa) ⟨[.ref a], []⟩) (fun r s' => r = .ok (.ret (.bool true)) ∧ OldK s₁.heap s'.heap ∧ s'.os = s₁.os ∧ AllBare s'.gens) s₁ := by
  have isA : ∀ {b : Addr} {u : HO}, H b = some u → b = a := fun {b u} q => hA b (by rw [q]; exact fun z => nomatch z)
  have free : ∀ {b : Addr} {o : Obj} {es : Array DictEntry} {ep : Nat}, s₁.heap.get? b = some o → o.data = .dict es ep → H b = none := by
    intro b o es ep e d
    match q : H b with
    | none => rfl
    | some u =>
      rw [isA q, ha] at e
      cases e
      exact nomatch (show Data.seq vs.toArray _ = Data.dict es ep from d)
  have ns' : ∀ {b : Addr} {m : Str → Option Value}, s₁.heap.Ns b m → (hidT s₁.heap H).Ns b m := by
    rintro b m ⟨o, es, ep, e, d, r⟩
    exact ⟨o, es, ep, hidT_get e (free e d), d, r⟩
  have inB : K.In (hidT s₁.heap H) := by
    intro b o e
    refine hidT_get (KX b o e) ?_
    match q : H b with
    | none => rfl
    | some u =>
      have z := isA q
      subst z
      rw [hK (by rw [q]; exact fun z => nomatch z)] at e
      cases e
  have md : Mod K mg (hidT s₁.heap H) := by
    obtain ⟨mc, h1, h2⟩ := hlim
    exact ⟨inB, ns' hns, ⟨mb, ns' hb, hbb⟩, mc, ns' h1, h2⟩
  have e0 : Env0 P w K mg (hidT s₁.heap H) callerA [] s₁ H := ⟨rfl, md, fun _ _ e => of_hidT e, Nat.le_of_eq (hidT_size _ _), trivial, fun b hb => (nomatch (show b ∈ ([] : List Addr) from hb)), hok, .of_eq hg⟩
  refine codeAny_mono ((F _ inB (ns' hns)).run callerA [] s₁ H ⟨[.ref a], []⟩ [.ref a] [.ref a] _ _ quiet_caller hr e0 (hbind s₁ (.ref a)) (.cons rfl .nil) hsp) fun r s' h => ?_
  match r, h with
  | .error _, h => exact False.elim h
  | .ok .next, h => exact False.elim h
  | .ok .brk, h => exact False.elim h
  | .ok .cont, h => exact False.elim h
  | .ok (.ret u), ⟨v, H', os, bare, un, hok', r', q⟩ =>
    cases (show v = .bl true from q)
    cases (show u = Value.bool true from r')
    refine ⟨rfl, OldK.of_keep fun b o e => ?_, os, bare⟩
    rcases hO b with z | ⟨ob, xs, z⟩
    · exact un.keep b o e z (fun y => nomatch (show b ∈ ([] : List Addr) from y)) (fun y => nomatch y)
    · have e1 := (hok b _ z).1
      rw [e] at e1
      cases e1
      exact (hok' b _ (un.frzs b _ _ z)).1
theorem law_callG {P : Program} {w : World} {K : PySem.W.Frag} {mg mb : Str → Option Value} {k : Nat} {fa a : Addr} {fd : FuncData} {x : Str} {sp : Sp} {s₁ : Shared} {vs : List Value} {ns : List Int}
    (KX : K.In s₁.heap) (hns : s₁.heap.Ns mainGlobals mg) (hb : s₁.heap.Ns builtinsNs mb) (hbb : ∀ x : Str, x ≠ "__name__" → mb x = bootBuiltins x) (hlim : s₁.heap.NoLimit) (hg : s₁.gens = #[])
    (ha : s₁.heap.get? a = some { cls := .type "list", data := .seq vs.toArray }) (hi : IntsAre vs ns) (hl : ns.length ≤ sizeLine) (hr : Room k callerA)
    (F : ∀ base : Heap, K.In base → base.Ns mainGlobals mg → FnOkG P w K mg base CX0 k fa fd [x] sp) (hbind : ∀ (s : Shared) (u : Value), BindsTo s fd ⟨[u], []⟩ [(x, u)])
    (hsp : ∀ H : Hp, Only H → SqL K H a (ns.map V.int) → sp [.ref a] H (fun v _ => v = .bl true) fun _ _ _ => False) :
    codeAny (model P w) callerA (.call (.ref fa) ⟨[.ref a], []⟩) (fun r s' => r = .ok (.ret (.bool true)) ∧ OldK s₁.heap s'.heap ∧ s'.os = s₁.os ∧ AllBare s'.gens) s₁ := by
  have go := call_from (P := P) (w := w) (sp := sp) KX hns hb hbb hlim hg ha hr F hbind (ns := ns)
  match hk : K.lookup a with
  | some o =>
    have e := KX a o hk
    rw [ha] at e
    cases e
    refine go (fun _ => none) (fun _ => .inl rfl) (hsp _ (fun _ => .inl rfl) (.inr ⟨_, vs.toArray, _, hk, rfl, rfl, rfl, ?_, ?_⟩)) (fun _ _ z => nomatch z) (fun b z => absurd rfl z) fun z => absurd rfl z
    · rw [List.size_toArray, hi.length]
      exact hl
    · simpa using vals_ints hi
  | none =>
    let H : Hp := fun b => if b = a then some (.frz { cls := .type "list", data := .seq vs.toArray } (.lst (ns.map V.int))) else none
    have at_ : H a = some (.frz { cls := .type "list", data := .seq vs.toArray } (.lst (ns.map V.int))) := if_pos rfl
    have off : ∀ b, b ≠ a → H b = none := fun b n => if_neg n
    have only : Only H := fun b => by
      by_cases n : b = a
      · exact n ▸ .inr ⟨_, _, at_⟩
      · exact .inl (off b n)
    refine go H only (hsp H only (.inl (.inr ⟨_, at_⟩))) (fun b u z => ?_) (fun b z => ?_) fun _ => hk
    · by_cases n : b = a
      · subst n
        rw [at_] at z
        cases z
        refine ⟨ha, ?_, vs, _, vals_ints hi, ha⟩
        rw [List.length_map]
        exact hl
      · rw [off b n] at z
        cases z
    · by_cases n : b = a
      · exact n
      · exact absurd (off b n) z
/-- the end of a law whose defs show things -/
theorem walk_ofG {l : PySem.W.OpenLaw} {n k : Nat} {q : Program} {loose : List Str} {XP : (Str → Option Value) → Heap → Prop} {YP : World → Heap → Prop} {d : DefRec} {K : Params → PySem.W.Frag} {sp : World → Sp} {x : Str}
    (hn : l.most = some n) (hn2 : n ≤ sizeLine) (hdf : d.params.defaults = []) (hr : Room k callerA) (hY : ∀ (w : World) (h : Heap), YP w h → (K w.params).In h)
    (F : ∀ (w : World) (mg : Str → Option Value) (fa : Addr) (h : Heap), (K w.params).In h → h.Ns mainGlobals mg → mg d.name = some (.ref fa) →
      ∃ fd : FuncData, (∀ (s : Shared) (u : Value), BindsTo s fd ⟨[u], []⟩ [(x, u)]) ∧ ∀ base : Heap, (K w.params).In base → base.Ns mainGlobals mg → FnOkG l.prog w (K w.params) mg base CX0 k fa fd [x] (sp w))
    (hsp : ∀ (w : World) (H : Hp) (a : Addr) (ns : List Int), ns.length ≤ n → Only H → SqL (K w.params) H a (ns.map V.int) → sp w [.ref a] H (fun v _ => v = .bl true) fun _ _ _ => False) :
    PySem.W.WalkO q loose XP YP l.row.toRowW d [] (fun f vs => PySem.call f vs) := by
  refine Att.attach_call hn hdf fun w s₀ s₁ mg mb fa o pm cd doc a vs ns G Y ho hd hcd hmg hobj hints hlen hg => ?_
  have inK := hY w _ Y
  obtain ⟨fd, hbi, hF⟩ := F w mg fa _ inK G.T.g hmg
  exact law_callG inK G.T.g G.T.b G.T.builtins G.T.nolimit hg hobj hints (Nat.le_trans hlen hn2) hr hF hbi fun H hO hS => hsp w H a ns hlen hO hS
end L2.G
set_option Elab.async false
set_option linter.all false
set_option maxRecDepth 100000
set_option maxHeartbeats 2000000
namespace L2.G
open PySem PySem.Spec PyProof.Rows
/-! bundles: a def, a class, a method by what it promises -/
structure CalG (P : Program) (w : World) (K : PySem.W.Frag) (mg : Str → Option Value) (base : Heap) (k : Nat) (x : Str) (sp : Sp) : Prop where
  ex : ∃ (f : Addr) (fd : FuncData) (ps : List Str), FnOkG P w K mg base CX0 k f fd ps sp ∧ mg x = some (.ref f) ∧ PySem.W.keepIn K (.ref f) = true ∧ Binds K fd ps []
structure MakK (P : Program) (w : World) (K : PySem.W.Frag) (mg : Str → Option Value) (base : Heap) (k : Nat) (x : Str) (C : Addr) (ks : List Str) (gV : List V → List V → List V) (sp : Sp) : Prop where
  ex : ∃ (f : Addr) (fd : FuncData) (ps : List Str) (g : List Value → List Value → List Value), Mk K C f ∧ FnOk P w K mg base CX0 k f fd ps sp ∧ mg x = some (.ref C) ∧ KBn K fd ps 1 ks g gV
structure MetK (P : Program) (w : World) (K : PySem.W.Frag) (mg : Str → Option Value) (base : Heap) (k : Nat) (C : Addr) (m : Str) (ks : List Str) (gV : List V → List V → List V) (sp : Sp) : Prop where
  ex : ∃ (f : Addr) (fd : FuncData) (ps : List Str) (g : List Value → List Value → List Value), Cls K C ∧ Meth K C m f ∧ FnOk P w K mg base CX0 k f fd ps sp ∧ KBn K fd ps 1 ks g gV
structure Spc (P : Program) (w : World) (K : PySem.W.Frag) (mg : Str → Option Value) (base : Heap) (k : Nat) (C : Addr) (m : Str) (sp : Sp) : Prop where
  ex : ∃ (f : Addr) (fd : FuncData) (ps : List Str), PySem.W.findIn K (.ref C) m = some (some (.ref f)) ∧ PySem.W.isFn K (.ref f) = true ∧ FnOk P w K mg base CX0 k f fd ps sp ∧ Binds K fd ps []
structure Prp (P : Program) (w : World) (K : PySem.W.Frag) (mg : Str → Option Value) (base : Heap) (k : Nat) (C : Addr) (m : Str) (sp : Sp) : Prop where
  ex : ∃ (p f : Addr) (fd : FuncData) (ps : List Str), Cls K C ∧ PropOf K C m p f ∧ FnOk P w K mg base CX0 k f fd ps sp ∧ Binds K fd ps []
section
variable {X : Cx} {k j : Nat} {C : Addr} {sp : Sp} {x m : Str} {p pos apos : Pos} {e o : Expr} {es : List Expr} {t tk : TA} {ta : TE} {kws : List Keyword} {ks : List Str} {gV : List V → List V → List V}
theorem pe_cG (c : CalG X.prog X.w X.K X.mg X.base k x sp) (qt : Quiet X.A) (hr : Room j X.A) (hk : k ≤ j) (hg : Gl X x) (ha : PA X (e :: es) t)
    (hdb : (x == ("__debug__" : Str)) = false := by decide) (he : starEach (e :: es) X.env = (false, eval e X.env) :: starEach es X.env := by rfl) (hpl : (backTo pos (starEach es X.env)).any (·.1) = false := by rfl) :
    PE X (.Call (.Name x p) (e :: es) [] pos) (tCall sp [] E0 t) := by
  obtain ⟨f, fd, ps, F, hm, kp, b⟩ := c.ex
  exact pe_callG F qt (hr.mono hk) hg hm kp b .nil pass0 ha hdb he hpl
theorem pe_mkK0 (c : MakK X.prog X.w X.K X.mg X.base k x C ks gV sp) (hr : Room j X.A) (hk : k + 1 ≤ j) (hg : Gl X x) (hkw : PK X kws tk)
    (hall : (backToKw pos (keywordEach kws X.env)).all (·.1.isSome) = true := by rfl) (hks : (backToKw pos (keywordEach kws X.env)).filterMap (·.1) = ks := by rfl) (hdb : (x == ("__debug__" : Str)) = false := by decide)
    (hpl : ((backTo pos (starEach [] X.env)).any (·.1) || (backToKw pos (keywordEach kws X.env)).any (·.1.isNone)) = false := by rfl) :
    PE X (.Call (.Name x p) [] kws pos) (tMakeK C 0 ks.length sp gV E0 tNil tk) := by
  obtain ⟨f, fd, ps, g, M, F, hm, b⟩ := c.ex
  exact pe_makeK0 M F (hr.mono hk) hg hm b pass0 hkw hall hks hdb hpl
/-- o.m(k = v, ..) -/
def tMethK (C : Addr) (m : Str) (n : Nat) (sp : Sp) (gV : List V → List V → List V) (ta : TE) (tk : TA) : TE := fun σ H Q => ta σ H fun x H1 => ∃ a dx fs, x = .ref a ∧ H1 a = some (.ins C dx fs) ∧ fs.lookup m = none ∧ tk σ H1 fun zs H2 => zs.length = n ∧ sp (gV [.ref a] zs) H2 Q E0
theorem pe_mtK {pl : Sem Bool} (c : MetK X.prog X.w X.K X.mg X.base k C m ks gV sp) (hr : Room j X.A) (hk : k ≤ j) (he : PE X o ta) (hkw : PK X kws tk)
    (hall : (backToKw pos (keywordEach kws X.env)).all (·.1.isSome) = true := by rfl) (hks : (backToKw pos (keywordEach kws X.env)).filterMap (·.1) = ks := by rfl)
    (hpl : ((backTo pos (starEach [] X.env)).any (·.1) || (backToKw pos (keywordEach kws X.env)).any (·.1.isNone)) = false := by rfl)
    (ht : eval (.Call (.Attribute o m apos) [] kws pos) X.env = (do
      let ov ← eval o X.env
      standAt apos.atName
      let (f, first) ← holding [ov] (getMethod ov m pl)
      callWith pos f first (backTo pos (starEach [] X.env)) (backToKw pos (keywordEach kws X.env))) := by rfl) :
    PE X (.Call (.Attribute o m apos) [] kws pos) (tMethK C m ks.length sp gV ta tk) := by
  obtain ⟨f, fd, ps, g, cl, hm, F, b⟩ := c.ex
  refine ⟨fun pins s σ H Q I h => PySem.W.methodCall_KW (pl := pl) (thn (he.run pins s σ H _ I h) fun u s1 hh => ?_) ht⟩
  obtain ⟨y, H1, I1, rx, a, dx, fs, ex, ea, l, q⟩ := hh
  subst ex
  cases (show u = Value.ref a from rx)
  refine getmeth_ok I1 ea cl hm l (PySem.W.callWith_KW0 (first := [.ref a]) (h₀ := X.base) I.ok.mod.kin hm.kp hall (thn (hkw.run pos pins s1 σ H1 _ I1 q) fun ws s2 hz => ?_) hpl)
  obtain ⟨zs, H2, I2, rz, l2, q2⟩ := hz
  refine ⟨I2.kIn, ?_⟩
  rw [hks]
  exact run_fnN (vs := [.ref a]) F (hr.mono hk) b pass0 I2 (.cons rfl .nil) rz rfl l2 q2
theorem pe_pr (c : Prp X.prog X.w X.K X.mg X.base k C m sp) (hr : Room j X.A) (hk : k + 1 ≤ j) (he : PE X e ta) (hab : attributeBase e m X.env (eval e X.env) = eval e X.env := by rfl) : PE X (.Attribute e m pos) (tProp C sp [] E0 ta) := by
  obtain ⟨p, f, fd, ps, cl, hp, F, b⟩ := c.ex
  exact pe_prop he cl hp F (hr.mono hk) b .nil (fun _ _ _ _ _ _ _ h => h.elim) hab
theorem sp_len (c : Spc X.prog X.w X.K X.mg X.base k C "__len__" sp) (hr : Room j X.A) (hk : k + 1 ≤ j) : CallR X (.builtin "len") (rLenI C sp E0) := by
  obtain ⟨f, fd, ps, h1, h2, F, b⟩ := c.ex
  exact cr_lenI F b pass0 (hr.mono hk) h1 h2
theorem sp_repr (c : Spc X.prog X.w X.K X.mg X.base k C "__repr__" sp) (hr : Room j X.A) (hk : k + 1 ≤ j) : CallR X (.builtin "repr") (rTxtI C sp E0) := by
  obtain ⟨f, fd, ps, h1, h2, F, b⟩ := c.ex
  exact cr_reprI F b pass0 (hr.mono hk) h1 h2
theorem sp_str (c : Spc X.prog X.w X.K X.mg X.base k C "__str__" sp) (hr : Room j X.A) (hk : k + 2 ≤ j) : CallR X (.type "str") (rTxtI C sp E0) := by
  obtain ⟨f, fd, ps, h1, h2, F, b⟩ := c.ex
  exact cr_strI F b pass0 (hr.mono hk) h1 h2
theorem sp_eq (c : Spc X.prog X.w X.K X.mg X.base k C "__eq__" sp) (hr : Room j X.A) (hk : k ≤ j) : OpR X (compareOp .Eq) (rEqI C sp E0 (NotSub X.K C) id) := by
  obtain ⟨f, fd, ps, h1, h2, F, b⟩ := c.ex
  exact op_eqI F b pass0 (hr.mono hk) h1 h2
theorem sp_ne (c : Spc X.prog X.w X.K X.mg X.base k C "__eq__" sp) (hm : PySem.W.mroIn X.K C (.type "object") = some true) (hne : PySem.W.findIn X.K (.ref C) "__ne__" = some (some (.builtin "object.__ne__"))) (hr : Room j X.A) (hk : k + 2 ≤ j) :
    OpR X (compareOp .NotEq) (rEqI C sp E0 (NotSub X.K C) fun b => !b) := by
  obtain ⟨f, fd, ps, h1, h2, F, b⟩ := c.ex
  exact op_neI F b pass0 (hr.mono hk) hm hne h1 h2
theorem sp_tru (c : Spc X.prog X.w X.K X.mg X.base k C "__len__" sp) (hn : PySem.W.findIn X.K (.ref C) "__bool__" = some none) (hr : Room j X.A) (hk : k + 1 ≤ j) : TruR X (rTruI C sp E0) := by
  obtain ⟨f, fd, ps, h1, h2, F, b⟩ := c.ex
  exact tr_lenI F b pass0 (hr.mono hk) hn h1 h2
end
/-- names that are still the built-in ones -/
structure Bn (mg : Str → Option Value) : Prop where
  len : mg "len" = none
  range : mg "range" = none
  str : mg "str" = none
  int : mg "int" = none
  abs : mg "abs" = none
  divmod : mg "divmod" = none
  all : mg "all" = none
  any : mg "any" = none
  repr : mg "repr" = none
  isinstance : mg "isinstance" = none
  max : mg "max" = none
  min : mg "min" = none
  bool : mg "bool" = none
  tuple : mg "tuple" = none
  list : mg "list" = none
  enumerate : mg "enumerate" = none
  zip : mg "zip" = none
  sorted : mg "sorted" = none
  sum : mg "sum" = none
end L2.G
set_option Elab.async false
set_option linter.all false
set_option maxRecDepth 100000
set_option maxHeartbeats 2000000
namespace L2.G
open PySem PySem.Spec PyProof.Rows
section
variable {X : Cx}
theorem PE_imp {e : Expr} {t t' : TE} (h : PE X e t) (m : ∀ σ H Q, t' σ H Q → t σ H Q) : PE X e t' := ⟨fun pins s σ H Q I q => h.run pins s σ H Q I (m σ H Q q)⟩
theorem IxR_imp {r r' : R2} (h : IxR X r) (m : ∀ x y H Q, r' x y H Q → r x y H Q) : IxR X r' := by
  intro a1 a2 a3 a4 a5 a6 a7 a8 a9 a10 a11 a12 a13 a14 q
  first
    | exact h a1 a2 a3 a4 a5 a6 a7 a8 a9 a10 a11 a12 a13 a14 (m _ _ _ _ q)
    | trace_state
theorem PSet_imp {t t' : TSet} (h : PSet X t) (m : ∀ o i v H Q, t' o i v H Q → t o i v H Q) : PSet X t' := fun pins s σ H o i v ov iv u Q I r1 r2 r3 q => h pins s σ H o i v ov iv u Q I r1 r2 r3 (m o i v H Q q)
theorem CallR_imp {f : Value} {r r' : List V → Hp → VK → Prop} (h : CallR X f r) (m : ∀ xs H Q, r' xs H Q → r xs H Q) : CallR X f r' := fun pins s σ H xs us Q I rx q => h pins s σ H xs us Q I rx (m xs H Q q)
theorem OpR_imp {f : Value → Value → Sem Value} {r r' : R2} (h : OpR X f r) (m : ∀ x y H Q, r' x y H Q → r x y H Q) : OpR X f r' := fun pins s σ H x y v u Q I rx ry q => h pins s σ H x y v u Q I rx ry (m x y H Q q)
/-- xs[i] of a tracked list or tuple, by reckoning -/
def cIx : R2 := fun x y H Q => match x, y with
  | .ref p, .int i => match H p with
    | some (.lst xs) => match atI xs i with
      | some v => Q v H
      | none => False
    | some (.tup xs) => match atI xs i with
      | some v => Q v H
      | none => False
    | _ => False
  | _, _ => False
theorem ix_c : IxR X cIx := by
  refine IxR_imp (IxR.or ix_list ix_tup) fun x y H Q q => ?_
  cases x <;> cases y <;> try exact q.elim
  rename_i p i
  unfold cIx at q
  dsimp only at q
  split at q
  · rename_i xs e
    split at q
    · rename_i v e2
      exact .inl ⟨p, xs, i, v, rfl, rfl, .inl (.inl e), e2, q⟩
    · exact q.elim
  · rename_i xs e
    split at q
    · rename_i v e2
      exact .inr ⟨p, xs, i, v, rfl, rfl, .inl (.inl e), e2, q⟩
    · exact q.elim
  · exact q.elim
/-- xs[i] = v of a tracked list -/
def cSet : TSet := fun o i v H Q => match o, i with
  | .ref p, .int k => match H p with
    | some (.lst xs) => match ixN xs.length k with
      | some j => Q (upd H p (.lst (xs.set j v)))
      | none => False
    | _ => False
  | _, _ => False
theorem set_c : PSet X cSet := by
  refine PSet_imp set_list fun o i v H Q q => ?_
  cases o <;> cases i <;> try exact q.elim
  rename_i p k
  unfold cSet at q
  dsimp only at q
  split at q
  · rename_i xs e
    split at q
    · rename_i j e2
      exact ⟨p, xs, k, j, rfl, rfl, e, e2, q⟩
    · exact q.elim
  · exact q.elim
/-- len of a text, a tracked list or tuple -/
def cLen : List V → Hp → VK → Prop := fun xs H Q => match xs with
  | [.str z] => z.length ≤ sizeLine ∧ Q (.int z.length) H
  | [.ref p] => match H p with
    | some (.lst ys) => Q (.int ys.length) H
    | some (.tup ys) => Q (.int ys.length) H
    | _ => False
  | _ => False
theorem len_c : CallR X (.builtin "len") cLen := by
  refine CallR_imp call_len fun xs H Q q => ?_
  match xs, q with
  | [.str z], q => exact ⟨.str z, z.length, rfl, ⟨q.1, rfl⟩, q.2⟩
  | [.ref p], q =>
    unfold cLen at q
    dsimp only at q
    split at q
    · rename_i ys e
      exact ⟨.ref p, ys.length, rfl, .inl ⟨ys, .inl (.inl e), rfl⟩, q⟩
    · rename_i ys e
      exact ⟨.ref p, ys.length, rfl, .inr ⟨ys, .inl (.inl e), rfl⟩, q⟩
    · exact q.elim
/-- int(n) of an int -/
def cInt : List V → Hp → VK → Prop := fun xs H Q => match xs with
  | [.int i] => Q (.int i) H
  | _ => False
theorem int_c : CallR X (.type "int") cInt := by
  refine CallR_imp call_int1 fun xs H Q q => ?_
  match xs, q with
  | [.int i], q => exact .inl ⟨i, rfl, q⟩
/-- o.f of a tracked instance -/
def cFld (C : Addr) (ta : TE) (f : Str) : TE := fun σ H Q => ta σ H fun x H1 => match x with
  | .ref a => match H1 a with
    | some (.ins C' dx fs) => C' = C ∧ match fs.lookup f with
      | some v => Q v H1
      | none => False
    | _ => False
  | _ => False
theorem pe_fldC {e : Expr} {ta : TE} {f : Str} {C : Addr} {pos : Pos} (c : Cls X.K C) (n : NoAttr X.K C f) (he : PE X e ta) (mono : ∀ σ H Q Q', (∀ v H', Q v H' → Q' v H') → ta σ H Q → ta σ H Q') (hb : attributeBase e f X.env (eval e X.env) = eval e X.env := by rfl) :
    PE X (.Attribute e f pos) (cFld C ta f) := by
  refine PE_imp (pe_fld he hb) fun σ H Q q0 => mono σ H _ _ (fun x H1 q => ?_) q0
  cases x <;> try exact q.elim
  rename_i a
  dsimp only at q
  split at q
  · rename_i C' dx fs e
    obtain ⟨rfl, q⟩ := q
    split at q
    · rename_i v e2
      exact ⟨a, C', dx, fs, v, rfl, e, c, n, e2, q⟩
    · exact q.elim
  · exact q.elim
theorem mono_var {i : Nat} : ∀ σ H (Q Q' : VK), (∀ v H', Q v H' → Q' v H') → tVar i σ H Q → tVar i σ H Q' := fun σ H Q Q' m ⟨v, e, q⟩ => ⟨v, e, m _ _ q⟩
/-- divmod of two ints -/
def cDivmod : List V → Hp → VK → Prop := fun xs H Q => match xs with
  | [.int i, .int j] => CDiv i j ∧ ∀ p, H p = none → Q (.ref p) (upd H p (.tup [.int (i / j), .int (i % j)]))
  | _ => False
theorem divmod_c : CallR X (.builtin "divmod") cDivmod := by
  refine CallR_imp call_divmod fun xs H Q q => ?_
  match xs, q with
  | [.int i, .int j], q => exact ⟨i, j, rfl, q⟩
/-- a, b = .. of a tracked tuple -/
def cTup (n : Nat) (t : TGs) : TG := fun v σ H Q => match v with
  | .ref a => match H a with
    | some (.tup xs) => xs.length = n ∧ t xs σ H Q
    | _ => False
  | _ => False
theorem pg_tupC (n : Nat) {es : List Expr} {k : Nat} {t : TGs} {pos : Pos} (hc : X.calm = true) (h : PGs X es t) (hn : (assignEach es X.env).length = n := by rfl) (hst : (assignEach es X.env).findIdx? (·.1) = none := by rfl) : PG X (.Tuple es k pos) (cTup n t) := by
  refine ⟨fun pins s σ H v u Q I r q => ?_⟩
  refine (pg_tup hc h hn hst).run pins s σ H v u Q I r ?_
  cases v <;> try exact q.elim
  rename_i a
  unfold cTup at q
  dsimp only at q
  split at q
  · rename_i xs e
    exact ⟨a, xs, rfl, .inl (.inl e), q⟩
  · exact q.elim
/-- the name of a value's type -/
def tyN (H : Hp) : V → Option String
  | .non => some "NoneType"
  | .bl _ => some "bool"
  | .int _ => some "int"
  | .str _ => some "str"
  | .ref a => match H a with
    | some (.lst _) => some "list"
    | some (.tup _) => some "tuple"
    | some (.dK _) => some "dict"
    | _ => none
  | _ => none
theorem tyN_ref {H : Hp} {a : Addr} {t : String} (h : tyN H (.ref a) = some t) : (∃ xs, H a = some (.lst xs) ∧ t = "list") ∨ (∃ xs, H a = some (.tup xs) ∧ t = "tuple") ∨ ∃ kvs, H a = some (.dK kvs) ∧ t = "dict" := by
  unfold tyN at h
  dsimp only at h
  split at h
  · rename_i e; exact .inl ⟨_, e, (Option.some.inj h).symm⟩
  · rename_i e; exact .inr (.inl ⟨_, e, (Option.some.inj h).symm⟩)
  · rename_i e; exact .inr (.inr ⟨_, e, (Option.some.inj h).symm⟩)
  · cases h
def tyNs : List String := ["NoneType", "bool", "int", "str", "list", "tuple", "dict"]
theorem tyN_mem {H : Hp} {x : V} {t : String} (h : tyN H x = some t) : t ∈ tyNs := by
  unfold tyN at h
  cases x <;> simp only [Option.some.injEq, reduceCtorEq] at h <;> try (subst h; decide)
  split at h <;> simp only [Option.some.injEq, reduceCtorEq] at h <;> (subst h; decide)
theorem tyN_ty {K : PySem.W.Frag} {H : Hp} {x : V} {t : String} (h : tyN H x = some t) : TyX K H x (.type t) := by
  unfold tyN at h
  cases x <;> simp only [Option.some.injEq, reduceCtorEq] at h
  · subst h; exact .base .non
  · subst h; exact .base (.bl _)
  · subst h; exact .base (.int _)
  · subst h; exact .base (.str _)
  · split at h <;> simp only [Option.some.injEq, reduceCtorEq] at h <;> subst h
    · rename_i e; exact .base (.lst e)
    · rename_i e; exact .base (.tup e)
    · rename_i e; exact .base (.dK e)
def isB (a b : String) : Bool := a == b || (a == "bool" && b == "int")
/-- isinstance(x, T), T of a built-in type -/
def cIsiB (T : String) : List V → Hp → VK → Prop := fun xs H Q => match xs with
  | [x, .ty T'] => T' = T ∧ match tyN H x with
    | some t => Q (.bl (isB t T)) H
    | none => False
  | _ => False
theorem isi_c (T : String) (hT : ∀ t ∈ tyNs, kitB t T = some (isB t T)) : CallR X (.builtin "isinstance") (cIsiB T) := by
  refine CallR_imp call_isi fun xs H Q q => ?_
  match xs, q with
  | [x, .ty T'], ⟨e, q⟩ =>
    subst e
    split at q
    · rename_i t e
      exact ⟨x, .ty T', .type t, .type T', _, rfl, .ty T', tyN_ty e, kit_ty (hT t (tyN_mem e)), q⟩
    · exact q.elim
theorem isi_int : CallR X (.builtin "isinstance") (cIsiB "int") := isi_c _ (by decide +kernel)
theorem isi_str : CallR X (.builtin "isinstance") (cIsiB "str") := isi_c _ (by decide +kernel)
theorem isi_bool : CallR X (.builtin "isinstance") (cIsiB "bool") := isi_c _ (by decide +kernel)
theorem isi_tuple : CallR X (.builtin "isinstance") (cIsiB "tuple") := isi_c _ (by decide +kernel)
/-- a class of one's own as isinstance wants it -/
structure InC (K : PySem.W.Frag) (C : Addr) : Prop where
  cl : Cls K C
  at_ : PySem.W.findIn K (.ref C) "__class__" = some (some (.builtin "object.__class__"))
  mro : PySem.W.mroIn K C (.type "object") = some true
  no : ∀ t ∈ tyNs, PySem.W.kitOne K (.type t) (.ref C) = some false
/-- isinstance(x, C) -/
def cIsiC (C : Addr) : List V → Hp → VK → Prop := fun xs H Q => match xs with
  | [x, .ref C'] => C' = C ∧ match x with
    | .ref a => match H a with
      | some (.ins D _ _) => D = C ∧ Q (.bl true) H
      | _ => match tyN H (.ref a) with
        | some _ => Q (.bl false) H
        | none => False
    | x => match tyN H x with
      | some _ => Q (.bl false) H
      | none => False
  | _ => False
end
section
variable {X : Cx}
theorem isi_own {C : Addr} (c : InC X.K C) (hn : PySem.W.specialIn X.K (.builtin "object.__class__") "__get__" = some (some (.builtin "getset_descriptor.__get__"))) (htk : PySem.W.takesIn X.K (.builtin "object.__class__") = some true) :
    CallR X (.builtin "isinstance") (cIsiC C) := by
  refine CallR_imp call_isi fun xs H Q q0 => ?_
  have other : ∀ x t, tyN H x = some t → Q (.bl false) H → rIsi X.K [x, .ref C] H Q := fun x t e q => ⟨x, .ref C, .type t, .ref C, false, rfl, .own C, tyN_ty e, c.no t (tyN_mem e), q⟩
  have kind : ∀ x, (match tyN H x with | some _ => Q (.bl false) H | none => False) → rIsi X.K [x, .ref C] H Q := fun x q => by
    split at q
    · rename_i t e
      exact other x t e q
    · exact q.elim
  match xs, q0 with
  | [x, .ref C'], ⟨e, q⟩ =>
    subst e
    cases x <;> try exact kind _ q
    rename_i a
    dsimp only at q
    split at q
    · rename_i D dx fs e
      obtain ⟨rfl, q⟩ := q
      exact ⟨.ref a, .ref D, .ref D, .ref D, true, rfl, .own D, .base (.ins e c.cl c.at_ hn htk c.mro), by simp [PySem.W.kitOne], q⟩
    · exact kind _ q
end
section
variable {X : Cx}
theorem pe_gi {x : Str} {n : Int} {pos : Pos} (h : ∃ t, X.mg x = some (.int n t)) (hg : Gl X x := by rfl) (hd : (x == ("__debug__" : Str)) = false := by decide) : PE X (.Name x pos) (tC (.int n)) := by
  obtain ⟨t, h⟩ := h
  exact pe_glob hg h ⟨t, rfl⟩ hd
theorem pe_gs {x z : Str} {pos : Pos} (h : ∃ t, X.mg x = some (.str z t)) (hg : Gl X x := by rfl) (hd : (x == ("__debug__" : Str)) = false := by decide) : PE X (.Name x pos) (tC (.str z)) := by
  obtain ⟨t, h⟩ := h
  exact pe_glob hg h ⟨t, rfl⟩ hd
/-- a place where ways meet: P is what holds behind the statement -/
def tCut (t : TS) : TS := fun D σ H => ∃ R : St → Hp → Prop, t { D with nx := R } σ H ∧ ∀ σ' H', R σ' H' → D.nx σ' H'
theorem SP_nx {pins : List (Addr × Obj)} {D : Ends} {R : St → Hp → Prop} (m : ∀ σ' H', R σ' H' → D.nx σ' H') {f : Flow} {s' : Shared} (h : SP X pins { D with nx := R } f s') : SP X pins D f s' := by
  cases f with
  | next =>
    obtain ⟨σ', H', I, q⟩ := h
    exact ⟨σ', H', I, m _ _ q⟩
  | brk => exact h
  | cont => exact h
  | ret u => exact h
theorem ps_cut {st : Stmt} {t : TS} (h : PS X st t) : PS X st (tCut t) := by
  refine ⟨fun pins s σ H D I q => ?_⟩
  obtain ⟨R, q, m⟩ := q
  exact thn (h.run pins s σ H { D with nx := R } I q) fun f s' z => SP_nx m z
/-- a place where ways meet in an expression -/
def eCut (t : TE) : TE := fun σ H Q => ∃ R : VK, t σ H R ∧ ∀ v H', R v H' → Q v H'
theorem pe_cut {e : Expr} {t : TE} (h : PE X e t) : PE X e (eCut t) := by
  refine ⟨fun pins s σ H Q I q => ?_⟩
  obtain ⟨R, q, m⟩ := q
  refine thn (h.run pins s σ H R I q) fun u s' z => ?_
  obtain ⟨v, H', I', r, z⟩ := z
  exact ⟨v, H', I', r, m _ _ z⟩
def aCut (t : TT) : TT := fun σ H Q => ∃ R : Bool → Hp → Prop, t σ H R ∧ ∀ v H', R v H' → Q v H'
theorem pt_cut {e : Expr} {t : TT} (h : PT X e t) : PT X e (aCut t) := by
  refine ⟨fun pins s σ H Q I q => ?_⟩
  obtain ⟨R, q, m⟩ := q
  refine thn (h.run pins s σ H R I q) fun u s' z => ?_
  obtain ⟨H', I', z⟩ := z
  exact ⟨H', I', m _ _ z⟩
end
theorem isB_NoneType_int : isB "NoneType" "int" = false := by decide
theorem isB_NoneType_str : isB "NoneType" "str" = false := by decide
theorem isB_NoneType_bool : isB "NoneType" "bool" = false := by decide
theorem isB_NoneType_tuple : isB "NoneType" "tuple" = false := by decide
theorem isB_bool_int : isB "bool" "int" = true := by decide
theorem isB_bool_str : isB "bool" "str" = false := by decide
theorem isB_bool_bool : isB "bool" "bool" = true := by decide
theorem isB_bool_tuple : isB "bool" "tuple" = false := by decide
theorem isB_int_int : isB "int" "int" = true := by decide
theorem isB_int_str : isB "int" "str" = false := by decide
theorem isB_int_bool : isB "int" "bool" = false := by decide
theorem isB_int_tuple : isB "int" "tuple" = false := by decide
theorem isB_str_int : isB "str" "int" = false := by decide
theorem isB_str_str : isB "str" "str" = true := by decide
theorem isB_str_bool : isB "str" "bool" = false := by decide
theorem isB_str_tuple : isB "str" "tuple" = false := by decide
theorem isB_list_int : isB "list" "int" = false := by decide
theorem isB_list_str : isB "list" "str" = false := by decide
theorem isB_list_bool : isB "list" "bool" = false := by decide
theorem isB_list_tuple : isB "list" "tuple" = false := by decide
theorem isB_tuple_int : isB "tuple" "int" = false := by decide
theorem isB_tuple_str : isB "tuple" "str" = false := by decide
theorem isB_tuple_bool : isB "tuple" "bool" = false := by decide
theorem isB_tuple_tuple : isB "tuple" "tuple" = true := by decide
theorem isB_dict_int : isB "dict" "int" = false := by decide
theorem isB_dict_str : isB "dict" "str" = false := by decide
theorem isB_dict_bool : isB "dict" "bool" = false := by decide
theorem isB_dict_tuple : isB "dict" "tuple" = false := by decide
theorem upd_at {H : Hp} {a b : Addr} {o : HO} : upd H a o b = if b = a then some o else H b := rfl
theorem atI0 (v : V) (xs : List V) : atI (v :: xs) 0 = some v := atI_nat (j := 0) rfl
theorem atI1 (v u : V) (xs : List V) : atI (v :: u :: xs) 1 = some u := atI_nat (j := 1) rfl
theorem ixN20 : ixN 2 0 = some 0 := by decide
theorem ixN21 : ixN 2 1 = some 1 := by decide
end L2.G
set_option Elab.async false
set_option linter.all false
set_option maxRecDepth 100000
set_option maxHeartbeats 2000000
namespace L2.G
open PySem PySem.Spec PyProof.Rows
section
variable {K : PySem.W.Frag} {t : TE} {g : TG} {tb : TS} {D : Ends} {σ : St} {H : Hp}
/-- for x in range(e) -/
theorem for_rngC (n : Nat) (ev : t σ H fun v H1 => v = .int n ∧ H1 = H) (hn : n < 2 ^ 62) (Pv : Nat → St → Hp → Prop) (h0 : Pv 0 σ H)
    (turn : ∀ (i : Nat) σ H, i < n → Pv i σ H → g (.int i) σ H fun σ2 H2 => tb { D with nx := Pv (i + 1), ct := Pv (i + 1), bk := D.nx } σ2 H2) (fin : ∀ σ H, Pv n σ H → D.nx σ H) :
    tFor (iRng1 (tCons (eCut t) tNil)) g tb D σ H := by
  refine ⟨_, ev, ?_⟩
  rintro _ _ ⟨rfl, rfl⟩
  have e : ((n : Int)).toNat = n := Int.toNat_natCast n
  refine ⟨n, rfl, by omega, by omega, ?_⟩
  rw [e]
  refine for_range (lo := 0) (n := n) Pv h0 (fun i σ H hi p => ?_) fin
  rw [Int.zero_add]
  exact turn i σ H hi p
/-- for x in e, a list -/
theorem for_lstC (R : VK) (ev : t σ H R) (go : ∀ v H1, R v H1 → ∃ (a : Addr) (xs : List V) (Pv : Nat → St → Hp → Prop), v = .ref a ∧ Pv 0 σ H1 ∧ (∀ i σ H, i ≤ xs.length → Pv i σ H → SqL K H a xs) ∧
      (∀ (i : Nat) x σ H, xs[i]? = some x → Pv i σ H → g x σ H fun σ2 H2 => tb { D with nx := Pv (i + 1), ct := Pv (i + 1), bk := D.nx } σ2 H2) ∧ ∀ σ H, Pv xs.length σ H → D.nx σ H) :
    tFor (iList K (eCut t)) g tb D σ H := by
  refine ⟨R, ev, fun v H1 r => ?_⟩
  obtain ⟨a, xs, Pv, rfl, h0, hl, turn, fin⟩ := go v H1 r
  exact ⟨a, rfl, ⟨xs, hl 0 _ _ (Nat.zero_le _) h0⟩, for_list Pv h0 hl turn fin⟩
theorem for_tupC (R : VK) (ev : t σ H R) (go : ∀ v H1, R v H1 → ∃ (a : Addr) (xs : List V) (Pv : Nat → St → Hp → Prop), v = .ref a ∧ Pv 0 σ H1 ∧ (∀ i σ H, i ≤ xs.length → Pv i σ H → SqT K H a xs) ∧
      (∀ (i : Nat) x σ H, xs[i]? = some x → Pv i σ H → g x σ H fun σ2 H2 => tb { D with nx := Pv (i + 1), ct := Pv (i + 1), bk := D.nx } σ2 H2) ∧ ∀ σ H, Pv xs.length σ H → D.nx σ H) :
    tFor (iTup K (eCut t)) g tb D σ H := by
  refine ⟨R, ev, fun v H1 r => ?_⟩
  obtain ⟨a, xs, Pv, rfl, h0, hl, turn, fin⟩ := go v H1 r
  exact ⟨a, rfl, ⟨xs, hl 0 _ _ (Nat.zero_le _) h0⟩, for_tup Pv h0 hl turn fin⟩
variable {te : TE} {j : Nat} {Q : VK}
theorem wipe1 (σ : St) (j : Nat) (v : Option V) : wipe ((wipe σ [j]).set j v) [j] = wipe σ [j] := by
  show ((σ.set j none).set j v).set j none = σ.set j none
  rw [List.set_set, List.set_set]
/-- [e for x in range(n)], no test -/
theorem lc_rngC (n : Nat) (ev : t σ H fun v H1 => v = .int n ∧ H1 = H) (hn : n < 2 ^ 62)
    (go : ∀ L, H L = none → ∃ Pv : Nat → Hp → Prop, Pv 0 (upd H L (.lst [])) ∧ (∀ (i : Nat) H', i < n → Pv i H' → te ((wipe σ [j]).set j (some (.int i))) H' fun y H4 => ∃ acc, H4 L = some (.lst acc) ∧ acc.length < sizeLine ∧ Pv (i + 1) (upd H4 L (.lst (acc ++ [y])))) ∧ ∀ H', Pv n H' → Q (.ref L) H') :
    tLc (iRng1 (tCons (eCut t) tNil)) (gName j) tYes te [j] σ H Q := by
  refine ⟨_, ev, ?_⟩
  rintro _ _ ⟨rfl, rfl⟩
  have e : ((n : Int)).toNat = n := Int.toNat_natCast n
  refine ⟨n, rfl, by omega, by omega, fun L hL => ?_⟩
  obtain ⟨Pv, h0, turn, fin⟩ := go L hL
  rw [e]
  refine lc_range (lo := 0) (n := n) Pv h0 (fun i H' hi p => ?_) fin
  rw [Int.zero_add]
  refine ⟨wipe1 _ _ _, ?_⟩
  simp only [tYes, if_true]
  exact turn i H' hi p
/-- [e for x in text], no test -/
theorem lc_strC (z : Str) (ev : t σ H fun v H1 => v = .str z ∧ H1 = H)
    (go : ∀ L, H L = none → ∃ Pv : Nat → Hp → Prop, Pv 0 (upd H L (.lst [])) ∧ (∀ (i c : Nat) H', z.cps[i]? = some c → Pv i H' → te ((wipe σ [j]).set j (some (.str ⟨#[c]⟩))) H' fun y H4 => ∃ acc, H4 L = some (.lst acc) ∧ acc.length < sizeLine ∧ Pv (i + 1) (upd H4 L (.lst (acc ++ [y])))) ∧ ∀ H', Pv z.cps.size H' → Q (.ref L) H') :
    tLc (iStr (eCut t)) (gName j) tYes te [j] σ H Q := by
  refine ⟨_, ev, ?_⟩
  rintro _ _ ⟨rfl, rfl⟩
  refine ⟨z, rfl, fun L hL => ?_⟩
  obtain ⟨Pv, h0, turn, fin⟩ := go L hL
  refine lc_it walk_str Pv h0 (fun _ _ _ _ => trivial) (fun i x H' H'' hi p y => ?_) fin
  obtain ⟨rfl, c, hc, rfl⟩ := y
  refine ⟨wipe1 _ _ _, ?_⟩
  simp only [tYes, if_true]
  exact turn i c _ hc p
theorem same_mut {H H' : Hp} {p : Addr} {o : HO} (e : Same H H') (h : H p = none) : Same H (upd H' p o) := fun a u ha => by
  rw [upd_ne (ne_of_none ha h)]
  exact e a u ha
theorem same_new {H : Hp} {p : Addr} {o : HO} (h : H p = none) : Same H (upd H p o) := same_mut (Same.refl H) h
/-- [e for x in range(n)] whose element is a function of x and leaves what stands -/
theorem lc_rng_map (n : Nat) (f : Nat → V) (ev : t σ H fun v H1 => v = .int n ∧ H1 = H) (hn : n < 100000)
    (el : ∀ (i : Nat), i < n → ∀ (H' : Hp) (R : VK), Same H H' → (∀ H4, Same H' H4 → R (f i) H4) → te ((wipe σ [j]).set j (some (.int i))) H' R)
    (fin : ∀ L H', H L = none → Same H H' → H' L = some (.lst ((List.range n).map f)) → Q (.ref L) H') : tLc (iRng1 (tCons (eCut t) tNil)) (gName j) tYes te [j] σ H Q := by
  refine lc_rngC n ev (by omega) fun L hL => ⟨fun i H' => Same H H' ∧ H' L = some (.lst ((List.range i).map f)), ⟨same_new hL, upd_same⟩, fun i H' hi p => ?_, fun H' p => fin L H' hL p.1 p.2⟩
  refine el i hi H' _ p.1 fun H4 s4 => ⟨_, s4 _ _ p.2, ?_, same_mut (p.1.trans s4) hL, ?_⟩
  · rw [List.length_map, List.length_range]
    exact Nat.lt_of_lt_of_le (Nat.lt_trans hi hn) (by decide)
  · rw [upd_same, List.range_succ, List.map_append]
    rfl
/-- [e for x in text] likewise -/
theorem lc_str_map (z : Str) (f : Nat → V) (ev : t σ H fun v H1 => v = .str z ∧ H1 = H) (hn : z.cps.size < 100000)
    (el : ∀ (c : Nat), c ∈ z.cps.toList → ∀ (H' : Hp) (R : VK), Same H H' → (∀ H4, Same H' H4 → R (f c) H4) → te ((wipe σ [j]).set j (some (.str ⟨#[c]⟩))) H' R)
    (fin : ∀ L H', H L = none → Same H H' → H' L = some (.lst (z.cps.toList.map f)) → Q (.ref L) H') : tLc (iStr (eCut t)) (gName j) tYes te [j] σ H Q := by
  refine lc_strC z ev fun L hL => ⟨fun i H' => Same H H' ∧ H' L = some (.lst ((z.cps.toList.take i).map f)), ⟨same_new hL, upd_same⟩, fun i c H' hi p => ?_, fun H' p => fin L H' hL p.1 ?_⟩
  · have hi' : z.cps.toList[i]? = some c := by rw [Array.getElem?_toList]; exact hi
    have hlt : i < z.cps.toList.length := (List.getElem?_eq_some_iff.mp hi').1
    refine el c (List.mem_of_getElem? hi') H' _ p.1 fun H4 s4 => ⟨_, s4 _ _ p.2, ?_, same_mut (p.1.trans s4) hL, ?_⟩
    · rw [List.length_map, List.length_take]
      have : z.cps.toList.length = z.cps.size := Array.length_toList
      exact Nat.lt_of_lt_of_le (show min i _ < 100000 by omega) (by decide)
    · rw [upd_same, List.take_succ, List.map_append, hi']
      rfl
  · have h2 := p.2
    rw [← Array.length_toList, List.take_length] at h2
    exact h2
end
theorem joinL_signs : ∀ l : List Nat, TL.joinL [] (l.map fun c => [c]) = l
  | [] => rfl
  | [_] => rfl
  | a :: b :: l => by
    have h := joinL_signs (b :: l)
    simp only [List.map_cons, TL.joinL] at h ⊢
    rw [h]
    rfl
theorem join_signs (l : List Nat) : Txt.join "" (l.map fun c => (⟨#[c]⟩ : Str)) = ⟨l.toArray⟩ := by
  have h := SX.join_S [] (l.map fun c => [c])
  rw [joinL_signs, List.map_map] at h
  exact h
/-- "".join of signs -/
def cJoin : V → List V → Hp → VK → Prop := fun x xs H Q => ∃ (p : Addr) (l : List Nat), x = .str "" ∧ xs = [.ref p] ∧ H p = some (.lst (l.map fun c => .str ⟨#[c]⟩)) ∧ l.length ≤ 100000 ∧ Q (.str ⟨l.toArray⟩) H
theorem join_c {X : Cx} : MtR X "str.join" cJoin := by
  intro pins s σ H x xs v us Q I rx rs h
  obtain ⟨p, l, rfl, rfl, hp, hl, q⟩ := h
  refine mt_join pins s σ H _ _ v us Q I rx rs ⟨"", p, l.map fun c => ⟨#[c]⟩, rfl, rfl, .inl (.inl (.inl ?_)), ?_, ?_⟩
  · rw [hp, List.map_map]
    rfl
  · have e : ((l.map fun c => (⟨#[c]⟩ : Str)).map (·.length)).sum = l.length := by
      rw [List.map_map]
      clear hp q hl
      induction l with
      | nil => rfl
      | cons a l ih =>
        rw [List.map_cons, List.sum_cons, ih, List.length_cons]
        show 1 + l.length = _
        omega
    rw [e]
    have e0 : ("" : Str).length = 0 := rfl
    rw [e0]
    omega
  · rw [join_signs]
    exact q
theorem atI_mod (l : List Nat) (i : Int) (h : 0 < l.length) : atI l (i % (l.length : Int)) = some (l.getD (i % (l.length : Int)).toNat 0) := by
  have h0 : 0 ≤ i % (l.length : Int) := Int.emod_nonneg _ (by omega)
  have h1 : i % (l.length : Int) < l.length := Int.emod_lt_of_pos _ (by omega)
  have hi : (i % (l.length : Int)).toNat < l.length := by omega
  have e : atI l (((i % (l.length : Int)).toNat : Nat) : Int) = some (l.getD (i % (l.length : Int)).toNat 0) := atI_nat (by rw [List.getD_eq_getElem?_getD, List.getElem?_eq_getElem hi]; rfl)
  rwa [Int.toNat_of_nonneg h0] at e
theorem scal_ss (a b : Str) : scal (.str a) (.str b) = true := rfl
theorem scal_ii (a b : Int) : scal (.int a) (.int b) = true := rfl
theorem scal_bb (a b : Bool) : scal (.bl a) (.bl b) = true := rfl
theorem scal_nn : scal .non .non = true := rfl
end L2.G
set_option Elab.async false
set_option linter.all false
set_option maxRecDepth 100000
set_option maxHeartbeats 2000000
namespace L2.G
open PySem PySem.Spec PyProof.Rows
section
variable {X : Cx}
/-- repr of an int or None -/
def cRepr : List V → Hp → VK → Prop := fun xs H Q => match xs with
  | [.int i] => i.natAbs.log2 < 1920 ∧ Q (.str (Str.ofString (toString i))) H
  | [.non] => Q (.str (Str.ofString "None")) H
  | _ => False
theorem repr_c : CallR X (.builtin "repr") cRepr := by
  intro pins s σ H xs us Q I r h
  match xs, r, h with
  | [.int i], r, h =>
    obtain ⟨u, rfl, t, rfl⟩ := vals1 r
    exact PySem.P.repr_of_int h.1 ⟨.str _, H, I.tok _, ⟨_, rfl⟩, h.2⟩
  | [.non], r, h =>
    obtain ⟨u, rfl, ru⟩ := vals1 r
    cases (show u = Value.none from ru)
    exact PySem.P.repr_of_none ⟨.str _, H, I.tok _, ⟨_, rfl⟩, h⟩
structure CalK (P : Program) (w : World) (K : PySem.W.Frag) (mg : Str → Option Value) (base : Heap) (k : Nat) (x : Str) (ks : List Str) (gV : List V → List V → List V) (sp : Sp) : Prop where
  ex : ∃ (f : Addr) (fd : FuncData) (ps : List Str) (g : List Value → List Value → List Value), FnOk P w K mg base CX0 k f fd ps sp ∧ mg x = some (.ref f) ∧ PySem.W.keepIn K (.ref f) = true ∧ KBn K fd ps 0 ks g gV
variable {k j : Nat} {sp : Sp} {x : Str} {p pos : Pos} {tk : TA} {kws : List Keyword} {ks : List Str} {gV : List V → List V → List V}
/-- f(k = v, ..) -/
def tCallK0 (n : Nat) (sp : Sp) (gV : List V → List V → List V) (tk : TA) : TE := fun σ H Q => tk σ H fun zs H2 => zs.length = n ∧ sp (gV [] zs) H2 Q E0
theorem pe_cK0 (c : CalK X.prog X.w X.K X.mg X.base k x ks gV sp) (hr : Room j X.A) (hk : k ≤ j) (hg : Gl X x) (hkw : PK X kws tk)
    (hall : (backToKw pos (keywordEach kws X.env)).all (·.1.isSome) = true := by rfl) (hks : (backToKw pos (keywordEach kws X.env)).filterMap (·.1) = ks := by rfl) (hdb : (x == ("__debug__" : Str)) = false := by decide)
    (hpl : ((backTo pos (starEach [] X.env)).any (·.1) || (backToKw pos (keywordEach kws X.env)).any (·.1.isNone)) = false := by rfl) :
    PE X (.Call (.Name x p) [] kws pos) (tCallK0 ks.length sp gV tk) := by
  obtain ⟨f, fd, ps, g, F, hm, kp, b⟩ := c.ex
  refine ⟨fun pins s σ H Q I h => wpAny_Call_Name_kw (ld_glob I hg hm ?_ hdb)⟩
  refine PySem.W.callWith_KW0 (h₀ := X.base) I.ok.mod.kin kp hall (thn (hkw.run pos pins s σ H _ I h) fun ws s2 hz => ?_) hpl
  obtain ⟨zs, H2, I2, rz, l2, q2⟩ := hz
  refine ⟨I2.kIn, ?_⟩
  rw [hks]
  exact run_fnN (vs := []) F (hr.mono hk) b pass0 I2 .nil rz rfl l2 q2
end
section
variable {t : TE} {σ : St} {H : Hp} {te : TE} {j : Nat} {Q : VK}
/-- [e for x in range(n)], n reckoned by steps that change things -/
theorem lc_rngR (R : VK) (ev : t σ H R) (go : ∀ v H1, R v H1 → ∃ n : Nat, v = .int n ∧ n < 2 ^ 62 ∧ ∀ L, H1 L = none → ∃ Pv : Nat → Hp → Prop, Pv 0 (upd H1 L (.lst [])) ∧
      (∀ (i : Nat) H', i < n → Pv i H' → te ((wipe σ [j]).set j (some (.int i))) H' fun y H4 => ∃ acc, H4 L = some (.lst acc) ∧ acc.length < sizeLine ∧ Pv (i + 1) (upd H4 L (.lst (acc ++ [y])))) ∧ ∀ H', Pv n H' → Q (.ref L) H') :
    tLc (iRng1 (tCons (eCut t) tNil)) (gName j) tYes te [j] σ H Q := by
  refine ⟨R, ev, fun v H1 r => ?_⟩
  obtain ⟨n, rfl, hn, go⟩ := go v H1 r
  have e : ((n : Int)).toNat = n := Int.toNat_natCast n
  refine ⟨n, rfl, by omega, by omega, fun L hL => ?_⟩
  obtain ⟨Pv, h0, turn, fin⟩ := go L hL
  rw [e]
  refine lc_range (lo := 0) (n := n) Pv h0 (fun i H' hi p => ?_) fin
  rw [Int.zero_add]
  refine ⟨wipe1 _ _ _, ?_⟩
  simp only [tYes, if_true]
  exact turn i H' hi p
end
end L2.G
set_option Elab.async false
set_option linter.all false
set_option maxRecDepth 100000
set_option maxHeartbeats 2000000
namespace L2.G
open PySem PySem.Spec PyProof.Rows L2H
section
variable {X : Cx}
/-! a comprehension while an exception is handled: its block keeps the pins of the def -/
abbrev hblk (X : Cx) (s : Shared) (H : Hp) (sc : Scope) (ce : Env) (fp : List Addr) : Cx := { X.blk s H sc ce fp with pn := X.pn }
abbrev henv (X : Cx) (s : Shared) (sc : Scope) : Env :=
  compEnvC sc (cellsFrom (s.heap.objs.size + 1) sc.names (cloFrom X.env.cells sc.names [])) s.heap.objs.size X.env
abbrev hst (s : Shared) (sc : Scope) : Shared :=
  { s with heap := pushCells (s.heap.push { cls := .type "dict", data := .dict #[] }) sc.names }
theorem hblk_inv {pins : List (Addr × Obj)} {σ : St} {H : Hp} {s : Shared} {sc : Scope} {own : List (Str × Nat)} {fp : List Addr}
    (I : Inv X pins σ H s) (ok : BlkOk X.N X.env.scope sc own) (nd : X.N.Nodup)
    (hfp : ∀ b ∈ fp, FpOk X pins H b ∧ b < s.heap.objs.size) :
    Inv (hblk X s H sc (henv X s sc) fp) [] (wipe σ (own.map (·.2))) H (hst s sc) := by
  have B := block_start I ok nd hfp
  have O := B.ok
  refine ⟨⟨O.mod, O.kind, O.glob, O.blt, O.above, O.inj, O.has, O.cab, O.hd, O.frames, O.stk, O.exf, O.bs, O.bsz, O.noex, O.exfs, O.funs, O.frf⟩,
    B.os, B.bare, B.base, B.loc, B.cell, B.free, B.freeC, ?_, B.hok, B.len⟩
  intro p hp
  have hp' : p ∈ X.pn := by simpa using hp
  obtain ⟨g, n, l, f, c⟩ := I.pin p (List.mem_append_left _ hp')
  refine ⟨pushCells_keeps _ _ _ _ (Heap.get?_push_of_some _ g), n, Nat.ne_of_lt (Heap.lt_size g), fun z => ?_, c⟩
  rcases List.mem_cons.mp (I.stkSub p.1 z) with z | z
  · exact l z
  · exact f z
theorem pe_lcH {elt tg iter : Expr} {ifs : List Expr} {sc : Scope} {own : List (Str × Nat)} {pos : Pos} {wi : TI} {g : TG} {tt : TT} {te : TE}
    (hot : HotC X) (nd : X.N.Nodup) (hi : PIH X tg iter wi) (ok : BlkOk X.N X.env.scope sc own)
    (hg : ∀ (s : Shared) (H : Hp) (C : Addr) (cl : List (Str × Addr)) (fp : List Addr), PG (hblk X s H sc (compEnvC sc cl C X.env) fp) tg g)
    (ht : ∀ (s : Shared) (H : Hp) (C : Addr) (cl : List (Str × Addr)) (fp : List Addr), PTs (hblk X s H sc (compEnvC sc cl C X.env) fp) ifs tt)
    (he : ∀ (s : Shared) (H : Hp) (C : Addr) (cl : List (Str × Addr)) (fp : List Addr), PE (hblk X s H sc (compEnvC sc cl C X.env) fp) elt te)
    (hs : ∀ x, foldedSetIterable iter X.env x = pure x := by intro _; rfl) :
    PE X (.ListComp elt [⟨tg, iter, ifs, 0⟩] sc pos) (tLc wi g tt te (own.map (·.2))) := by
  refine ⟨fun pins s σ H Q I h => ?_⟩
  rw [eval_ListComp]
  have cap : ∀ y ∈ sc.names, y.2 = .free → ∃ c, X.env.cells.lookup y.1 = some c :=
    fun y hy e => (ok.free y hy e).elim (fun k => I.ok.has _ (.inl k)) (fun k => I.ok.has _ (.inr k))
  refine wpAny_comprehension_free (use := none) rfl hs (closure_ok cap) ok.kind (fun y hy e => by rw [ok.uniq y hy, e]) ?_
  refine thn (hi.run pins s σ H _ I h) fun xv sA hA => thn hA fun iv sB hB => ?_
  obtain ⟨it, fp, tn, J, HB, rfl, IB, T, tB, fB, q⟩ := hB
  refine wpAny_newObj_type (newEnv_comp ?_) (by show 0 ≤ sizeLine; decide)
  obtain ⟨W, ⟨m0, w0⟩, turn⟩ := q sB.heap.objs.size (IB.hok.fresh (Nat.le_refl _))
  -- the new list stands in the state sC
  have hC : ∃ sC : Shared, sC = { sB with heap := sB.heap.push { cls := .type "list", data := .seq ([] : List Value).toArray } } := ⟨_, rfl⟩
  obtain ⟨sC, eC⟩ := hC
  have zC : sC.heap.objs.size = sB.heap.objs.size + 1 := by rw [eC]; exact Heap.size_push ..
  have up : ∀ b o, sB.heap.get? b = some o → sC.heap.get? b = some o := fun b o z => by rw [eC]; exact Heap.get?_push_of_some _ z
  have IC : Inv X pins σ (upd HB sB.heap.objs.size (.lst [])) sC := by
    rw [eC]
    exact IB.laid (t' := sB.toks) (fun b o z => Heap.get?_push_of_some _ z) (Nat.le_refl _) ⟨Nat.zero_le _, [], 0, .nil, Heap.get?_push_size _ rfl⟩
  have fC : ∀ b ∈ fp, FpOk X pins (upd HB sB.heap.objs.size (.lst [])) b ∧ b < sC.heap.objs.size := fun b hb => by
    obtain ⟨o, z, _⟩ := T.obj _ _ tB b hb
    have lt := Heap.lt_size z
    exact ⟨⟨by rw [upd_ne (Nat.ne_of_lt lt)]; exact (fB b hb).1, (fB b hb).2⟩, by rw [zC]; exact Nat.lt_succ_of_lt lt⟩
  have ID := hblk_inv IC ok nd fC
  have tD : tn 0 (hst sC sc).heap := T.keep _ _ _ tB fun b _ o z => pushCells_keeps _ _ _ _ (Heap.get?_push_of_some _ (up b o z))
  have pg : PG (hblk X sC (upd HB sB.heap.objs.size (.lst [])) sc (henv X sC sc) fp) tg g := hg sC (upd HB sB.heap.objs.size (.lst [])) sC.heap.objs.size (cellsFrom (sC.heap.objs.size + 1) sc.names (cloFrom X.env.cells sc.names [])) fp
  have pt : PTs (hblk X sC (upd HB sB.heap.objs.size (.lst [])) sc (henv X sC sc) fp) ifs tt := ht sC (upd HB sB.heap.objs.size (.lst [])) sC.heap.objs.size (cellsFrom (sC.heap.objs.size + 1) sc.names (cloFrom X.env.cells sc.names [])) fp
  have pe : PE (hblk X sC (upd HB sB.heap.objs.size (.lst [])) sc (henv X sC sc) fp) elt te := he sC (upd HB sB.heap.objs.size (.lst [])) sC.heap.objs.size (cellsFrom (sC.heap.objs.size + 1) sc.names (cloFrom X.env.cells sc.names [])) fp
  rw [← eC]
  show codeAny _ _ (.compStart (.ListComp elt [⟨tg, iter, ifs, 0⟩] sc pos) 0 (.ref it) (.ref sB.heap.objs.size) (henv X sC sc)) (compPost (model X.prog X.w) X.A X.xe none (EP X pins σ Q) (.ref sB.heap.objs.size) sC.heap.objs.size) (hst sC sc)
  have Lc : (henv X sC sc).locals = sC.heap.objs.size := rfl
  generalize sB.heap.objs.size = D at *
  generalize henv X sC sc = ce at *
  generalize hst sC sc = sD at *
  generalize upd HB D (.lst []) = HC at *
  have Y : ∃ Y, Y = hblk X sC HC sc ce fp := ⟨_, rfl⟩
  have hotY : HotC (hblk X sC HC sc ce fp) := hot
  have fine : ∀ {σ' : St} {H' : Hp} {s' : Shared}, Inv (hblk X sC HC sc ce fp) [] σ' H' s' → (∀ b ∈ fp, H' b = none) → ∀ b ∈ fp, FpOk (hblk X sC HC sc ce fp) [] H' b := fun {σ' H' s'} J' hn b hb => by
    refine ⟨hn b hb, (J'.ok.exf b hb).1, J'.ok.exfs b hb, .inl hb, fun x c e => (J'.ok.exf b hb).2 x c e, fun p hp z => ?_⟩
    exact (fC b hb).1.2.2.2.2.2 p (List.mem_append_left _ (by simpa using hp)) z
  have loop : codeAny (model X.prog X.w) X.A (.compLoop (.ListComp elt [⟨tg, iter, ifs, 0⟩] sc pos) 0 (.ref it) (.ref D) ce) (compPost (model X.prog X.w) X.A X.xe none (EP X pins σ Q) (.ref D) sC.heap.objs.size) sD := by
    refine compLoop_any (fun n s' => ∃ i H', Inv (hblk X sC HC sc ce fp) [] (wipe σ (own.map (·.2))) H' s' ∧ tn i s'.heap ∧ (∀ b ∈ fp, H' b = none) ∧ W i n H') ?_ m0 ⟨0, HC, ID, tD, fun b hb => (fC b hb).1.1, w0⟩
    rintro n s1 ⟨i, H1, I1, t1, n1, w1⟩
    rcases turn i n H1 w1 with ⟨stop, qq⟩ | ⟨go, Nx, hN, step⟩
    · refine thnF (T.done (hblk X sC HC sc ce fp) rfl rfl rfl hotY i [] s1 _ H1 (fun _ _ => False) I1 (fine I1 n1) t1 stop) ?_
      rintro r s2 ⟨rfl, I2⟩
      have I3 : Inv X pins σ H1 s2 := IC.call' (ch := fp) I2.os I2.base I2.hok I2.bare fun b hb =>
        let z := (fC b hb).1.2
        ⟨z.2.2.1, z.1, z.2.2.2.1, z.2.2.2.2⟩
      obtain ⟨m, hn, _⟩ := I2.loc
      have hn : s2.heap.Ns ce.locals m := hn
      have nL : H1 ce.locals = none := I2.free
      rw [Lc] at hn nL
      refine ⟨m, hn, fun h' sb => ?_⟩
      obtain ⟨f0, f1, f2, f3, f4, f5⟩ := IC.fpOk (Nat.le_refl _) nL
      exact ⟨.ref D, H1, I3.turned (t' := s2.toks) (fun b o hb e => (sb.2 b hb).trans e) f0 f1 f3 f4 f5, rfl, qq⟩
    · refine thnF (T.item (hblk X sC HC sc ce fp) rfl rfl rfl hotY i [] s1 _ H1 (fun _ _ => False) I1 (fine I1 n1) t1 go) ?_
      rintro r s2 ⟨u, rfl, h2⟩
      refine thnF h2 ?_
      rintro _ s3 ⟨x, H3, I3, r3, y3, t3, n3⟩
      have P3 := I3.pinned (fine I3 n3) (T.obj _ _ t3)
      refine thnF (pg.run _ s3 _ H3 x u _ P3 r3 (step x H3 y3)) ?_
      rintro _ s4 ⟨σ4, H4, I4, e4, q4⟩
      refine thnF (pt.run _ s4 σ4 H4 _ I4 q4) ?_
      rintro b s5 ⟨H5, I5, q5⟩
      have next : ∀ {s' : Shared} {H' : Hp}, Inv (hblk X sC HC sc ce fp) ([] ++ pinsAt fp s3.heap) σ4 H' s' → Nx H' →
          ∃ m, m < n ∧ ∃ i H', Inv (hblk X sC HC sc ce fp) [] (wipe σ (own.map (·.2))) H' s' ∧ tn i s'.heap ∧ (∀ b ∈ fp, H' b = none) ∧ W i m H' := by
        intro s' H' I' nx
        obtain ⟨m', lt, w'⟩ := hN H' nx
        have pn' : ∀ b ∈ fp, ∀ o, s3.heap.get? b = some o → s'.heap.get? b = some o ∧ H' b = none := fun b hb o e => by
          have z := I'.pin (b, o) (List.mem_append_right _ (List.mem_append_right _ (mem_pinsAt hb e)))
          exact ⟨z.1, z.2.1⟩
        refine ⟨m', lt, i + 1, H', (I'.unpinned (pins := [])).weak (by rw [← e4, wipe_length]) (fun j v e => ?_), T.keep _ _ _ t3 fun b hb o e => (pn' b hb o e).1, fun b hb => ?_, w'⟩
        · rw [← e4] at e
          exact (wipe_some e).1
        · obtain ⟨o, e, _⟩ := T.obj _ _ t3 b hb
          exact (pn' b hb o e).2
      cases b with
      | false => exact next I5 (by simpa using q5)
      | true =>
        have q5 := (by simpa using q5)
        refine thnF (pe.run _ s5 σ4 H5 _ I5 q5) ?_
        rintro z s6 ⟨yv, H6, I6, r6, acc, a6, l6, nx⟩
        exact app_ok (X := hblk X sC HC sc ce fp) I6 a6 l6 r6 fun s7 I7 => next I7 nx
  exact codeAny_compStart_list loop (T.self X.A 0 _ _ _ tD loop)
end
end L2.G
set_option Elab.async false
set_option linter.all false
set_option maxRecDepth 100000
set_option maxHeartbeats 2000000
namespace L2.G
open PySem PySem.Spec PyProof.Rows L2H
/-! try .. except (A, B, C) as n, every exception of the body among them -/
theorem fly_up {B h h' : Heap} {l : List Env} {a : Addr} {Z : Obj → Prop} (f : HandSPX.FlyingZ B l a Z h) (k : ∀ b o, h.get? b = some o → h'.get? b = some o) :
    HandSPX.FlyingZ B l a Z h' := by
  obtain ⟨f1, f2, f3, oe, vs, T, oT, ts, g1, g2, g3, g4, g5, g6, g7, g8⟩ := f
  exact ⟨fun b o z => k b o (f1 b o z), f2, f3.of_keeps fun b o z _ => ⟨o, k b o z, rfl⟩, oe, vs, T, oT, ts, k _ _ g1, g2, g3, g4, g5, g6, k _ _ g7, g8⟩
/-- the ends of a try seen from its suite: the name of slot i goes -/
def endsAs (i : Nat) (D : Ends) : Ends where
  nx := fun σ H => D.nx (σ.set i none) H
  rt := D.rt
  bk := fun σ H => D.bk (σ.set i none) H
  ct := fun σ H => D.ct (σ.set i none) H
def wAs3 (K : PySem.W.Frag) (cs : List Value) (i : Nat) (ts : Addr → Value → Option Addr → TS) (D : Ends) : WX := fun cls d σ H =>
  PySem.W.exmAny K cls cs = some true ∧ ∀ a, H a = none → ts a cls d (endsAs i D) (σ.set i (some (.ref a))) H
section
variable {X : Cx} {n x1 x2 x3 : Str} {C1 C2 C3 : Addr} {i kk : Nat} {body suite : List Stmt} {b₀ : Stmt} {p1 p2 p3 tp pos pos' : Pos} {tb : WX → TS} {ts : Addr → Value → Option Addr → TS}
theorem ps_try_as3 (hs : X.stack = X.env :: X.outer) (hf : X.env.frame = some X.env.locals) (nd : X.N.Nodup) (hi : X.N[i]? = some n) (hl : X.env.kindOf n = some .local)
    (g1 : Gl X x1) (m1 : X.mg x1 = some (.ref C1)) (g2 : Gl X x2) (m2 : X.mg x2 = some (.ref C2)) (g3 : Gl X x3) (m3 : X.mg x3 = some (.ref C3))
    (hb : ∀ (W : WX) (pn : List (Addr × Obj)) (xe : Value → Shared → Prop), L2N.Takes (X.tr pn xe) W → PSs (X.tr pn xe) body (tb W))
    (hsu : ∀ (a : Addr) (oe : Obj) (cls : Value) (d : Option Addr) (pn : List (Addr × Obj)), L2N.Zn cls d oe → (∃ vs, oe.data = .fields vs) → PSs (X.suite a ((a, oe) :: pn)) (b₀ :: suite) (ts a cls d))
    (d1 : (x1 == ("__debug__" : Str)) = false := by decide) (d2 : (x2 == ("__debug__" : Str)) = false := by decide) (d3 : (x3 == ("__debug__" : Str)) = false := by decide) :
    PS X (.Try body [.ExceptHandler (some (.Tuple [.Name x1 p1, .Name x2 p2, .Name x3 p3] kk tp)) (some n) (b₀ :: suite) pos'] [] [] pos)
      (fun D σ H => tb (wAs3 X.K [.ref C1, .ref C2, .ref C3] i ts D) D σ H) := by
  constructor
  intro pins s σ H D I h
  have ok := I.ok
  have fr : X.A.frames = some (X.env :: X.outer) := ok.frames.trans (by rw [hs])
  refine wpAny_Try_except ?_
  refine wpAny_mono ((hb (wAs3 X.K [.ref C1, .ref C2, .ref C3] i ts D) (X.pn ++ pins) _ ?_).run [] s σ H D (I.toTry _) h) ?_ (fun _ _ z => z)
  · -- caught
    rintro u s1 ⟨a, B, sI, pins1, σ1, H1, cls, d, rfl, J0, nb, up, sky, na, os, ag, yes, go⟩
    have J : Inv X pins σ1 H1 sI := J0.ofTry ok
    rw [show (X.tr (X.pn ++ pins) _).stack = X.env :: X.outer from hs] at sky
    refine L2N.Sky.land L2N.Zn.steady fr hf sky fun h2 fl up2 => ?_
    have J2 : Inv X pins σ1 H1 { s1 with heap := h2 } := J.landed nb fl.1 (up.trans up2) os ag
    obtain ⟨oe, vs, he, hz, hd⟩ := fl.there
    have off : a ∉ frs (X.env :: X.outer) := fun z => by
      obtain ⟨_, o, eo, no⟩ := fl.2.2.1.mem z
      rw [he] at eo
      cases eo
      exact no _ hd
    have nL : a ≠ X.env.locals := fun z => off (List.mem_filterMap.mpr ⟨X.env, .head _, by rw [hf, z]⟩)
    have nF : a ∉ X.fs := fun z => by
      obtain ⟨e, me, q⟩ := List.mem_filterMap.mp z
      exact off (List.mem_filterMap.mpr ⟨e, .tail _ me, q⟩)
    have S2 := J2.suite he hd na nL nF
    refine wpAny_handleBy_cons (codeAny_handlers_test ?_) (by intro q; cases q)
    refine wpAny_Tuple (wpAny_items_cons (ld_glob (X := X.suite a ((a, oe) :: (X.pn ++ pins))) S2 g1 m1 ?_ d1))
    refine wpAny_items_cons (ld_glob (X := X.suite a ((a, oe) :: (X.pn ++ pins))) S2 g2 m2 ?_ d2)
    refine wpAny_items_cons (ld_glob (X := X.suite a ((a, oe) :: (X.pn ++ pins))) S2 g3 m3 ?_ d3)
    refine wpAny_items_nil ⟨by size_fits, ?_⟩
    have kp : ∀ b o, h2.get? b = some o → (h2.push { cls := .type "tuple", data := .seq [Value.ref C1, .ref C2, .ref C3].toArray }).get? b = some o := fun b o z => Heap.get?_push_of_some _ z
    have ty : PySem.W.Looks (model X.prog X.w) h2 (typeOf (.ref a)) cls := fun A Q E s k q => wpAny_typeOf_ref (k _ _ he) (by rw [hz.1]; exact q)
    refine (PySem.W.exm_tup3 (M := model X.prog X.w) (J2.kIn.keeps kp) (ty.keeps kp) (Heap.get?_push_size h2 rfl) yes).here ?_
    refine codeAny_handlers_suite_as (HandSPX.lands_againZ (s := { s1 with heap := h2.push { cls := .type "tuple", data := .seq [Value.ref C1, .ref C2, .ref C3].toArray } }) (fly_up fl kp) fun h3 fl3 up3 => ?_)
    have J3 : Inv X pins σ1 H1 { s1 with heap := h3 } := J.landed nb fl3.1 (((up.trans up2).trans (Heap.UpToSlots.of_keeps kp)).trans up3) os ag
    obtain ⟨o3, v3, he3, hz3, hd3⟩ := fl3.there
    refine store_ok (X := X.suite a ((a, o3) :: (X.pn ++ pins))) (v := .ref a) (J3.suite he3 hd3 na nL nF) nd hi (.inl hl) rfl (fun s4 S4 => ?_) (.inr hl)
    refine wpAny_mono ((hsu a o3 cls d (X.pn ++ pins) hz3 ⟨_, hd3⟩).run [] s4 _ H1 _ S4 (go a na)) ?_ (fun _ _ z => z.elim)
    intro f s5 q5
    have bye : ∀ {σ5 : St} {H5 : Hp} {Q : Shared → Prop}, Inv (X.suite a ((a, o3) :: (X.pn ++ pins))) [] σ5 H5 s5 → (∀ s6, Inv X pins (σ5.set i none) H5 s6 → Q s6) →
        wpAny (model X.prog X.w) X.A (do bindName X.env n .none; unbindBehindTheSuite X.env n pos') (fun _ s6 => Q s6) X.xe s5 :=
      fun {σ5 H5 Q} S5 hq => gone_ok (S5.unsuite ok) nd hi hl hq
    cases f with
    | ret u =>
      obtain ⟨v5, σ5, H5, S5, r5, w5⟩ := q5
      exact bye S5 fun s6 J6 => ⟨v5, _, _, J6, r5, w5⟩
    | next =>
      obtain ⟨σ5, H5, S5, w5⟩ := q5
      exact bye S5 fun s6 J6 => ⟨_, _, J6, w5⟩
    | brk =>
      obtain ⟨σ5, H5, S5, w5⟩ := q5
      exact bye S5 fun s6 J6 => ⟨_, _, J6, w5⟩
    | cont =>
      obtain ⟨σ5, H5, S5, w5⟩ := q5
      exact bye S5 fun s6 J6 => ⟨_, _, J6, w5⟩
  · intro f s1 q
    cases f with
    | ret u =>
      obtain ⟨v, σ1, H1, J, r, w⟩ := q
      exact ⟨v, σ1, H1, J.ofTry ok, r, w⟩
    | next =>
      obtain ⟨σ1, H1, J, w⟩ := q
      exact wpAny_execs_nil ⟨σ1, H1, J.ofTry ok, w⟩
    | brk =>
      obtain ⟨σ1, H1, J, w⟩ := q
      exact ⟨σ1, H1, J.ofTry ok, w⟩
    | cont =>
      obtain ⟨σ1, H1, J, w⟩ := q
      exact ⟨σ1, H1, J.ofTry ok, w⟩
end
end L2.G
set_option Elab.async false
set_option linter.all false
set_option maxRecDepth 100000
set_option maxHeartbeats 2000000
namespace L2.G
open PySem PySem.Spec PyProof.Rows L2H LamX
/-! a lambda handed to a def that catches: exceptions whose context is None; nothing is being shown -/
abbrev lamK (X : Cx) (params : Arguments) (body : Expr) (sc : Scope) (pm : Value) (c' : Addr) (ct : Value) : Obj :=
  PySem.W.kla_obj "<lambda>" (X.env.qual ++ "<lambda>") params body sc (cloFrom X.env.cells sc.names []) pm c' ct
/-- the lambda's body, entered at s over the frames outer -/
abbrev lamN (X : Cx) (A : Around) (outer : List Env) (s : Shared) (H : Hp) (E : XK) (sc : Scope) (f c' : Addr) : Cx :=
  (lamCx X A outer s H E sc f c').wish fun e s1 =>
    wpAny (model X.prog X.w) (A.deeper (lamEnv X sc s.heap.objs.size f c')) (leaving (lamEnv X sc s.heap.objs.size f c') e)
      (fun _ s2 => L2N.CX X.prog X.w outer H s E e s2) (fun e2 s2 => L2N.CX X.prog X.w outer H s E e2 s2) s1
/-- within the lambda's body all that a def lets out goes on -/
theorem lamN_takes {X : Cx} {A : Around} {outer : List Env} {s : Shared} {H : Hp} {E : XK} {sc : Scope} {f c' : Addr} :
    L2N.Takes (lamN X A outer s H E sc f c') (fun cls d _ H' => E cls d H') :=
  L2N.takes_of rfl rfl rfl rfl
theorem lamN_pass {X : Cx} {A : Around} {outer : List Env} {s : Shared} {H : Hp} {E : XK} {sc : Scope} {f c' : Addr} :
    Passes (L2N.CX X.prog X.w) (lamN X A outer s H E sc f c') E :=
  L2N.passes_call (lamN_takes (E := E)) fun _ _ _ _ h => h
/-- the def g that got the lambda, entered at s from X -/
abbrev getCx (X : Cx) (Ng : List Str) (qg : Str) (sg : Scope) (g : Addr) (cdg : Value) (s : Shared) (H : Hp) : Cx :=
  cxOf CX0 X.prog X.w X.K X.mg X.base Ng qg sg g cdg X.A X.stack s H E0
section
variable {X : Cx} {pins : List (Addr × Obj)} {σ : St} {H : Hp} {s : Shared}
theorem pe_actN {Ng : List Str} {qg : Str} {sg : Scope} {g f c' : Addr} {cdg pm ct : Value} {params : Arguments} {body : Expr} {sc : Scope} {k i : Nat} {a : Str} {pn : List (Addr × Obj)} {xe : Value → Shared → Prop} {W : WX} {E : XK} {tb : TE} {p1 p2 : Pos}
    (I : Inv X pins σ H s) (L : LamS X.env.scope sc) (hf : s.heap.get? f = some (lamK X params body sc pm c' ct)) (hn : H f = none) (hfr : f ∉ frs X.stack)
    (hbind : bindArgs (PySem.W.kla_fn "<lambda>" (X.env.qual ++ "<lambda>") params body sc (cloFrom X.env.cells sc.names []) pm (.ref c') ct) ⟨[], []⟩ = pure [])
    (tk : L2N.Takes ((getCx X Ng qg sg g cdg s H).tr pn xe) W)
    (qt : Quiet X.A) (hr : Room (k + 1) (X.A.deeper (envOfC qg sg s.heap.objs.size g cdg)))
    (hbody : ∀ (A : Around) (outer : List Env) (s : Shared) (H : Hp), Quiet (A.deeper (lamEnv X sc s.heap.objs.size f c')) → Room k (A.deeper (lamEnv X sc s.heap.objs.size f c')) → PE (lamN X A outer s H E sc f c') body tb)
    (hN : Ng[i]? = some a) (hv : Vis sg a) (hd : (a == ("__debug__" : Str)) = false) (hcd : (a == ("__classdict__" : Str)) = false) :
    PE ((getCx X Ng qg sg g cdg s H).tr pn xe) (.Call (.Name a p1) [] [] p2)
      (fun σZ HZ Q => σZ[i]? = some (some (.ref f)) ∧ HZ c' = some (CodeO c' (X.env.qual ++ "<lambda>")) ∧ (∀ cls d H', E cls d H' → W cls d σZ H') ∧ tb σ HZ Q) := by
  constructor
  rintro qs s0 τ HW Q IZ ⟨h1, h2, hW, h3⟩
  refine wpAny_Call_Name_kw (thn ((pe_var (pos := p1) (i := i) hN hv hd hcd).run qs s0 τ HW (fun v Hv => v = .ref f ∧ HW = Hv) IZ ⟨.ref f, h1, rfl, rfl⟩) ?_)
  rintro u s1 ⟨v, HV, I1, rv, rfl, e⟩
  subst e
  cases (show u = Value.ref f from rv)
  have obj : s1.heap.get? f = some (lamK X params body sc pm c' ct) := I1.base.keep f _ hf hn hfr (fun z => nomatch (show f ∈ ([] : List Addr) from z))
  refine PySem.W.callWith_F0 ⟨_, _, _, _, obj⟩ ?_
  obtain ⟨⟨oc, vs, t, k1, k2, k3⟩, _, _⟩ := I1.hok c' _ h2
  have run : codeAny (model X.prog X.w) (X.A.deeper (envOfC qg sg s.heap.objs.size g cdg)) (.call (.ref f) ⟨[], []⟩)
      (CR (L2N.CX X.prog X.w) (envOfC qg sg s.heap.objs.size g cdg :: X.stack) X.prog X.w HW s1 Q E) s1 := by
    refine PySem.W.kla_callFunE hr.depth obj rfl L.co L.gen rfl ⟨c', oc, vs, t, rfl, k1, k2, k3⟩ ?_
    rw [hbind]
    refine wpAny_pure (wpAny_newFunctionEnv (fun y hy => (L.own y hy).2) (fun y hy => absurd hy (by simp)) (fun h2 ns sb => ⟨I1.nolimit.fresh _ sb, ?_⟩) L.kind)
    have keep : ∀ b o, s1.heap.get? b = some o → h2.get? b = some o := fun b o z => sb.extBut b o (Nat.ne_of_lt (Heap.lt_size z)) (Heap.get?_push_of_some _ z)
    have J := lam_start2 (A := X.A.deeper (envOfC qg sg s.heap.objs.size g cdg)) (outer := envOfC qg sg s.heap.objs.size g cdg :: X.stack) (E := E) (f := f) (c' := c') (tk := s1.toks + ([] : List (Str × Value)).length) I L I1.env0 hr.hd I1.base ns keep
    refine PySem.W.kla_codeExpr (wpAny_mono ((hbody _ _ s1 HW (quiet_deeper (quiet_deeper qt _) _) (hr.deeper _)).run [] _ σ HW Q (J.wish _) h3) ?_ fun _ _ z => z)
    rintro v s2 ⟨w, H2, J2, r2, q2⟩
    exact ⟨w, H2, J2.os, J2.bare, J2.base, J2.hok, r2, q2⟩
  refine wpAny_call (codeAny_mono run fun r s2 hq => ?_)
  match r, hq with
  | .error e, hq => exact tk e s2 (L2N.XE.of_call I1 hW hq)
  | .ok (.ret u), hq => exact I1.after hq
  | .ok .next, hq => exact False.elim hq
  | .ok .brk, hq => exact False.elim hq
  | .ok .cont, hq => exact False.elim hq
end
/-- what the def g makes of the reading tl of the lambda that it got: TT -/
def GivesN (X : Cx) (Ng : List Str) (x : Str) (sg : Scope) (g : Addr) (cdg : Value) (bg : List Stmt) (a q : Str) (TT : (XK → Hp → VK → Prop) → Hp → VK → Prop) : Prop :=
  ∀ (f c' : Addr) (s : Shared) (H : Hp) (Q : VK) (tl : XK → Hp → VK → Prop),
    Room 1 (X.A.deeper (envOfC x sg s.heap.objs.size g cdg)) →
    (∀ (W : WX) (pn : List (Addr × Obj)) (xe : Value → Shared → Prop) (E : XK) (p1 p2 : Pos), L2N.Takes ((getCx X Ng x sg g cdg s H).tr pn xe) W →
      PE ((getCx X Ng x sg g cdg s H).tr pn xe) (.Call (.Name a p1) [] [] p2) (fun σZ HZ Q => σZ[0]? = some (some (.ref f)) ∧ HZ c' = some (CodeO c' q) ∧ (∀ cls d H', E cls d H' → W cls d σZ H') ∧ tl E HZ Q)) →
    H c' = some (CodeO c' q) → TT tl H Q →
    ∃ t, PSs (getCx X Ng x sg g cdg s H).nox bg t ∧ t { nx := fun _ H' => Q .non H', rt := Q } (L2.start Ng [.ref f]) H
section
variable {X : Cx}
theorem pe_lamN {T : List (Addr × Str)} {TT : (XK → Hp → VK → Prop) → Hp → VK → Prop} {x a : Str} {g c P : Addr} {k : Nat} {pg : Arguments} {bg : List Stmt} {sg : Scope} {dV kV doc pm cdv ct oc : Value} {an od : Option Addr} {osl : Array (Option Value)} {Ng : List Str}
    {params : Arguments} {body : Expr} {sc : Scope} {t : XK → TE} {p lpos pos : Pos} (hg : Gl X x) (hm : X.mg x = some (.ref g)) (hk : PySem.W.keepIn X.K (.ref g) = true)
    (lk : X.K.lookup g = some ⟨oc, od, .func (PySem.W.fnOf x x pg bg sg dV kV doc pm an cdv ct), osl⟩) (hcg : PySem.W.codeIn X.K cdv x = true)
    (hb : L2.Binds X.K (PySem.W.fnOf x x pg bg sg dV kV doc pm an cdv ct) [a] []) (Sg : FnScope Ng [a] sg) (h0 : Ng[0]? = some a) (hva : Vis sg a)
    (hG : GivesN X Ng x sg g cdv bg a (X.env.qual ++ "<lambda>") TT)
    (TB : TabB X.base X.mg c P) (hcode : X.env.code = .ref c) (hT : (P, X.env.qual ++ "<lambda>") ∈ T) (hu : ∀ p ∈ T, p.1 = P → p.2 = X.env.qual ++ "<lambda>")
    (qt : Quiet X.A) (hr : Room (k + 2) X.A) (L : LamS X.env.scope sc) (hdef : defaultsOf params X.env = ([], []))
    (hbind : ∀ (q : Str) (cl : List (Str × Addr)) (pm cv ctv : Value), bindArgs (PySem.W.kla_fn "<lambda>" q params body sc cl pm cv ctv) ⟨[], []⟩ = pure [])
    (hbody : ∀ (A : Around) (outer : List Env) (s : Shared) (H : Hp) (E : XK) (f c' : Addr), Quiet (A.deeper (lamEnv X sc s.heap.objs.size f c')) → Room k (A.deeper (lamEnv X sc s.heap.objs.size f c')) → PE (lamN X A outer s H E sc f c') body (t E))
    (hdb : (x == ("__debug__" : Str)) = false := by decide) (hd : (a == ("__debug__" : Str)) = false := by decide) (hcd : (a == ("__classdict__" : Str)) = false := by decide) :
    PE X (.Call (.Name x p) [.Lambda params body sc lpos] [] pos) (tLam T TT t) := by
  constructor
  rintro pins s σ H Q I ⟨tab, h⟩
  refine wpAny_Call_Name_kw (ld_glob I hg hm (PySem.W.callWith_K (h₀ := X.base) I.ok.mod.kin hk ?_ (by rfl) (by rfl)) hdb)
  show wpAny _ _ (spliced ((false, eval (.Lambda params body sc lpos) X.env) :: backTo pos (starEach [] X.env))) _ _ s
  refine Calls.spliced_cons (lam_make2 I TB hcode hT hu tab hdef (L.has I.ok) ?_)
  intro f c' pm1 ct1 H1 s1 I1 ext tab1 obj nf nfr code
  refine Calls.spliced_nil ⟨I1.kIn, ?_⟩
  have run : codeAny (model X.prog X.w) X.A (.call (.ref g) ⟨[.ref f], []⟩) (CR CX0 X.stack X.prog X.w H1 s1 Q E0) s1 := by
    refine run_ofS (N := Ng) (ps := [a]) (us := [.ref f]) (vs := [.ref f]) lk hcg Sg hr I1.env0 (hb s1 [.ref f] I1.kIn rfl) (.cons rfl .nil) rfl fun hr1 => ?_
    obtain ⟨t1, ht, hq⟩ := hG f c' s1 H1 Q (fun E H' Q' => t E σ H' Q') (hr1.mono (Nat.succ_le_succ (Nat.zero_le _)))
      (fun W pn xe E p1 p2 tk => pe_actN (i := 0) I1 L obj nf nfr (hbind _ _ _ _ _) tk qt hr1 (fun A outer s H q2 r2 => hbody A outer s H E f c' q2 r2) h0 hva hd hcd) code (h H1 ext tab1)
    exact ⟨t1, ht.nox, hq⟩
  refine wpAny_call (codeAny_mono run fun r s2 hq => ?_)
  match r, hq with
  | .error e, hq => exact (show False from hq).elim
  | .ok (.ret u), hq => exact I1.after hq
  | .ok .next, hq => exact False.elim hq
  | .ok .brk, hq => exact False.elim hq
  | .ok .cont, hq => exact False.elim hq
end
end L2.G
set_option Elab.async false
set_option linter.all false
set_option maxRecDepth 100000
set_option maxHeartbeats 2000000
namespace L2.G
open PySem PySem.Spec PyProof.Rows L2H
/-! raise C(y), where C's own __init__ keeps y under one name; C over ValueError, LookupError or ArithmeticError -/
/-- a base of errors: its mro, how it is made, and that a field may be stored -/
structure ExB (B nw ini : String) (tl : List Value) : Prop where
  base : ExcBaseFacts B nw ini tl
  pass : ∀ v : Value, refuseLoop v "__setattr__" tl = pure ()
  obj : tl.contains (.type "object") = true
theorem exb_V : ExB "ValueError" "ValueError.__new__" "ValueError.__init__" [.type "ValueError", .type "Exception", .type "BaseException", .type "object"] := ⟨F.excBase_ValueError, fun v => by kernel_rfl, by decide +kernel⟩
theorem exb_L : ExB "LookupError" "LookupError.__new__" "LookupError.__init__" [.type "LookupError", .type "Exception", .type "BaseException", .type "object"] := ⟨F.excBase_LookupError, fun v => by kernel_rfl, by decide +kernel⟩
theorem exb_A : ExB "ArithmeticError" "ArithmeticError.__new__" "ArithmeticError.__init__" [.type "ArithmeticError", .type "Exception", .type "BaseException", .type "object"] := ⟨F.excBase_ArithmeticError, fun v => by kernel_rfl, by decide +kernel⟩
theorem refs_has (T : String) (tl : List Value) : ∀ cs : List Addr, (cs.map Value.ref ++ tl).contains (.type T) = tl.contains (.type T)
  | [] => rfl
  | c :: cs => by
    rw [List.map_cons, List.cons_append, List.contains_cons, refs_has T tl cs]
    rfl
theorem refs_pass {tl : List Value} (h : ∀ v : Value, refuseLoop v "__setattr__" tl = pure ()) (v : Value) : ∀ cs : List Addr, refuseLoop v "__setattr__" (cs.map Value.ref ++ tl) = pure ()
  | [] => h v
  | c :: cs => by
    rw [List.map_cons, List.cons_append, refuseLoop_ref]
    exact refs_pass h v cs
structure OexA (K : PySem.W.Frag) (C : Addr) : Prop where
  cls : ∃ (B nw ini : String) (tl : List Value) (cs : List Addr) (nm q : Str) (N : Addr) (bs : List Value) (sn : List Str) (sub : List Value) (ab : Bool) (col : Option Bool) (dd : Option Addr) (k0 k1 k2 k3 k5 : Option Value),
    ExB B nw ini tl ∧ K.lookup C = some (excClassObj nm q C N bs (cs.map Value.ref ++ tl) true sn sub ab col dd k0 k1 k2 k3 k5 nw)
  sa : PySem.W.findIn K (.ref C) "__setattr__" = some (some (.builtin "object.__setattr__"))
  exC : PySem.W.subIn K (.ref C) (.type "BaseException") = some true
  tyC : PySem.W.typeIn K (.ref C) = some (.type "type")
  kC : PySem.W.keepIn K (.ref C) = true
section
open PySem.W PySem.Calls Builtin Builtin.ObjectAttr
variable {prog : Program} {w : World} {A : Around} {R : Result → Shared → Prop} {hp : Heap} {g : Array GenState} {d : Drawn} {t : Nat} {os : OsState}
/-- the first field of a new exception: its dict is laid -/
theorem osa_any {K : PySem.W.Frag} {fld : Str} {tk : Tok} {v : Value} {x C : Addr} {fv : Array Value} {cd : ClassData} (X : K.In hp) (hx : hp.get? x = some { cls := .ref C, data := .fields fv }) (hc : PySem.W.clsIn K C = some cd)
    (hp1 : ∀ z : Value, refuseLoop z "__setattr__" cd.mro = pure ()) (hp2 : cd.mro.contains (.type "object") = true) (hd : cd.hasDict = true) (hf : PySem.W.findIn K (.ref C) fld = some none)
    (k : ∀ h' tk' dx, (∀ b o, b ≠ x → hp.get? b = some o → h'.get? b = some o) → hp.objs.size ≤ dx → dx ≠ x → h'.get? x = some { cls := .ref C, dict := some dx, data := .fields fv } → h'.Ns1 dx (fun y => if y = fld then some v else none) → R (.ok (.ret .none)) ⟨h', g, d, tk', os⟩) :
    codeAny (model prog w) A (.call (.builtin "object.__setattr__") ⟨[.ref x, .str fld tk, v], []⟩) R ⟨hp, g, d, t, os⟩ := by
  have IA : PySem.W.InstAt hp x { cls := .ref C, data := .fields fv } C none := ⟨hx, rfl, rfl, trivial⟩
  have ne : cd.mro.isEmpty = false := by
    cases e : cd.mro with
    | nil => rw [e] at hp2; exact absurd hp2 (by decide)
    | cons _ _ => rfl
  have nx : x ≠ hp.objs.size := Nat.ne_of_lt (Heap.lt_size hx)
  have S0 := F.store_object
  have isO : PySem.W.Looks (model prog w) hp (isInstance (.ref x) (.type "object")) true := by
    refine IA.type.andThen (PySem.W.looks_mroIn X ?_)
    unfold PySem.W.mroIn
    rw [hc, Option.bind_some, if_neg (by rw [ne]; decide), hp2]
  refine codeAny_call_builtin S0.slot.plain S0.entry ?_
  refine @PySem.W.check_slot (model prog w) _ _ ⟨hp, g, d, t, os⟩ "object.__setattr__" "object" "__setattr__" (.ref x) [.str fld tk, v] [] _ S0.kind S0.split isO (S0.args _ _ _) ?_
  have m0 : PySem.W.Looks (model prog w) hp (mroOf (.ref C)) cd.mro := (PySem.W.looks_clsIn X hc).andThen .now
  have c0 : PySem.W.Looks (model prog w) hp (classData C) cd := PySem.W.looks_clsIn X hc
  have s0 : PySem.W.Looks (model prog w) hp (storeTaker? none) none := .now
  rw [PySem.W.osa_eq, refuse_eq]
  refine wpAny_bind (wpAny_bind (IA.type.at (wpAny_bind (m0.at ?_))))
  rw [hp1]
  refine wpAny_pure (wpAny_bind (IA.type.at (wpAny_bind ((PySem.W.looks_findIn X hf).at (wpAny_bind (s0.at ?_))))))
  show wpAny _ _ (storeInOwnDict (.ref x) (.ref C) (.str fld tk) fld v false) _ _ _
  obtain ⟨nm, bs, mro, ns, qn, hasD, sn, sb, ab, col, del⟩ := cd
  dsimp only at hd
  subst hd
  unfold storeInOwnDict ownDictForStores
  repeat (first | with_reducible refine PySem.HandSPX.store_in_new ?_ ?_ | with_reducible refine wpAny_loadPart_at hx ?_ | with_reducible refine c0.at ?_ | wp_step)
  · refine ⟨_, #[], _, (Heap.get?_update_ne _ _ _ _ nx.symm).trans (Heap.get?_push_at rfl rfl), rfl, fun e he => ?_, fun _ => rfl⟩
    exact absurd he (by simp)
  · intro h' tk' n1 s1
    have y : (hp.push { cls := .type "dict", data := .dict #[] }).get? x = some { cls := .ref C, data := .fields fv } := Heap.get?_push_of_some _ hx
    exact k h' tk' hp.objs.size (fun b o hb ho => (s1.2 b (Nat.ne_of_lt (Heap.lt_size ho))).trans ((Heap.get?_update_ne _ _ _ _ hb).trans (Heap.get?_push_of_some _ ho))) (Nat.le_refl _) nx.symm ((s1.2 x nx).trans (Heap.get?_update_self _ y rfl)) n1
end
/-- self.f = e, the first field of an exception that is being made -/
def tOstA (K : PySem.W.Frag) (f : Str) (to te : TE) : TS := fun D σ H => te σ H fun y H1 => to σ H1 fun x H2 => ∃ a C : Addr, x = .ref a ∧ OexA K C ∧ PySem.W.findIn K (.ref C) f = some none ∧ H2 a = some (exo a C none) ∧
  ∀ dx, H2 dx = none → dx ≠ a → D.nx σ (upd (upd H2 dx (exd dx [(f, y)])) a (exo a C (some dx)))
section
variable {X : Cx} {pins : List (Addr × Obj)} {σ : St} {H : Hp} {s : Shared} {a C dx : Addr} {f : Str} {y : V} {u : Value} {Q : Unit → Shared → Prop} {E : Value → Shared → Prop} {A : Around}
theorem ostA (T : OexA X.K C) (I : Inv X pins σ H s) (e : H a = some (exo a C none)) (hno : PySem.W.findIn X.K (.ref C) f = some none) (ry : RelV y u)
    (h : ∀ dx s', H dx = none → dx ≠ a → Inv X pins σ (upd (upd H dx (exd dx [(f, y)])) a (exo a C (some dx))) s' → Q () s') : wpAny (model X.prog X.w) A (setAttr (.ref a) f u) Q E s := by
  obtain ⟨B, nw, ini, tl, cs, nm, q, N, bs, sn, sub, ab, col, dd, k0, k1, k2, k3, k5, xb, hC⟩ := T.cls
  have hcl : PySem.W.clsIn X.K C = some { name := nm, bases := bs, mro := .ref C :: (cs.map Value.ref ++ tl), ns := N, qualname := q, hasDict := true, slotNames := sn, subclasses := sub, abstract := ab, collection := col, hasDel := false } := by
    unfold PySem.W.clsIn
    rw [hC] <;> rfl
  obtain ⟨t1, ho⟩ := exo_at I.hok e
  obtain ⟨hp, g, d, t, os⟩ := s
  refine PySem.W.set_plain I.kIn (ox := { cls := .ref C, dict := none, data := .fields #[.ref t1, .none, .none, .none, .bool false, .none] }) (od := none) ⟨ho, rfl, rfl, trivial⟩ T.sa ?_
  refine osa_any I.kIn ho hcl (fun z => refs_pass xb.pass z (C :: cs)) ((refs_has "object" tl (C :: cs)).trans xb.obj) rfl hno (fun h' tk' dx k dn dne hx hn => ?_)
  have hnd : H dx = none := I.hok.fresh dn
  have nd : ∀ {b : Addr} {o : Obj}, hp.get? b = some o → b ≠ dx := fun {b o} z => Nat.ne_of_lt (Nat.lt_of_lt_of_le (Heap.lt_size z) dn)
  have na : ∀ {b : Addr}, H b = none → b ≠ a := fun {b} n z => by rw [z, e] at n; cases n
  have U : Un X.fs [] H (upd (upd H dx (exd dx [(f, y)])) a (exo a C (some dx))) hp h' := by
    refine ⟨fun b o z n _ _ => k b o (na n) z, fun b o z n _ _ => ⟨o.slots, k b o (na n) z⟩, fun b o z n _ => ?_, fun b o z _ => ?_, fun b xs z => ?_, fun b o v z => ?_, fun b ps z => ⟨#[], ?_⟩⟩
    · rw [upd_ne (na n), upd_ne (nd z)]
      exact n
    · by_cases hb : b = a
      · rw [hb]
        exact ⟨_, hx⟩
      · exact ⟨o, k b o hb z⟩
    · rw [upd_ne (at_ne e z exo_tup), upd_ne (ne_of_none z hnd)]
      exact z
    · rw [upd_ne (at_ne e z exo_frz), upd_ne (ne_of_none z hnd)]
      exact z
    · rw [upd_ne (at_ne e z exo_tbl), upd_ne (ne_of_none z hnd), z]
      simp
  refine h dx _ hnd dne (I.un (t' := tk') U fun b o z => ?_)
  by_cases hb : b = a
  · subst hb
    rw [upd_same] at z
    cases z
    exact exo_ok hx
  · rw [upd_ne hb] at z
    by_cases hd : b = dx
    · subst hd
      rw [upd_same] at z
      cases z
      exact exd_ok hn (relO_put (fs := []) ry fun g => True.intro)
    · rw [upd_ne hd] at z
      refine (I.hok b o z).stay (fun c v hc zz => k c v ?_ zz) (fun c hc => ?_) (fun c xs hc => ?_)
      · rcases hc with hc | hc
        · rw [hc]
          exact hb
        · exact at_ne e hc exo_own
      · rw [upd_ne (at_ne e hc exo_own), upd_ne (ne_of_none hc hnd)]
        exact hc
      · rw [upd_ne (at_ne e hc exo_tup), upd_ne (ne_of_none hc hnd)]
        exact hc
theorem ps_ostA {o e : Expr} {to te : TE} {p' pos : Pos} (ho : PE X o to) (he : PE X e te) (hs : swapsWith e (some (.Attribute o f p')) pos.line X.env = pure false := by rfl) : PS X (.Assign [.Attribute o f p'] e pos) (tOstA X.K f to te) := by
  refine ⟨fun pins s σ H D I h => plainObj_wpAny_Assign_Attribute (thn (he.run pins s σ H _ I h) fun v s1 ⟨y, H1, I1, r1, q1⟩ => thn (ho.run pins s1 σ H1 _ I1 q1) fun u s2 hh => ?_) hs⟩
  obtain ⟨x, H2, I2, r2, a, C, rfl, T, hno, ea, q⟩ := hh
  obtain rfl : u = Value.ref a := r2
  exact ostA T I2 ea hno r1 fun dx s' n ne J => ⟨σ, _, J, q dx n ne⟩
end
/-- what such an __init__ does to the exception at a -/
def spKeep (K : PySem.W.Frag) (fld : Str) : Sp := fun vs H Q _ => ∃ (a C : Addr) (y : V), vs = [.ref a, y] ∧ OexA K C ∧ PySem.W.findIn K (.ref C) fld = some none ∧ H a = some (exo a C none) ∧
  ∀ dx, H dx = none → dx ≠ a → Q .non (upd (upd H dx (exd dx [(fld, y)])) a (exo a C (some dx)))
structure ErrC (P : Program) (w : World) (K : PySem.W.Frag) (mg : Str → Option Value) (base : Heap) (k : Nat) (x : Str) (C : Addr) (fld : Str) : Prop where
  oex : OexA K C
  no : PySem.W.findIn K (.ref C) fld = some none
  gl : mg x = some (.ref C)
  ex : ∃ (f : Addr) (fd : FuncData) (ps : List Str), PySem.W.findIn K (.ref C) "__init__" = some (some (.ref f)) ∧ PySem.W.typeIn K (.ref f) = some (.type "function") ∧ FnOk P w K mg base CX0 k f fd ps (spKeep K fld) ∧ Binds K fd ps []
/-- the exception's dict stands at d -/
def tErr (C : Addr) (fld : Str) (ta : TA) : St → Hp → XK → Prop := fun σ H Q => ta σ H fun vs H1 => ∃ y, vs = [y] ∧ ∀ d, H1 d = none → Q (.ref C) (some d) (upd H1 d (.xd [(fld, y)]))
section
variable {X : Cx} {k j : Nat} {x fld : Str} {C : Addr} {e : Expr} {es : List Expr} {ta : TA} {p pos : Pos}
theorem pmk_err (c : ErrC X.prog X.w X.K X.mg X.base k x C fld) (hr : Room j X.A) (hk : k + 1 ≤ j) (hg : Gl X x) (ha : PA X (e :: es) ta)
    (hdb : (x == ("__debug__" : Str)) = false := by decide) (hst : starEach (e :: es) X.env = (false, eval e X.env) :: starEach es X.env := by rfl) (hpl : (backTo pos (starEach es X.env)).any (·.1) = false := by rfl) :
    L2N.PMk X (.Call (.Name x p) (e :: es) [] pos) (tErr C fld ta) := by
  intro pins s σ H Q I h
  obtain ⟨f, fd, ps, fI, tI, Fn, b⟩ := c.ex
  obtain ⟨B, nw, ini, tl, cs, nm, q, N, bs, sn, sub, ab, col, dd, k0, k1, k2, k3, k5, xb, look⟩ := c.oex.cls
  refine wpAny_Call_Name_kw (ld_glob I hg c.gl (PySem.W.callWith_K (h₀ := X.base) I.ok.mod.kin c.oex.kC (thn (ha.run pos pins s σ H _ I h) ?_) hst hpl) hdb)
  rintro us ⟨hp, g, dr, tk, os⟩ ⟨vs, H1, I1, r1, y, rfl, q1⟩
  refine ⟨I1.kIn, ?_⟩
  obtain ⟨u, rfl, ru⟩ := vals1 r1
  show wpAny _ _ (call (.ref C) [u]) _ _ _
  -- the new exception at A
  obtain ⟨a, ea⟩ : ∃ a, a = hp.objs.size + 1 := ⟨_, rfl⟩
  obtain ⟨hq, eq⟩ : ∃ hq, hq = (hp.push (PySem.W.kdv_tup [u])).push (PySem.HandSPX.excO C hp.objs.size) := ⟨_, rfl⟩
  have up : ∀ b o, hp.get? b = some o → hq.get? b = some o := fun b o z => by rw [eq]; exact Heap.get?_push_of_some _ (Heap.get?_push_of_some _ z)
  have there : hq.get? a = some (PySem.HandSPX.excO C hp.objs.size) := by
    rw [eq, ea]
    heap_get
  have ge : hp.objs.size ≤ a := by rw [ea]; exact Nat.le_succ _
  have na : H1 a = none := I1.hok.fresh ge
  have I2 : Inv X pins σ (upd H1 a (exo a C none)) ⟨hq, g, dr, tk, os⟩ := I1.laid (t' := tk) up ge (exo_ok there)
  have r2 : Vals [V.ref a, y] [Value.ref a, u] := .cons rfl (.cons ru .nil)
  have spec : spKeep X.K fld [.ref a, y] (upd H1 a (exo a C none))
      (fun v H2 => v = .non ∧ ∃ d, H1 d = none ∧ d ≠ a ∧ H2 = upd (upd (upd H1 a (exo a C none)) d (exd d [(fld, y)])) a (exo a C (some d))) (fun _ _ _ => False) :=
    ⟨a, C, y, rfl, c.oex, c.no, upd_same, fun d hd ne => ⟨rfl, d, by rwa [upd_ne ne] at hd, ne, rfl⟩⟩
  have ln : ([Value.ref a, u] ++ []).length = ps.length := by
    have z := Fn.len _ _ _ _ spec
    exact z
  have bb := b ⟨hq, g, dr, tk, os⟩ [Value.ref a, u] I2.kIn ln
  rw [List.append_nil] at bb
  refine wpAny_call (PySem.HandSPX.call_own xb.base (fun Y => refs_has Y tl cs) (I1.kIn _ _ look) (PySem.W.looks_findIn I1.kIn fI) (fun self => PySem.W.bind_fn I1.kIn self tI) (by rw [sizeLine_eq]; simp) ?_)
  rw [← eq, ← ea]
  refine codeAny_mono (Fn.run _ X.stack _ _ ⟨[Value.ref a, u], []⟩ [Value.ref a, u] _ _ _ ((hr.mono hk).make C [u] []) (I2.env0.make C [u] []) bb r2 spec) fun r s3 hr3 => ?_
  match r, hr3 with
  | .error _, z => exact (show False from z).elim
  | .ok .next, z => exact False.elim z
  | .ok .brk, z => exact False.elim z
  | .ok .cont, z => exact False.elim z
  | .ok (.ret z), hr3 =>
    obtain ⟨v, H2, os2, bare2, un2, hok2, rv, rfl, d, nd, ne, e2⟩ := hr3
    obtain ⟨h3, g3, d3, t3, os3⟩ := s3
    have ea2 : H2 a = some (exo a C (some d)) := by rw [e2, upd_same]
    have ed2 : H2 d = some (exd d [(fld, y)]) := by rw [e2, upd_ne ne, upd_same]
    obtain ⟨t0, G, J, kG, gN, obj, nn⟩ := mk_end0 (d2 := d3) (t2 := t3) I1 ge up un2 hok2 os2 bare2 ea2 ed2 nd
    have eH : upd (del H2 a) d (.xd [(fld, y)]) = upd H1 d (.xd [(fld, y)]) := by
      funext b
      by_cases hb : b = d
      · rw [hb, upd_same, upd_same]
      · rw [upd_ne hb, upd_ne hb]
        by_cases hba : b = a
        · rw [hba, del_same, na]
        · rw [del_ne hba, e2, upd_ne hba, upd_ne hb, upd_ne hba]
    rw [eH] at J nn
    exact ⟨rv, a, _, _, ⟨G, g3, d3, t3, os3⟩, _, .ref C, some d, rfl, J, kG, gN, obj, ⟨rfl, rfl, fun vs hv => by cases hv; rfl⟩, rfl, rfl, nn, rfl, bare2, raises_own c.oex.exC c.oex.tyC, q1 d nd⟩
end
end L2.G
set_option Elab.async false
set_option linter.all false
set_option maxRecDepth 100000
set_option maxHeartbeats 2000000
namespace L2.G
open PySem PySem.Spec PyProof.Rows L2H
/-! defs, classes and methods that may raise (where nothing is handled) -/
abbrev CN (P : Program) (w : World) : CXT := L2N.CX P w
section
variable {P : Program} {w : World} {K : PySem.W.Frag} {mg : Str → Option Value} {base : Heap} {k : Nat} {f : Addr} {fd : FuncData} {ps N : List Str} {sp : Sp}
/-- a def that raises nothing keeps its promise among those that may -/
theorem _root_.L2.FnOk.n (F : FnOk P w K mg base CX0 k f fd ps sp) : FnOk P w K mg base (CN P w) k f fd ps sp :=
  ⟨F.len, fun A outer s H args us vs Q E hr e0 b r h => codeAny_mono (F.run A outer s H args us vs Q E hr e0 b r h) fun res s' q => match res, q with
    | .error _, q => (show False from q).elim
    | .ok (.ret _), q => q
    | .ok .next, q => q
    | .ok .brk, q => q
    | .ok .cont, q => q⟩
/-- a def by its body, errors may leave it -/
theorem _root_.L2.Fun.okN {x qual : Str} {st : Stmt} (F : Fun K x qual st f fd) (S : FnScope N ps (defScope st)) (len : ∀ vs H Q E, sp vs H Q E → vs.length = ps.length)
    (hbody : ∀ (cdv : Value) (A : Around) (outer : List Env) (s : Shared) (H : Hp) (vs : List V) (Q : VK) (E : XK), Room k (A.deeper (envOfC qual (defScope st) s.heap.objs.size f cdv)) → sp vs H Q E →
      ∃ t, PSs (cxOf (CN P w) P w K mg base N qual (defScope st) f cdv A outer s H E) (defBody st) t ∧ t { nx := fun _ H' => Q .non H', rt := Q } (start N vs) H) : FnOk P w K mg base (CN P w) (k + 1) f fd ps sp := by
  obtain ⟨oc, od, kV, doc, pm, an, cdv, ct, osl, e, lk, hcd⟩ := F.ex
  subst e
  exact fn_of lk hcd S len fun A outer s H vs Q E hr hs => hbody cdv A outer s H vs Q E hr hs
/-- within such a def -/
theorem tkN {qual : Str} {sc : Scope} {cdv : Value} {A : Around} {outer : List Env} {s : Shared} {H : Hp} {E : XK} :
    L2N.Takes (cxOf (CN P w) P w K mg base N qual sc f cdv A outer s H E) (fun cls d _ H' => E cls d H') := L2N.takes_of rfl rfl rfl rfl
theorem psN {qual : Str} {sc : Scope} {cdv : Value} {A : Around} {outer : List Env} {s : Shared} {H : Hp} {E : XK} :
    Passes (CN P w) (cxOf (CN P w) P w K mg base N qual sc f cdv A outer s H E) E := L2N.passes_call tkN fun _ _ _ _ h => h
/-- what raises nothing passes everywhere -/
theorem ps0 {X : Cx} : Passes (CN X.prog X.w) X E0 := fun _ _ _ _ _ _ _ h => by
  obtain ⟨_, _, _, _, _, _, _, _, _, _, _, _, z⟩ := h
  exact z.elim
end
structure CalN (P : Program) (w : World) (K : PySem.W.Frag) (mg : Str → Option Value) (base : Heap) (k : Nat) (x : Str) (sp : Sp) : Prop where
  ex : ∃ (f : Addr) (fd : FuncData) (ps : List Str), FnOk P w K mg base (CN P w) k f fd ps sp ∧ mg x = some (.ref f) ∧ PySem.W.keepIn K (.ref f) = true ∧ Binds K fd ps []
structure MakN (P : Program) (w : World) (K : PySem.W.Frag) (mg : Str → Option Value) (base : Heap) (k : Nat) (x : Str) (C : Addr) (sp : Sp) (dvs : List V) : Prop where
  ex : ∃ (f : Addr) (fd : FuncData) (ps : List Str) (ds : List Value), Mk K C f ∧ FnOk P w K mg base (CN P w) k f fd ps sp ∧ mg x = some (.ref C) ∧ Binds K fd ps ds ∧ Vals dvs ds
structure MetN (P : Program) (w : World) (K : PySem.W.Frag) (mg : Str → Option Value) (base : Heap) (k : Nat) (C : Addr) (m : Str) (sp : Sp) : Prop where
  ex : ∃ (f : Addr) (fd : FuncData) (ps : List Str), Cls K C ∧ Meth K C m f ∧ FnOk P w K mg base (CN P w) k f fd ps sp ∧ Binds K fd ps []
structure CalKN (P : Program) (w : World) (K : PySem.W.Frag) (mg : Str → Option Value) (base : Heap) (k : Nat) (x : Str) (ks : List Str) (gV : List V → List V → List V) (sp : Sp) : Prop where
  ex : ∃ (f : Addr) (fd : FuncData) (ps : List Str) (g : List Value → List Value → List Value), FnOk P w K mg base (CN P w) k f fd ps sp ∧ mg x = some (.ref f) ∧ PySem.W.keepIn K (.ref f) = true ∧ KBn K fd ps 0 ks g gV
structure MakKN (P : Program) (w : World) (K : PySem.W.Frag) (mg : Str → Option Value) (base : Heap) (k : Nat) (x : Str) (C : Addr) (ks : List Str) (gV : List V → List V → List V) (sp : Sp) : Prop where
  ex : ∃ (f : Addr) (fd : FuncData) (ps : List Str) (g : List Value → List Value → List Value), Mk K C f ∧ FnOk P w K mg base (CN P w) k f fd ps sp ∧ mg x = some (.ref C) ∧ KBn K fd ps 1 ks g gV
structure MetKN (P : Program) (w : World) (K : PySem.W.Frag) (mg : Str → Option Value) (base : Heap) (k : Nat) (C : Addr) (m : Str) (ks : List Str) (gV : List V → List V → List V) (sp : Sp) : Prop where
  ex : ∃ (f : Addr) (fd : FuncData) (ps : List Str) (g : List Value → List Value → List Value), Cls K C ∧ Meth K C m f ∧ FnOk P w K mg base (CN P w) k f fd ps sp ∧ KBn K fd ps 1 ks g gV
section
variable {X : Cx} {k j : Nat} {C : Addr} {sp : Sp} {dvs : List V} {E : XK} {x m : Str} {p pos apos : Pos} {e o : Expr} {es : List Expr} {t tk : TA} {ta : TE} {kws : List Keyword} {ks : List Str} {gV : List V → List V → List V}
theorem pe_cN (c : CalN X.prog X.w X.K X.mg X.base k x sp) (hx : Passes (CN X.prog X.w) X E) (hr : Room j X.A) (hk : k ≤ j) (hg : Gl X x) (ha : PA X (e :: es) t)
    (hdb : (x == ("__debug__" : Str)) = false := by decide) (he : starEach (e :: es) X.env = (false, eval e X.env) :: starEach es X.env := by rfl) (hpl : (backTo pos (starEach es X.env)).any (·.1) = false := by rfl) :
    PE X (.Call (.Name x p) (e :: es) [] pos) (tCall sp [] E t) := by
  obtain ⟨f, fd, ps, F, hm, kp, b⟩ := c.ex
  exact pe_call F (hr.mono hk) hg hm kp b .nil hx ha hdb he hpl
theorem pe_mkN (c : MakN X.prog X.w X.K X.mg X.base k x C sp dvs) (hx : Passes (CN X.prog X.w) X E) (hr : Room j X.A) (hk : k + 1 ≤ j) (hg : Gl X x) (ha : PA X (e :: es) t)
    (hdb : (x == ("__debug__" : Str)) = false := by decide) (he : starEach (e :: es) X.env = (false, eval e X.env) :: starEach es X.env := by rfl) (hpl : (backTo pos (starEach es X.env)).any (·.1) = false := by rfl) :
    PE X (.Call (.Name x p) (e :: es) [] pos) (tMake C sp dvs E t) := by
  obtain ⟨f, fd, ps, ds, M, F, hm, b, d⟩ := c.ex
  exact pe_make M F (hr.mono hk) hg hm b d hx ha hdb he hpl
theorem pe_mtN {pl : Sem Bool} (c : MetN X.prog X.w X.K X.mg X.base k C m sp) (hx : Passes (CN X.prog X.w) X E) (hr : Room j X.A) (hk : k ≤ j) (he : PE X o ta) (ha : PA X (e :: es) t)
    (hst : starEach (e :: es) X.env = (false, eval e X.env) :: starEach es X.env := by rfl) (hpl : (backTo pos (starEach es X.env)).any (·.1) = false := by rfl)
    (ht : eval (.Call (.Attribute o m apos) (e :: es) [] pos) X.env = (do
      let ov ← eval o X.env
      standAt apos.atName
      let (f, first) ← holding [ov] (getMethod ov m pl)
      callWith pos f first (backTo pos (starEach (e :: es) X.env)) (backToKw pos (keywordEach [] X.env))) := by rfl) :
    PE X (.Call (.Attribute o m apos) (e :: es) [] pos) (tMeth C m sp [] E ta t) := by
  obtain ⟨f, fd, ps, hc, hm, F, b⟩ := c.ex
  exact pe_meth (pl := pl) he hc hm F (hr.mono hk) b .nil hx ha hst hpl ht
theorem pe_mkKN (c : MakKN X.prog X.w X.K X.mg X.base k x C ks gV sp) (hx : Passes (CN X.prog X.w) X E) (hr : Room j X.A) (hk : k + 1 ≤ j) (hg : Gl X x) (hkw : PK X kws tk)
    (hall : (backToKw pos (keywordEach kws X.env)).all (·.1.isSome) = true := by rfl) (hks : (backToKw pos (keywordEach kws X.env)).filterMap (·.1) = ks := by rfl) (hdb : (x == ("__debug__" : Str)) = false := by decide)
    (hpl : ((backTo pos (starEach [] X.env)).any (·.1) || (backToKw pos (keywordEach kws X.env)).any (·.1.isNone)) = false := by rfl) :
    PE X (.Call (.Name x p) [] kws pos) (tMakeK C 0 ks.length sp gV E tNil tk) := by
  obtain ⟨f, fd, ps, g, M, F, hm, b⟩ := c.ex
  exact pe_makeK0 M F (hr.mono hk) hg hm b hx hkw hall hks hdb hpl
/-- f(k = v, ..) that may raise -/
def tCallKE (n : Nat) (sp : Sp) (gV : List V → List V → List V) (E : XK) (tk : TA) : TE := fun σ H Q => tk σ H fun zs H2 => zs.length = n ∧ sp (gV [] zs) H2 Q E
theorem pe_cKN (c : CalKN X.prog X.w X.K X.mg X.base k x ks gV sp) (hx : Passes (CN X.prog X.w) X E) (hr : Room j X.A) (hk : k ≤ j) (hg : Gl X x) (hkw : PK X kws tk)
    (hall : (backToKw pos (keywordEach kws X.env)).all (·.1.isSome) = true := by rfl) (hks : (backToKw pos (keywordEach kws X.env)).filterMap (·.1) = ks := by rfl) (hdb : (x == ("__debug__" : Str)) = false := by decide)
    (hpl : ((backTo pos (starEach [] X.env)).any (·.1) || (backToKw pos (keywordEach kws X.env)).any (·.1.isNone)) = false := by rfl) :
    PE X (.Call (.Name x p) [] kws pos) (tCallKE ks.length sp gV E tk) := by
  obtain ⟨f, fd, ps, g, F, hm, kp, b⟩ := c.ex
  refine ⟨fun pins s σ H Q I h => wpAny_Call_Name_kw (ld_glob I hg hm ?_ hdb)⟩
  refine PySem.W.callWith_KW0 (h₀ := X.base) I.ok.mod.kin kp hall (thn (hkw.run pos pins s σ H _ I h) ?_) hpl
  rintro ws s2 ⟨zs, H2, I2, rz, l2, q2⟩
  refine ⟨I2.kIn, ?_⟩
  rw [hks]
  exact run_fnN (vs := []) F (hr.mono hk) b hx I2 .nil rz rfl l2 q2
/-- o.m(k = v, ..) that may raise -/
def tMethKE (C : Addr) (m : Str) (n : Nat) (sp : Sp) (gV : List V → List V → List V) (E : XK) (ta : TE) (tk : TA) : TE := fun σ H Q => ta σ H fun x H1 => ∃ a dx fs, x = .ref a ∧ H1 a = some (.ins C dx fs) ∧ fs.lookup m = none ∧ tk σ H1 fun zs H2 => zs.length = n ∧ sp (gV [.ref a] zs) H2 Q E
theorem pe_mtKN {pl : Sem Bool} (c : MetKN X.prog X.w X.K X.mg X.base k C m ks gV sp) (hx : Passes (CN X.prog X.w) X E) (hr : Room j X.A) (hk : k ≤ j) (he : PE X o ta) (hkw : PK X kws tk)
    (hall : (backToKw pos (keywordEach kws X.env)).all (·.1.isSome) = true := by rfl) (hks : (backToKw pos (keywordEach kws X.env)).filterMap (·.1) = ks := by rfl)
    (hpl : ((backTo pos (starEach [] X.env)).any (·.1) || (backToKw pos (keywordEach kws X.env)).any (·.1.isNone)) = false := by rfl)
    (ht : eval (.Call (.Attribute o m apos) [] kws pos) X.env = (do
      let ov ← eval o X.env
      standAt apos.atName
      let (f, first) ← holding [ov] (getMethod ov m pl)
      callWith pos f first (backTo pos (starEach [] X.env)) (backToKw pos (keywordEach kws X.env))) := by rfl) :
    PE X (.Call (.Attribute o m apos) [] kws pos) (tMethKE C m ks.length sp gV E ta tk) := by
  obtain ⟨f, fd, ps, g, cl, hm, F, b⟩ := c.ex
  refine ⟨fun pins s σ H Q I h => PySem.W.methodCall_KW (pl := pl) (thn (he.run pins s σ H _ I h) ?_) ht⟩
  rintro u s1 ⟨y, H1, I1, rx, a, dx, fs, rfl, ea, l, q⟩
  cases (show u = Value.ref a from rx)
  refine getmeth_ok I1 ea cl hm l (PySem.W.callWith_KW0 (first := [.ref a]) (h₀ := X.base) I.ok.mod.kin hm.kp hall (thn (hkw.run pos pins s1 σ H1 _ I1 q) ?_) hpl)
  rintro ws s2 ⟨zs, H2, I2, rz, l2, q2⟩
  refine ⟨I2.kIn, ?_⟩
  rw [hks]
  exact run_fnN (vs := [.ref a]) F (hr.mono hk) b hx I2 (.cons rfl .nil) rz rfl l2 q2
/-- raise C(y) -/
theorem ps_err {W : WX} {fld : Str} {rp : Pos} (c : ErrC X.prog X.w X.K X.mg X.base k x C fld) (hc : X.calm = true) (tk : L2N.Takes X W) (hr : Room j X.A) (hk : k + 1 ≤ j) (hg : Gl X x) (ha : PA X (e :: es) t)
    (hdb : (x == ("__debug__" : Str)) = false := by decide) (hst : starEach (e :: es) X.env = (false, eval e X.env) :: starEach es X.env := by rfl) (hpl : (backTo pos (starEach es X.env)).any (·.1) = false := by rfl) :
    PS X (.Raise (some (.Call (.Name x p) (e :: es) [] pos)) none rp) (fun _ σ H => tErr C fld t σ H fun cls d H' => W cls d σ H') :=
  L2N.ps_raise hc tk (pmk_err c hr hk hg ha hdb hst hpl)
end
end L2.G
set_option Elab.async false
set_option linter.all false
set_option maxRecDepth 100000
set_option maxHeartbeats 2000000
namespace L2.G
open PySem PySem.Spec PyProof.Rows L2H
/-! a def called in an except suite with the exception that is handled; its promise may speak of that exception -/
structure FnE (P : Program) (w : World) (K : PySem.W.Frag) (mg : Str → Option Value) (base : Heap) (k : Nat) (f : Addr) (fd : FuncData) (ps : List Str) (sp : Addr × Obj → Sp) : Prop where
  len : ∀ p vs H Q E, sp p vs H Q E → vs.length = ps.length
  run : ∀ (A : Around) (outer : List Env) (s : Shared) (H : Hp) (args : Args) (us : List Value) (vs : List V) (Q : VK) (p : Addr × Obj), RoomH k A → Hot1 A p → PinOk outer H s p → Env0 P w K mg base A outer s H → BindsTo s fd args (ps.zip us) → Vals vs us → sp p vs H Q E0 →
    codeAny (model P w) A (.call (.ref f) args) (CR CX0 outer P w H s Q E0) s
section
variable {P : Program} {w : World} {K : PySem.W.Frag} {mg : Str → Option Value} {base : Heap} {k : Nat} {f : Addr} {fd : FuncData} {ps N : List Str} {sp : Addr × Obj → Sp}
theorem _root_.L2.Fun.okE {x qual : Str} {st : Stmt} (F : Fun K x qual st f fd) (S : FnScope N ps (defScope st)) (len : ∀ p vs H Q E, sp p vs H Q E → vs.length = ps.length)
    (hbody : ∀ (cdv : Value) (A : Around) (outer : List Env) (s : Shared) (H : Hp) (vs : List V) (Q : VK) (p : Addr × Obj), Hot1 A p → RoomH k (A.deeper (envOfC qual (defScope st) s.heap.objs.size f cdv)) → sp p vs H Q E0 →
      ∃ t, PSs (cxH CX0 P w K mg base N qual (defScope st) f cdv A outer s H E0 p) (defBody st) t ∧ t { nx := fun _ H' => Q .non H', rt := Q } (start N vs) H) : FnE P w K mg base (k + 1) f fd ps sp := by
  obtain ⟨oc, od, kV, doc, pm, an, cdv, ct, osl, e, lk, hcd⟩ := F.ex
  subst e
  refine ⟨len, fun A outer s H args us vs Q p hr hot pin e0 hb r hsp => ?_⟩
  have inS : K.In s.heap := e0.mod.kin.keeps fun b o z => (e0.bs b o z).1
  have noL : s.heap.NoLimit := e0.mod.nolimit.keeps fun b o z => (e0.bs b o z).1
  have kinds : ∀ y ∈ ps.zip us, (defScope st).names.lookup y.1 = some .local ∨ ((defScope st).names.lookup y.1 = some .cell ∧ ((cellsFrom (s.heap.objs.size + 1) (defScope st).names []).lookup y.1).isSome = true) := by
    rintro ⟨n, v⟩ hy
    exact (S.par n (List.of_mem_zip hy).1).imp id fun z => ⟨z, PySem.W.cellsFrom_some _ _ _ (.inl z)⟩
  refine codeAny_call_function hr.depth (inS _ _ lk) rfl S.co S.gen rfl (PySem.W.codeRec_of inS hcd) (hb _ _ _ _ (wpAny_newFunctionEnv_cells S.kind kinds fun env he s1 x => ?_))
  subst he
  obtain ⟨t, ht, hq⟩ := hbody cdv A outer s H vs Q p hot (hr.deeper _) hsp
  have I := inv_startH (CX := CX0) (E := E0) S pin e0 (len _ _ _ _ _ hsp) r x
  refine ⟨noL.keeps x.toInCall.keep, codeAny_func (wpAny_mono (ht.run [] s1 (start N vs) H _ I hq) (fun fl s' hs => ?_) fun _ _ hs => hs)⟩
  match fl, hs with
  | .ret u, ⟨v, σ', H', J, rv, q⟩ => exact ⟨v, H', J.os, J.bare, J.base, J.hok, rv, q⟩
  | .next, ⟨σ', H', J, q⟩ => exact ⟨.non, H', J.os, J.bare, J.base, J.hok, rfl, q⟩
  | .brk, ⟨_, _, _, q⟩ => exact False.elim q
  | .cont, ⟨_, _, _, q⟩ => exact False.elim q
end
section
variable {X : Cx} {k j : Nat} {f : Addr} {fd : FuncData} {ps : List Str} {sp : Addr × Obj → Sp} {x : Str} {q pos : Pos} {e : Expr} {es : List Expr} {t : TA} {p : Addr × Obj}
/-- f(e, ..), p the exception that is handled here -/
theorem pe_callE (F : FnE X.prog X.w X.K X.mg X.base k f fd ps sp) (hot : Hot1 X.A p) (hp : p ∈ X.pn) (hr : RoomH j X.A) (hk : k ≤ j) (hg : Gl X x) (hm : X.mg x = some (.ref f)) (kp : PySem.W.keepIn X.K (.ref f) = true) (hb : Binds X.K fd ps []) (ha : PA X (e :: es) t)
    (hdb : (x == ("__debug__" : Str)) = false := by decide) (he : starEach (e :: es) X.env = (false, eval e X.env) :: starEach es X.env := by rfl) (hpl : (backTo pos (starEach es X.env)).any (·.1) = false := by rfl) :
    PE X (.Call (.Name x q) (e :: es) [] pos) (tCall (sp p) [] E0 t) := by
  refine ⟨fun pins s σ H Q I h => wpAny_Call_Name_kw (ld_glob I hg hm ?_ hdb)⟩
  refine PySem.W.callWith_K (h₀ := X.base) I.ok.mod.kin kp (thn (ha.run pos pins s σ H _ I h) ?_) he hpl
  rintro us s1 ⟨vs, H1, I1, r, w⟩
  refine ⟨I1.kIn, ?_⟩
  rw [List.append_nil] at w
  have ln : us.length = ps.length := r.length.symm.trans (F.len _ _ _ _ _ w)
  have b := hb s1 us I1.kIn (by rw [List.append_nil]; exact ln)
  rw [List.append_nil] at b
  obtain ⟨g, n, l, o, c⟩ := I1.pin p (List.mem_append_left _ hp)
  have pin : PinOk X.stack H1 s1 p := ⟨g, n, fun z => (List.mem_cons.mp (I1.stkSub p.1 z)).elim l o, c⟩
  refine wpAny_call (codeAny_mono (F.run X.A X.stack s1 H1 ⟨us, []⟩ us vs Q p (hr.mono hk) hot pin I1.env0 b r w) fun res s2 z => ?_)
  match res, z with
  | .error _, z => exact (show False from z).elim
  | .ok (.ret u), z => exact I1.after z
  | .ok .next, z => exact False.elim z
  | .ok .brk, z => exact False.elim z
  | .ok .cont, z => exact False.elim z
/-- isinstance(e, c), e an exception that is pinned here: its class D, its dict at d -/
def rIsP (K : PySem.W.Frag) (D a : Addr) (d : Option Addr) : List V → Hp → VK → Prop := fun xs H Q =>
  (d = none ∨ ∃ dd fs, d = some dd ∧ H dd = some (.xd fs)) ∧ ∃ (c : V) (cv : Value) (b : Bool), xs = [.ref a, c] ∧ (∀ u, RelV c u → u = cv) ∧ PySem.W.kitOne K (.ref D) cv = some b ∧ Q (.bl b) H
theorem call_isP {D : Addr} {d : Option Addr} (C : ExcC X.K D) (hp : p ∈ X.pn) (hz : Zc (.ref D) d p.2) (hf : ∃ vs, p.2.data = .fields vs) : CallR X (.builtin "isinstance") (rIsP X.K D p.1 d) := by
  intro pins s σ H xs us Q I r h
  obtain ⟨hd, c, cv, b, rfl, hcv, e, w⟩ := h
  obtain ⟨u, v, rfl, ru, rv⟩ := vals2 r
  cases (show u = Value.ref p.1 from ru)
  cases hcv _ rv
  obtain ⟨vs, ev⟩ := hf
  have ic : (PySem.W.clsIn X.K D).isSome = true := by
    obtain ⟨cd, z, _⟩ := PySem.W.any_some C.hd
    rw [z]
    rfl
  have at_ : ∃ od, PySem.W.InstAt s.heap p.1 p.2 D od := by
    have g := (I.pin p (List.mem_append_left _ hp)).1
    rcases hd with rfl | ⟨dd, fs, rfl, hh⟩
    · exact ⟨none, g, hz.1, by unfold PySem.W.notCls; rw [ev] <;> rfl, by rw [hz.2]; trivial⟩
    · obtain ⟨mA, ns, _⟩ := (show ObjOk X.prog X.w H s.heap dd (.xd fs) from I.hok dd _ hh)
      obtain ⟨od, ho, _⟩ := lookIn_ns ns
      exact ⟨some od, g, hz.1, by unfold PySem.W.notCls; rw [ev] <;> rfl, by rw [hz.2]; exact ho⟩
  obtain ⟨od, at_⟩ := at_
  exact PySem.W.kia_one (PySem.W.kitx_exc ic C.hg C.hk C.hs C.ha C.hn C.ht C.hm) I.kIn at_ e (fun z => nomatch z) fun tk => ⟨.bl b, H, I.kept (t' := tk) fun _ _ z => z, rfl, w⟩
end
/-! [e for x in range(n) if c] -/
section
variable {t te : TE} {tt : TT} {σ : St} {H : Hp} {j : Nat} {Q : VK}
theorem lc_rng_if (n : Nat) (b : Nat → Bool) (f : Nat → V) (ev : t σ H fun v H1 => v = .int n ∧ H1 = H) (hn : n < 100000)
    (test : ∀ (i : Nat) (L : Addr) (acc : List V) (R : Bool → Hp → Prop), i < n → H L = none → R (b i) (upd H L (.lst acc)) → tt ((wipe σ [j]).set j (some (.int i))) (upd H L (.lst acc)) R)
    (elt : ∀ (i : Nat) (L : Addr) (acc : List V) (R : VK), i < n → H L = none → b i = true → R (f i) (upd H L (.lst acc)) → te ((wipe σ [j]).set j (some (.int i))) (upd H L (.lst acc)) R)
    (fin : ∀ L, H L = none → Q (.ref L) (upd H L (.lst (((List.range n).filter b).map f)))) :
    tLc (iRng1 (tCons (eCut t) tNil)) (gName j) tt te [j] σ H Q := by
  refine ⟨_, ev, ?_⟩
  rintro v0 H0 ⟨rfl, e0⟩
  rw [e0]
  refine ⟨n, rfl, by omega, by omega, fun L hL => ?_⟩
  rw [show ((n : Int)).toNat = n from Int.toNat_natCast n]
  refine lc_range (lo := 0) (n := n) (fun i H' => H' = upd H L (.lst (((List.range i).filter b).map f))) rfl ?_ (fun H' e => by rw [e]; exact fin L hL)
  rintro i H' hi rfl
  rw [Int.zero_add]
  refine ⟨wipe1 _ _ _, test i L _ _ hi hL ?_⟩
  have ln : (((List.range i).filter b).map f).length ≤ i := by
    rw [List.length_map]
    exact Nat.le_trans (List.length_filter_le _ _) (by simp)
  cases hb : b i with
  | true =>
    rw [if_pos rfl]
    refine elt i L _ _ hi hL hb ?_
    refine ⟨_, upd_same, by rw [sizeLine_eq]; omega, ?_⟩
    rw [List.range_succ, List.filter_append, List.map_append]
    simp only [List.filter_cons, hb, if_true, List.filter_nil, List.map_cons, List.map_nil]
    funext a
    by_cases ha : a = L
    · rw [ha, upd_same, upd_same]
    · rw [upd_ne ha, upd_ne ha, upd_ne ha]
  | false =>
    rw [if_neg (by simp)]
    rw [List.range_succ, List.filter_append]
    simp [List.filter_cons, hb]
end
end L2.G
set_option Elab.async false
set_option linter.all false
set_option maxRecDepth 100000
set_option maxHeartbeats 2000000
namespace L2.G
open PySem PySem.Spec PyProof.Rows L2H
/-! repr of any data, also while an exception is handled -/
mutual
theorem dp_same {K : PySem.W.Frag} {H H' : Hp} (e : Same H H') : ∀ (d : PyData) (v : V), Dp K H v d → Dp K H' v d
  | .none, _, h => by cases h; exact .non
  | .bool b, _, h => by cases h; exact .bl b
  | .int i, _, h => by cases h; exact .int i
  | .str x, _, h => by cases h; exact .str x
  | .list ds, _, h => by
    cases h with
    | lst hs ha => exact .lst (by rcases hs with (z | ⟨o, z⟩) | z <;> first | exact .inl (.inl (e _ _ z)) | exact .inl (.inr ⟨o, e _ _ z⟩) | exact .inr z) (dp_sameAll e ds _ ha)
  | .tuple ds, _, h => by
    cases h with
    | tup hs ha => exact .tup (by rcases hs with (z | ⟨o, z⟩) | z <;> first | exact .inl (.inl (e _ _ z)) | exact .inl (.inr ⟨o, e _ _ z⟩) | exact .inr z) (dp_sameAll e ds _ ha)
  | .dict _, _, h => by cases h
theorem dp_sameAll {K : PySem.W.Frag} {H H' : Hp} (e : Same H H') : ∀ (ds : List PyData) (vs : List V), DpAll K H vs ds → DpAll K H' vs ds
  | [], _, h => by cases h; exact .nil
  | d :: ds, _, h => by
    cases h with
    | cons h1 h2 => exact .cons (dp_same e d _ h1) (dp_sameAll e ds _ h2)
end
/-- how a value is shown -/
def Shw (K : PySem.W.Frag) (H : Hp) : V → Str → Prop
  | .int i, z => i.natAbs.log2 < 1920 ∧ z = Str.ofString (toString i)
  | .bl b, z => z = if b then Str.ofString "True" else Str.ofString "False"
  | .non, z => z = "None"
  | .str x, z => (reprText x).length ≤ sizeLine ∧ z = reprText x
  | .ref a, z => (∃ d, Dp K H (.ref a) d ∧ d.showable = true ∧ d.hasDict = false ∧ d.depth ≤ 20 ∧ d.shown.length ≤ sizeLine ∧ z = d.shown) ∨ (H a = some (.dK []) ∧ z = (PyData.dict []).shown)
  | _, _ => False
theorem Shw.same {K : PySem.W.Frag} {H H' : Hp} {v : V} {z : Str} (h : Shw K H v z) (e : Same H H') : Shw K H' v z := by
  cases v with
  | ref a =>
    rcases h with ⟨d, h1, h2⟩ | ⟨h1, h2⟩
    · exact .inl ⟨d, dp_same e d _ h1, h2⟩
    · exact .inr ⟨e _ _ h1, h2⟩
  | _ => exact h
def rRp (K : PySem.W.Frag) : List V → Hp → VK → Prop := fun xs H Q => ∃ v z, xs = [v] ∧ Shw K H v z ∧ Q (.str z) H
theorem rRp_mono {K : PySem.W.Frag} : ∀ xs H (Q Q' : VK), (∀ v H', Same H H' → Q v H' → Q' v H') → rRp K xs H Q → rRp K xs H Q' := by
  rintro xs H Q Q' m ⟨v, z, e, s, q⟩
  exact ⟨v, z, e, s, m _ _ (Same.refl H) q⟩
theorem cr_rp {X : Cx} {k : Nat} (qt : Quiet X.A) (hr : RoomH k X.A) : CallR X (.builtin "repr") (rRp X.K) := by
  rintro pins s σ H xs us Q I r ⟨v, z, rfl, h, q⟩
  obtain ⟨u, rfl, ru⟩ := vals1 r
  have un : X.A.units + 30 < cLine := by have := hr.un; omega
  cases v with
  | int i =>
    obtain ⟨t, rfl⟩ := ru
    obtain ⟨h, rfl⟩ := h
    exact PySem.P.repr_of_int h ⟨.str _, H, I.tok _, ⟨_, rfl⟩, q⟩
  | bl b =>
    cases (show u = Value.bool b from ru)
    cases h
    exact PySem.P.repr_of_bool ⟨.str _, H, I.tok _, ⟨_, rfl⟩, q⟩
  | non =>
    cases (show u = Value.none from ru)
    cases h
    exact PySem.P.repr_of_none ⟨.str _, H, I.tok _, ⟨_, rfl⟩, q⟩
  | str x =>
    obtain ⟨t, rfl⟩ := ru
    obtain ⟨h, rfl⟩ := h
    exact PySem.P.repr_of_str ⟨.str _, H, I.tok _, ⟨_, rfl⟩, q⟩ h
  | ref a =>
    cases (show u = Value.ref a from ru)
    rcases h with ⟨d, hd, h1, h2, h3, h4, rfl⟩ | ⟨hd, rfl⟩
    · obtain ⟨as, rd⟩ := Dp.reads I d (.ref a) _ hd rfl
      refine repr_of_reads' rd h1 (fun y => by rw [h2] at y; cases y) qt (by omega) (fun _ _ y => y) (fun h' u tk hk => ?_) h4
      exact ⟨.str d.shown, H, I.kept (t' := tk) hk, ⟨_, rfl⟩, q⟩
    · obtain ⟨_, ns, vs, kv, o, es, ep, e1, e2, e3, _, e4, _⟩ := (show ObjOk X.prog X.w H s.heap a (.dK []) from I.hok a _ hd)
      cases kv
      have z : es.toList = [] := by
        generalize es.toList = l at e4
        cases e4
        rfl
      have rd : Reads s.heap (.ref a) (.dict []) (a :: [] ++ []) := Reads.dict (kvs := []) e1 e2.1 e3 (by rw [z]; exact ReadsAll.nil) (by rw [z]; exact ReadsAll.nil)
      refine repr_of_reads' rd rfl (fun _ y => ?_) qt (by show X.A.units + (_ + 1) < cLine; have : (PyData.dict []).depth ≤ 20 := by decide
                                                          omega) (fun _ _ y => y) (fun h' u tk hk => ?_) (by rw [sizeLine_eq]; decide)
      · have y2 : sysModules = a := by simpa using y
        rw [y2] at ns
        simp at ns
      · exact ⟨.str _, H, I.kept (t' := tk) hk, ⟨_, rfl⟩, q⟩
  | _ => exact h.elim
end L2.G
set_option Elab.async false
set_option linter.all false
set_option maxRecDepth 100000
set_option maxHeartbeats 2000000
namespace L2.G
open PySem PySem.Spec PyProof.Rows
/-! the end of a law whose defs show things and make lambdas: cs, the code objects of the makers and their tables -/
abbrev tabs (cs : List (Addr × Addr)) : List Addr := cs.map (·.2)
/-- nothing but the script and the tables is tracked -/
def OnlyT (cs : List (Addr × Addr)) (H : Hp) : Prop := ∀ b, H b = none ∨ b ∈ tabs cs ∨ ∃ o xs, H b = some (.frz o (.lst xs))
section
variable {P : Program} {w : World} {K : PySem.W.Frag} {mg mb : Str → Option Value} {k : Nat} {fa a : Addr} {cs : List (Addr × Addr)} {fd : FuncData} {x : Str} {sp : Sp} {s₁ : Shared} {vs : List Value} {ns : List Int}
theorem call_fromT (KX : K.In s₁.heap) (hns : s₁.heap.Ns mainGlobals mg) (hb : s₁.heap.Ns builtinsNs mb) (hbb : ∀ x : Str, x ≠ "__name__" → mb x = bootBuiltins x) (hlim : s₁.heap.NoLimit) (hg : s₁.gens = #[])
    (hT : ∀ p ∈ cs, s₁.heap.get? p.2 = some { cls := .none, data := .fields #[] }) (nT : ∀ p ∈ cs, K.lookup p.2 = none) (C : ∀ p ∈ cs, PySem.W.CodeHd s₁.heap p.1 p.2)
    (hbm : ∃ (bm : Addr) (ob : Obj), mg "__builtins__" = some (.ref bm) ∧ bm ≠ builtinsNs ∧ s₁.heap.get? bm = some ob ∧ ob.cls = .type "module" ∧ ob.dict = some builtinsNs ∧ ob.data = .plain)
    (ha : s₁.heap.get? a = some { cls := .type "list", data := .seq vs.toArray }) (hr : Room k callerA)
    (F : ∀ base : Heap, K.In base → base.Ns mainGlobals mg → (∀ p ∈ cs, LamX.TabB base mg p.1 p.2) → FnOkG P w K mg base CX0 k fa fd [x] sp) (hbind : ∀ (s : Shared) (u : Value), BindsTo s fd ⟨[u], []⟩ [(x, u)])
    (H : Hp) (hO : OnlyT cs H) (hH : ∀ p ∈ cs, H p.2 = some (.tbl #[])) (hsp : sp [.ref a] H (fun v _ => v = .bl true) fun _ _ _ => False) (hok : HOk P w H s₁.heap) (hA : ∀ b, H b ≠ none → b = a ∨ b ∈ tabs cs) (hK : H a ≠ none → K.lookup a = none) :
    codeAny (model P w) callerA (.call (.ref fa) ⟨[.ref a], []⟩) (fun r s' => r = .ok (.ret (.bool true)) ∧ OldK s₁.heap s'.heap ∧ s'.os = s₁.os ∧ AllBare s'.gens) s₁ := by
  have tab : ∀ {b}, b ∈ tabs cs → ∃ p ∈ cs, p.2 = b := fun {b} z => by simpa using List.mem_map.mp z
  have some_ne : ∀ {b : Addr} {u : HO}, H b = some u → b = a ∨ b ∈ tabs cs := fun {b u} q => hA b (by rw [q]; exact fun z => nomatch z)
  -- what is neither a sequence nor an empty record is not tracked
  have free : ∀ {b : Addr} {o : Obj}, s₁.heap.get? b = some o → (∀ v n, o.data ≠ .seq v n) → o.data ≠ .fields #[] → H b = none := by
    intro b o e n1 n2
    match q : H b with
    | none => rfl
    | some u =>
      rcases some_ne q with rfl | z
      · rw [ha] at e
        cases e
        exact absurd rfl (n1 _ _)
      · obtain ⟨p, hp, rfl⟩ := tab z
        rw [hT p hp] at e
        cases e
        exact absurd rfl n2
  have ns' : ∀ {b : Addr} {m : Str → Option Value}, s₁.heap.Ns b m → (hidT s₁.heap H).Ns b m := by
    rintro b m ⟨o, es, ep, e, d, r⟩
    exact ⟨o, es, ep, hidT_get e (free e (by rw [d]; exact fun _ _ z => nomatch z) (by rw [d]; exact fun z => nomatch z)), d, r⟩
  have inB : K.In (hidT s₁.heap H) := by
    intro b o e
    refine hidT_get (KX b o e) ?_
    match q : H b with
    | none => rfl
    | some u =>
      rcases some_ne q with rfl | z
      · rw [hK (by rw [q]; exact fun z => nomatch z)] at e
        cases e
      · obtain ⟨p, hp, rfl⟩ := tab z
        rw [nT p hp] at e
        cases e
  have md : Mod K mg (hidT s₁.heap H) := by
    obtain ⟨mc, h1, h2⟩ := hlim
    exact ⟨inB, ns' hns, ⟨mb, ns' hb, hbb⟩, mc, ns' h1, h2⟩
  have tb : ∀ p ∈ cs, LamX.TabB (hidT s₁.heap H) mg p.1 p.2 := by
    intro p hp
    have t := hT p hp
    obtain ⟨og, es, ep, eg, dg, _⟩ := hns
    constructor
    · obtain ⟨o, us, file, tf, fl, tg, inF, tx, tt, e, c1, c2, c3, rest⟩ := C p hp
      refine ⟨o, us, file, tf, fl, tg, inF, tx, tt, hidT_get e (free e (by rw [c2]; exact fun _ _ z => nomatch z) (fun z => ?_)), c1, c2, c3, rest⟩
      rw [c2] at z
      cases z
      simp at c3
    · obtain ⟨bm, ob, b1, b2, b3, b4, b5, b6⟩ := hbm
      refine ⟨bm, ob, b1, b2, fun z => ?_, fun z => ?_, hidT_get b3 (free b3 (by rw [b6]; exact fun _ _ z => nomatch z) (by rw [b6]; exact fun z => nomatch z)), b4, b5, b6⟩
      · rw [z, eg] at b3
        cases b3
        rw [dg] at b6
        cases b6
      · rw [z, t] at b3
        cases b3
        cases b6
    · intro z
      rw [z, t] at eg
      cases eg
      cases dg
  have e0 : Env0 P w K mg (hidT s₁.heap H) callerA [] s₁ H := ⟨rfl, md, fun _ _ e => of_hidT e, Nat.le_of_eq (hidT_size _ _), trivial, fun b hb => (nomatch (show b ∈ ([] : List Addr) from hb)), hok, .of_eq hg⟩
  refine codeAny_mono ((F _ inB (ns' hns) tb).run callerA [] s₁ H ⟨[.ref a], []⟩ [.ref a] [.ref a] _ _ quiet_caller hr e0 (hbind s₁ (.ref a)) (.cons rfl .nil) hsp) fun r s' h => ?_
  match r, h with
  | .error _, h => exact False.elim h
  | .ok .next, h => exact False.elim h
  | .ok .brk, h => exact False.elim h
  | .ok .cont, h => exact False.elim h
  | .ok (.ret u), ⟨v, H', os, bare, un, hok', r', q⟩ =>
    cases (show v = .bl true from q)
    cases (show u = Value.bool true from r')
    have kept : ∀ b o, b ∉ tabs cs → s₁.heap.get? b = some o → s'.heap.get? b = some o := by
      intro b o nb e
      rcases hO b with z | z | ⟨ob, xs, z⟩
      · exact un.keep b o e z (fun y => nomatch (show b ∈ ([] : List Addr) from y)) (fun y => nomatch y)
      · exact absurd z nb
      · have e1 := (hok b _ z).1
        rw [e] at e1
        cases e1
        exact (hok' b _ (un.frzs b _ _ z)).1
    have grown : ∀ p ∈ cs, ∃ more : Array Value, s'.heap.get? p.2 = some { cls := .none, data := .fields more } := fun p hp => by
      obtain ⟨more, z⟩ := un.tbls p.2 #[] (hH p hp)
      exact ⟨_, hok' p.2 _ z⟩
    refine ⟨rfl, ⟨fun b o e => ?_, fun b o e => ?_⟩, os, bare⟩
    · by_cases z : b ∈ tabs cs
      · obtain ⟨p, hp, rfl⟩ := tab z
        obtain ⟨more, m⟩ := grown p hp
        rw [hT p hp] at e
        cases e
        exact .inr (.inl ⟨((C p hp).tab (hT p hp)).isCodeTable, rfl, #[], more, rfl, by rw [Array.empty_append]; exact m⟩)
      · exact .inl (kept b o z e)
    · by_cases z : b ∈ tabs cs
      · obtain ⟨p, hp, rfl⟩ := tab z
        obtain ⟨more, m⟩ := grown p hp
        exact ⟨_, m⟩
      · exact ⟨o, kept b o z e⟩
theorem law_callGT (KX : K.In s₁.heap) (hns : s₁.heap.Ns mainGlobals mg) (hb : s₁.heap.Ns builtinsNs mb) (hbb : ∀ x : Str, x ≠ "__name__" → mb x = bootBuiltins x) (hlim : s₁.heap.NoLimit) (hg : s₁.gens = #[])
    (hT : ∀ p ∈ cs, s₁.heap.get? p.2 = some { cls := .none, data := .fields #[] }) (nT : ∀ p ∈ cs, K.lookup p.2 = none) (C : ∀ p ∈ cs, PySem.W.CodeHd s₁.heap p.1 p.2)
    (hbm : ∃ (bm : Addr) (ob : Obj), mg "__builtins__" = some (.ref bm) ∧ bm ≠ builtinsNs ∧ s₁.heap.get? bm = some ob ∧ ob.cls = .type "module" ∧ ob.dict = some builtinsNs ∧ ob.data = .plain)
    (ha : s₁.heap.get? a = some { cls := .type "list", data := .seq vs.toArray }) (hi : IntsAre vs ns) (hl : ns.length ≤ sizeLine) (hr : Room k callerA)
    (F : ∀ base : Heap, K.In base → base.Ns mainGlobals mg → (∀ p ∈ cs, LamX.TabB base mg p.1 p.2) → FnOkG P w K mg base CX0 k fa fd [x] sp) (hbind : ∀ (s : Shared) (u : Value), BindsTo s fd ⟨[u], []⟩ [(x, u)])
    (hsp : ∀ H : Hp, OnlyT cs H → (∀ p ∈ cs, H p.2 = some (.tbl #[])) → SqL K H a (ns.map V.int) → sp [.ref a] H (fun v _ => v = .bl true) fun _ _ _ => False) :
    codeAny (model P w) callerA (.call (.ref fa) ⟨[.ref a], []⟩) (fun r s' => r = .ok (.ret (.bool true)) ∧ OldK s₁.heap s'.heap ∧ s'.os = s₁.os ∧ AllBare s'.gens) s₁ := by
  have go := call_fromT (P := P) (w := w) (sp := sp) KX hns hb hbb hlim hg hT nT C hbm ha hr F hbind
  have isT : ∀ b ∈ tabs cs, s₁.heap.get? b = some { cls := .none, data := .fields #[] } := fun b z => by
    obtain ⟨p, hp, rfl⟩ := List.mem_map.mp z
    exact hT p hp
  have aT : a ∉ tabs cs := fun z => by
    have e := isT a z
    rw [ha] at e
    cases e
  match hk : K.lookup a with
  | some o =>
    have e := KX a o hk
    rw [ha] at e
    cases e
    let H : Hp := fun b => if b ∈ tabs cs then some (.tbl #[]) else none
    have on : ∀ b, b ∈ tabs cs → H b = some (.tbl #[]) := fun b z => if_pos z
    have off : ∀ b, b ∉ tabs cs → H b = none := fun b z => if_neg z
    have only : OnlyT cs H := fun b => by
      by_cases z : b ∈ tabs cs
      · exact .inr (.inl z)
      · exact .inl (off b z)
    have hH : ∀ p ∈ cs, H p.2 = some (.tbl #[]) := fun p hp => on _ (List.mem_map.mpr ⟨p, hp, rfl⟩)
    refine go H only hH (hsp H only hH (.inr ⟨_, vs.toArray, _, hk, rfl, rfl, rfl, ?_, ?_⟩)) (fun b u z => ?_) (fun b z => ?_) fun z => absurd (off a aT) z
    · rw [List.size_toArray, hi.length]
      exact hl
    · simpa using vals_ints hi
    · by_cases y : b ∈ tabs cs
      · rw [on b y] at z
        cases z
        exact isT b y
      · rw [off b y] at z
        cases z
    · by_cases y : b ∈ tabs cs
      · exact .inr y
      · exact absurd (off b y) z
  | none =>
    let H : Hp := fun b => if b = a then some (.frz { cls := .type "list", data := .seq vs.toArray } (.lst (ns.map V.int))) else if b ∈ tabs cs then some (.tbl #[]) else none
    have at_ : H a = some (.frz { cls := .type "list", data := .seq vs.toArray } (.lst (ns.map V.int))) := if_pos rfl
    have on : ∀ b, b ∈ tabs cs → H b = some (.tbl #[]) := fun b z => (if_neg (fun y : b = a => aT (y ▸ z))).trans (if_pos z)
    have off : ∀ b, b ≠ a → b ∉ tabs cs → H b = none := fun b n z => (if_neg n).trans (if_neg z)
    have only : OnlyT cs H := fun b => by
      by_cases n : b = a
      · exact n ▸ .inr (.inr ⟨_, _, at_⟩)
      · by_cases z : b ∈ tabs cs
        · exact .inr (.inl z)
        · exact .inl (off b n z)
    have hH : ∀ p ∈ cs, H p.2 = some (.tbl #[]) := fun p hp => on _ (List.mem_map.mpr ⟨p, hp, rfl⟩)
    refine go H only hH (hsp H only hH (.inl (.inr ⟨_, at_⟩))) (fun b u z => ?_) (fun b z => ?_) fun _ => hk
    · by_cases n : b = a
      · subst n
        rw [at_] at z
        cases z
        refine ⟨ha, ?_, vs, _, vals_ints hi, ha⟩
        rw [List.length_map]
        exact hl
      · by_cases y : b ∈ tabs cs
        · rw [on b y] at z
          cases z
          exact isT b y
        · rw [off b n y] at z
          cases z
    · by_cases n : b = a
      · exact .inl n
      · by_cases y : b ∈ tabs cs
        · exact .inr y
        · exact absurd (off b n y) z
end
/-- what is known of the law's promise at the head's heap h -/
def LawG (l : PySem.W.OpenLaw) (w : World) (K : PySem.W.Frag) (k n : Nat) (x : Str) (mg : Str → Option Value) (fa : Addr) (h : Heap) : Prop :=
  ∃ (fd : FuncData) (cs : List (Addr × Addr)) (sp : Sp), (∀ p ∈ cs, h.get? p.2 = some { cls := .none, data := .fields #[] }) ∧ (∀ p ∈ cs, K.lookup p.2 = none) ∧ (∀ p ∈ cs, PySem.W.CodeHd h p.1 p.2) ∧ (∀ (s : Shared) (u : Value), BindsTo s fd ⟨[u], []⟩ [(x, u)]) ∧
    (∀ (H : Hp) (a : Addr) (ns : List Int), ns.length ≤ n → OnlyT cs H → (∀ p ∈ cs, H p.2 = some (.tbl #[])) → SqL K H a (ns.map V.int) → sp [.ref a] H (fun v _ => v = .bl true) fun _ _ _ => False) ∧
    ∀ base : Heap, K.In base → base.Ns mainGlobals mg → (∀ p ∈ cs, LamX.TabB base mg p.1 p.2) → FnOkG l.prog w K mg base CX0 k fa fd [x] sp
theorem walk_ofGT {l : PySem.W.OpenLaw} {n k : Nat} {q : Program} {loose : List Str} {XP : (Str → Option Value) → Heap → Prop} {YP : World → Heap → Prop} {d : DefRec} {K : Params → PySem.W.Frag} {x : Str}
    (hn : l.most = some n) (hn2 : n ≤ sizeLine) (hdf : d.params.defaults = []) (hr : Room k callerA) (hY : ∀ (w : World) (h : Heap), YP w h → (K w.params).In h)
    (F : ∀ (w : World) (mg : Str → Option Value) (fa : Addr) (h : Heap), YP w h → (K w.params).In h → h.Ns mainGlobals mg → mg d.name = some (.ref fa) → LawG l w (K w.params) k n x mg fa h) :
    PySem.W.WalkO q loose XP YP l.row.toRowW d [] (fun f vs => PySem.call f vs) := by
  refine Att.attach_call hn hdf fun w s₀ s₁ mg mb fa o pm cd doc a vs ns G Y ho hd hcd hmg hobj hints hlen hg => ?_
  obtain ⟨fd, cs, sp, hT, nT, C, hb, hsp, hF⟩ := F w mg fa _ Y (hY w _ Y) G.T.g hmg
  exact law_callGT (hY w _ Y) G.T.g G.T.b G.T.builtins G.T.nolimit hg hT nT C G.T.bmain hobj hints (Nat.le_trans hlen hn2) hr hF hb fun H hO hH hS => hsp H a ns hlen hO hH hS
end L2.G
set_option Elab.async false
set_option linter.all false
set_option maxRecDepth 100000
set_option maxHeartbeats 2000000
namespace L2.G
open PySem PySem.Spec PyProof.Rows
/-! data, without the heap -/
inductive D where
  | non | bl (b : Bool) | int (i : Int) | str (z : Str)
  | tup (xs : List D) | lst (xs : List D) | dic
  | ins (C : Str) (ns : List Str) (ds : List D)
  | cup
  | scr (ns : List Int)
/-- the state of the draws -/
abbrev Cu := Option (Int × Int)
/-- an error: its class, its fields -/
structure Xc where
  cls : Str
  ns : List Str
  ds : List D
/-- an answer: stuck, a value, an error -/
inductive R (α : Type) where
  | no
  | ok (a : α) (c : Cu)
  | er (x : Xc) (c : Cu)
def R.bind {α β : Type} : R α → (α → Cu → R β) → R β
  | .no, _ => .no
  | .ok a c, f => f a c
  | .er x c, _ => .er x c
theorem R.no_bind {α β : Type} (f : α → Cu → R β) : (R.no : R α).bind f = .no := rfl
theorem R.ok_bind {α β : Type} (a : α) (c : Cu) (f : α → Cu → R β) : (R.ok a c).bind f = f a c := rfl
theorem R.er_bind {α β : Type} (x : Xc) (c : Cu) (f : α → Cu → R β) : (R.er x c : R α).bind f = .er x c := rfl
def ofO {α : Type} : Option α → Cu → R α
  | some a, c => .ok a c
  | none, _ => .no
theorem ofO_some {α : Type} (a : α) (c : Cu) : ofO (some a) c = .ok a c := rfl
theorem ofO_none {α : Type} (c : Cu) : ofO (none : Option α) c = .no := rfl
abbrev PSt := List (Option D)
abbrev PM (α : Type) := PSt → Cu → R α
/-! where data stands -/
/-- what may be written without being one's own: the cup of draws, the tables of code objects -/
structure Pc where
  cup : Option Addr
  tabs : List (Addr × Str)
def Off (pc : Pc) (b : Addr) : Prop := some b ≠ pc.cup ∧ ∀ p ∈ pc.tabs, p.1 ≠ b
structure Ga where
  K : PySem.W.Frag
  cm : Str → Addr
  cs : List Str
  pc : Pc
/-- a text that can be held and laid -/
def txtOk (z : Str) : Bool := decide (z.length ≤ sizeLine) && z.cps.all (· < 0x110000)
theorem txtOk_len {z : Str} (h : txtOk z = true) : z.length ≤ sizeLine := of_decide_eq_true (Bool.and_eq_true_iff.mp h).1
theorem txtOk_all {z : Str} (h : txtOk z = true) : z.cps.all (· < 0x110000) = true := (Bool.and_eq_true_iff.mp h).2
theorem txtOk_iff {z : Str} : txtOk z = true ↔ z.cps.toList.length ≤ sizeLine ∧ ∀ c ∈ z.cps.toList, c < 0x110000 := by
  unfold txtOk
  rw [Bool.and_eq_true, decide_eq_true_eq, Array.length_toList, ← Array.all_toList, List.all_eq_true]
  simp only [decide_eq_true_eq]
  rfl
mutual
def Rl (g : Ga) (H : Hp) : D → V → Prop
  | .non, v => v = .non
  | .bl b, v => v = .bl b
  | .int i, v => v = .int i
  | .str z, v => v = .str z ∧ txtOk z = true
  | .tup ds, v => ∃ a vs, v = .ref a ∧ SqT g.K H a vs ∧ ds.length ≤ sizeLine ∧ RlL g H ds vs
  | .lst ds, v => ∃ a vs, v = .ref a ∧ H a = some (.lst vs) ∧ ds.length ≤ sizeLine ∧ RlL g H ds vs
  | .dic, v => ∃ a, v = .ref a ∧ H a = some (.dK [])
  | .ins C ns ds, v => C ∈ g.cs ∧ ∃ a dx gs, v = .ref a ∧ H a = some (.ins (g.cm C) dx gs) ∧ gs.map (·.1) = ns ∧ RlL g H ds (gs.map (·.2))
  | .cup, v => ∃ a, g.pc.cup = some a ∧ v = .ref a
  | .scr ns, v => ∃ a, v = .ref a ∧ SqL g.K H a (ns.map V.int)
def RlL (g : Ga) (H : Hp) : List D → List V → Prop
  | [], vs => vs = []
  | d :: ds, vs => ∃ v r, vs = v :: r ∧ Rl g H d v ∧ RlL g H ds r
end
theorem seqT_mono {K : PySem.W.Frag} {H H' : Hp} {a : Addr} {xs : List V} (e : Same H H') (h : SqT K H a xs) : SqT K H' a xs := Evl.ex_t e h
mutual
theorem Rl.mono {g : Ga} {H H' : Hp} (e : Same H H') : ∀ (d : D) (v : V), Rl g H d v → Rl g H' d v
  | .non, v, h => by unfold Rl at h ⊢; exact h
  | .bl b, v, h => by unfold Rl at h ⊢; exact h
  | .int i, v, h => by unfold Rl at h ⊢; exact h
  | .str z, v, h => by unfold Rl at h ⊢; exact h
  | .tup ds, v, h => by
    unfold Rl at h ⊢
    obtain ⟨a, vs, h1, h2, h0, h3⟩ := h
    exact ⟨a, vs, h1, seqT_mono e h2, h0, RlL.mono e ds vs h3⟩
  | .lst ds, v, h => by
    unfold Rl at h ⊢
    obtain ⟨a, vs, h1, h2, h0, h3⟩ := h
    exact ⟨a, vs, h1, e _ _ h2, h0, RlL.mono e ds vs h3⟩
  | .dic, v, h => by
    unfold Rl at h ⊢
    obtain ⟨a, h1, h2⟩ := h
    exact ⟨a, h1, e _ _ h2⟩
  | .ins C ns ds, v, h => by
    unfold Rl at h ⊢
    obtain ⟨hC, a, dx, gs, h1, h2, h3, h4⟩ := h
    exact ⟨hC, a, dx, gs, h1, e _ _ h2, h3, RlL.mono e ds _ h4⟩
  | .cup, v, h => by unfold Rl at h ⊢; exact h
  | .scr ns, v, h => by
    unfold Rl at h ⊢
    obtain ⟨a, h1, h2⟩ := h
    exact ⟨a, h1, Evl.ex_l e h2⟩
theorem RlL.mono {g : Ga} {H H' : Hp} (e : Same H H') : ∀ (ds : List D) (vs : List V), RlL g H ds vs → RlL g H' ds vs
  | [], vs, h => by unfold RlL at h ⊢; exact h
  | d :: ds, vs, h => by
    unfold RlL at h ⊢
    obtain ⟨v, r, h1, h2, h3⟩ := h
    exact ⟨v, r, h1, Rl.mono e d v h2, RlL.mono e ds r h3⟩
end
section
variable {g : Ga} {H : Hp} {v : V} {vs : List V} {d : D} {ds : List D}
theorem rl_non : Rl g H .non v ↔ v = .non := by unfold Rl; rfl
theorem rl_bl {b : Bool} : Rl g H (.bl b) v ↔ v = .bl b := by unfold Rl; rfl
theorem rl_int {i : Int} : Rl g H (.int i) v ↔ v = .int i := by unfold Rl; rfl
theorem rl_str {z : Str} : Rl g H (.str z) v ↔ v = .str z ∧ txtOk z = true := by unfold Rl; rfl
theorem rl_tup : Rl g H (.tup ds) v ↔ ∃ a vs, v = .ref a ∧ SqT g.K H a vs ∧ ds.length ≤ sizeLine ∧ RlL g H ds vs := by unfold Rl; rfl
theorem rl_lst : Rl g H (.lst ds) v ↔ ∃ a vs, v = .ref a ∧ H a = some (.lst vs) ∧ ds.length ≤ sizeLine ∧ RlL g H ds vs := by unfold Rl; rfl
theorem rl_dic : Rl g H .dic v ↔ ∃ a, v = .ref a ∧ H a = some (.dK []) := by unfold Rl; rfl
theorem rl_ins {C : Str} {ns : List Str} : Rl g H (.ins C ns ds) v ↔ C ∈ g.cs ∧ ∃ a dx gs, v = .ref a ∧ H a = some (.ins (g.cm C) dx gs) ∧ gs.map (·.1) = ns ∧ RlL g H ds (gs.map (·.2)) := by unfold Rl; rfl
theorem rl_cup : Rl g H .cup v ↔ ∃ a, g.pc.cup = some a ∧ v = .ref a := by unfold Rl; rfl
theorem rl_scr {ns : List Int} : Rl g H (.scr ns) v ↔ ∃ a, v = .ref a ∧ SqL g.K H a (ns.map V.int) := by unfold Rl; rfl
theorem rll_nil : RlL g H [] vs ↔ vs = [] := by unfold RlL; rfl
theorem rll_cons : RlL g H (d :: ds) vs ↔ ∃ v r, vs = v :: r ∧ Rl g H d v ∧ RlL g H ds r := Iff.of_eq (by rw [RlL])
theorem RlL.length : ∀ {ds : List D} {vs : List V}, RlL g H ds vs → vs.length = ds.length
  | [], vs, h => by rw [rll_nil.mp h]; rfl
  | d :: ds, vs, h => by
    obtain ⟨v, r, rfl, _, h⟩ := rll_cons.mp h
    simp [RlL.length h]
theorem RlL.append : ∀ {ds es : List D} {vs us : List V}, RlL g H ds vs → RlL g H es us → RlL g H (ds ++ es) (vs ++ us)
  | [], es, vs, us, h, k => by rw [rll_nil.mp h]; exact k
  | d :: ds, es, vs, us, h, k => by
    obtain ⟨v, r, rfl, h1, h⟩ := rll_cons.mp h
    exact rll_cons.mpr ⟨v, _, rfl, h1, RlL.append h k⟩
theorem RlL.get : ∀ {ds : List D} {vs : List V} {i : Nat} {d : D}, RlL g H ds vs → ds[i]? = some d → ∃ v, vs[i]? = some v ∧ Rl g H d v
  | [], _, _, _, _, e => by simp at e
  | x :: ds, vs, 0, d, h, e => by
    obtain ⟨v, r, rfl, h1, h⟩ := rll_cons.mp h
    simp at e
    subst e
    exact ⟨v, rfl, h1⟩
  | x :: ds, vs, i + 1, d, h, e => by
    obtain ⟨v, r, rfl, h1, h⟩ := rll_cons.mp h
    obtain ⟨u, e2, q⟩ := RlL.get (i := i) (d := d) h (by simpa using e)
    exact ⟨u, by simpa using e2, q⟩
theorem RlL.getV : ∀ {ds : List D} {vs : List V} {i : Nat} {v : V}, RlL g H ds vs → vs[i]? = some v → ∃ d, ds[i]? = some d ∧ Rl g H d v := by
  intro ds vs i v h e
  have hl := h.length
  have hi : i < ds.length := by
    have := (List.getElem?_eq_some_iff.mp e).1
    omega
  obtain ⟨u, e2, q⟩ := h.get (i := i) (d := ds[i]) (by simp [hi])
  rw [e] at e2
  cases e2
  exact ⟨_, by simp [hi], q⟩
theorem RlL.set : ∀ {ds : List D} {vs : List V} (i : Nat) {d : D} {v : V}, RlL g H ds vs → Rl g H d v → RlL g H (ds.set i d) (vs.set i v)
  | [], vs, _, _, _, h, _ => by rw [rll_nil.mp h]; exact rll_nil.mpr rfl
  | x :: ds, vs, 0, d, v, h, q => by
    obtain ⟨u, r, rfl, h1, h⟩ := rll_cons.mp h
    exact rll_cons.mpr ⟨v, r, rfl, q, h⟩
  | x :: ds, vs, i + 1, d, v, h, q => by
    obtain ⟨u, r, rfl, h1, h⟩ := rll_cons.mp h
    exact rll_cons.mpr ⟨u, _, rfl, h1, RlL.set i h q⟩
theorem RlL.take : ∀ {ds : List D} {vs : List V} (n : Nat), RlL g H ds vs → RlL g H (ds.take n) (vs.take n)
  | _, _, 0, _ => by simp [rll_nil]
  | [], vs, n + 1, h => by rw [rll_nil.mp h]; exact rll_nil.mpr rfl
  | x :: ds, vs, n + 1, h => by
    obtain ⟨u, r, rfl, h1, h⟩ := rll_cons.mp h
    exact rll_cons.mpr ⟨u, _, rfl, h1, RlL.take n h⟩
theorem RlL.drop : ∀ {ds : List D} {vs : List V} (n : Nat), RlL g H ds vs → RlL g H (ds.drop n) (vs.drop n)
  | _, _, 0, h => h
  | [], vs, n + 1, h => by rw [rll_nil.mp h]; exact rll_nil.mpr rfl
  | x :: ds, vs, n + 1, h => by
    obtain ⟨u, r, rfl, h1, h⟩ := rll_cons.mp h
    exact RlL.drop n h
theorem RlL.map {α : Type} (f : α → D) (k : α → V) : ∀ {l : List α}, (∀ x ∈ l, Rl g H (f x) (k x)) → RlL g H (l.map f) (l.map k)
  | [], _ => rll_nil.mpr rfl
  | x :: l, h => rll_cons.mpr ⟨k x, _, rfl, h x (by simp), RlL.map f k fun y hy => h y (by simp [hy])⟩
end
/-! growth -/
def CupC (pc : Option Addr) (Hs H : Hp) (c : Cu) : Prop := match pc, c with
  | none, none => True
  | some p, some (a, b) => Hs p = none ∧ H p = some (.lst [.int a, .int b])
  | _, _ => False
structure CupAt (pc : Pc) (Hs H : Hp) (c : Cu) : Prop where
  cp : CupC pc.cup Hs H c
  tb : LamX.Tabs pc.tabs H
  th : ∀ p ∈ pc.tabs, Hs p.1 = none
  nt : ∀ b ps, Hs b ≠ some (.tbl ps)
/-- no table -/
def Nt (o : HO) : Prop := ∀ ps, o ≠ .tbl ps
/-- nothing but a table may stand there -/
def Fr (H : Hp) (p : Addr) : Prop := ∀ o, Nt o → H p ≠ some o
theorem fr_none {H : Hp} {p : Addr} (h : H p = none) : Fr H p := fun o _ e => by rw [h] at e; cases e
theorem ne_fr {H : Hp} {p b : Addr} {u : HO} (e : H b = some u) (t : Nt u) (h : Fr H p) : b ≠ p := fun z => h u t (z ▸ e)
structure Fn (pc : Pc) (Hs H Hs' H' : Hp) (c' : Cu) : Prop where
  ss : Same Hs Hs'
  bt : ∀ b o, Off pc b → Nt o → H b = some o → H' b = some o
  nw : ∀ b o, Nt o → H b = some o → Hs b = none → Hs' b = none
  sm : Same Hs' H'
  cu : CupAt pc Hs' H' c'
section
variable {pc : Pc} {Hs H Hs1 H1 Hs2 H2 Hs' H' : Hp} {c c1 c2 : Cu}
theorem CupAt.off (h : CupAt pc Hs H c) {p : Addr} (n : ¬ Off pc p) : Hs p = none := by
  by_cases z : some p = pc.cup
  · have q := h.cp
    rw [← z] at q
    unfold CupC at q
    cases c with
    | none => exact q.elim
    | some ab => exact q.1
  · by_cases y : ∀ q ∈ pc.tabs, q.1 ≠ p
    · exact absurd ⟨z, y⟩ n
    · obtain ⟨q, hq, e⟩ : ∃ q ∈ pc.tabs, q.1 = p := by
        refine Classical.byContradiction fun w => y fun q hq e => w ⟨q, hq, e⟩
      rw [← e]
      exact h.th q hq
theorem CupAt.on {p : Addr} (h : CupAt pc Hs H c) (hp : pc.cup = some p) : ∃ a b, c = some (a, b) ∧ H p = some (.lst [.int a, .int b]) := by
  have q := h.cp
  rw [hp] at q
  unfold CupC at q
  cases c with
  | none => exact q.elim
  | some ab => exact ⟨_, _, rfl, q.2⟩
theorem CupAt.none_c {c : Cu} (h : CupAt pc Hs H c) (hp : pc.cup = none) : c = none := by
  have q := h.cp
  rw [hp] at q
  unfold CupC at q
  cases c with
  | none => rfl
  | some ab => exact q.elim
/-- what may be written is there -/
theorem CupAt.is (h : CupAt pc Hs H c) {p : Addr} (n : ¬ Off pc p) : ∃ o, H p = some o := by
  by_cases z : some p = pc.cup
  · obtain ⟨a, b, _, e⟩ := h.on z.symm
    exact ⟨_, e⟩
  · by_cases y : ∀ q ∈ pc.tabs, q.1 ≠ p
    · exact absurd ⟨z, y⟩ n
    · obtain ⟨q, hq, e⟩ : ∃ q ∈ pc.tabs, q.1 = p := by
        refine Classical.byContradiction fun w => y fun q hq e => w ⟨q, hq, e⟩
      obtain ⟨ps, h1, _⟩ := h.tb q hq
      rw [← e]
      exact ⟨_, h1⟩
theorem CupAt.ne (h : CupAt pc Hs H c) {p : Addr} (np : H p = none) : Off pc p := by
  refine Classical.byContradiction fun n => ?_
  obtain ⟨o, e⟩ := h.is n
  rw [np] at e
  cases e
/-- the heap grows or changes elsewhere -/
theorem CupAt.hs (h : CupAt pc Hs H c) (f : ∀ b, ¬ Off pc b → Hs b = none → Hs' b = none) (n : ∀ b ps, Hs' b ≠ some (.tbl ps)) : CupAt pc Hs' H c := by
  refine ⟨?_, h.tb, fun p hp => f _ (fun z => z.2 p hp rfl) (h.th p hp), n⟩
  have q := h.cp
  revert q
  cases e : pc.cup with
  | none => unfold CupC; cases c <;> exact fun q => q
  | some p =>
    unfold CupC
    cases c with
    | none => exact fun q => q
    | some ab => exact fun q => ⟨f p (fun z => z.1 e.symm) q.1, q.2⟩
theorem CupAt.hp (h : CupAt pc Hs H c) (f : ∀ p, pc.cup = some p → ∀ o, H p = some o → H' p = some o) (t : LamX.Tabs pc.tabs H') : CupAt pc Hs H' c := by
  refine ⟨?_, t, h.th, h.nt⟩
  have q := h.cp
  revert q
  cases e : pc.cup with
  | none => unfold CupC; cases c <;> exact fun q => q
  | some p =>
    unfold CupC
    cases c with
    | none => exact fun q => q
    | some ab => exact fun q => ⟨q.1, f p e _ q.2⟩
/-- an object that is neither a table nor code -/
def Plain (o : HO) : Prop := (∀ ps, o ≠ .tbl ps) ∧ ∀ f, o ≠ .ext f
theorem plain_lst (xs : List V) : Plain (.lst xs) := ⟨fun _ z => (by cases z), fun _ z => (by cases z)⟩
theorem plain_ins (C dx : Addr) (fs : List (Str × V)) : Plain (.ins C dx fs) := ⟨fun _ z => (by cases z), fun _ z => (by cases z)⟩
theorem Tabs_mut {T : List (Addr × Str)} {p : Addr} {o u : HO} (t : LamX.Tabs T H) (hT : ∀ q ∈ T, q.1 ≠ p) (hu : H p = some u) (pu : Plain u) : LamX.Tabs T (upd H p o) := by
  intro q hq
  obtain ⟨ps, h1, h2, h3⟩ := t q hq
  refine ⟨ps, by rw [upd_ne (hT q hq)]; exact h1, h2, fun pos cv hc => ?_⟩
  obtain ⟨d, e1, e2⟩ := h3 pos cv hc
  refine ⟨d, e1, ?_⟩
  have n : d ≠ p := fun z => by
    rw [z, hu] at e2
    exact pu.2 _ (Option.some.inj e2)
  rw [upd_ne n]
  exact e2
theorem CupAt.mut (h : CupAt pc Hs H c) {p : Addr} {o u : HO} (hc : Off pc p) (hu : H p = some u) (pu : Plain u) : CupAt pc Hs (upd H p o) c :=
  h.hp (fun q e w hw => by rw [upd_ne (fun z => hc.1 (by rw [e, z]))]; exact hw) (Tabs_mut h.tb hc.2 hu pu)
theorem CupAt.del (h : CupAt pc Hs H c) {p : Addr} {u : HO} (hc : Off pc p) (hu : H p = some u) (pu : Plain u) : CupAt pc Hs (del H p) c := by
  refine h.hp (fun q e w hw => by rw [del_ne (fun z => hc.1 (by rw [e, z]))]; exact hw) fun q hq => ?_
  obtain ⟨ps, h1, h2, h3⟩ := h.tb q hq
  refine ⟨ps, by rw [del_ne (hc.2 q hq)]; exact h1, h2, fun pos cv hcv => ?_⟩
  obtain ⟨d, e1, e2⟩ := h3 pos cv hcv
  refine ⟨d, e1, ?_⟩
  have n : d ≠ p := fun z => by
    rw [z, hu] at e2
    exact pu.2 _ (Option.some.inj e2)
  rw [del_ne n]
  exact e2
theorem nt_upd {p : Addr} {o : HO} (n : ∀ b ps, Hs b ≠ some (.tbl ps)) (ho : ∀ ps, o ≠ .tbl ps) : ∀ b ps, upd Hs p o b ≠ some (.tbl ps) := by
  intro b ps
  by_cases z : b = p
  · rw [z, upd_same]
    exact fun e => ho ps (Option.some.inj e)
  · rw [upd_ne z]
    exact n b ps
theorem Fn.refl (s : Same Hs H) (h : CupAt pc Hs H c) : Fn pc Hs H Hs H c := ⟨Same.refl _, fun _ _ _ _ e => e, fun _ _ _ _ e => e, s, h⟩
theorem Fn.trans (a : Fn pc Hs H Hs1 H1 c1) (b : Fn pc Hs1 H1 Hs2 H2 c2) : Fn pc Hs H Hs2 H2 c2 := by
  refine ⟨a.ss.trans b.ss, fun x o n t e => b.bt x o n t (a.bt x o n t e), fun x o t e n => ?_, b.sm, b.cu⟩
  by_cases h : Off pc x
  · exact b.nw x o t (a.bt x o h t e) (a.nw x o t e n)
  · exact b.cu.off h
theorem CupAt.new (h : CupAt pc Hs H c) {p : Addr} {o : HO} (np : H p = none) : CupAt pc Hs (upd H p o) c :=
  h.hp (fun q _ w hw => by rw [upd_ne (ne_of_none hw np)]; exact hw) (h.tb.ext fun b u e => by rw [upd_ne (ne_of_none e np)]; exact e)
theorem CupAt.new2 (h : CupAt pc Hs H c) {p : Addr} {o : HO} (np : H p = none) (ho : ∀ ps, o ≠ .tbl ps) : CupAt pc (upd Hs p o) (upd H p o) c :=
  (h.new np).hs (fun b nb e => by
    have n : b ≠ p := fun z => nb (by rw [z]; exact h.ne np)
    rw [upd_ne n]
    exact e) (nt_upd h.nt ho)
theorem Fn.hid (s : Same Hs H) (h : CupAt pc Hs H c) {p : Addr} {o : HO} (np : H p = none) : Fn pc Hs H Hs (upd H p o) c :=
  ⟨Same.refl _, fun b u _ _ e => by rw [upd_ne (ne_of_none e np)]; exact e, fun _ _ _ _ e => e, same_mut s (s.free np), h.new np⟩
theorem Fn.new (s : Same Hs H) (h : CupAt pc Hs H c) {p : Addr} {o : HO} (np : H p = none) (ho : ∀ ps, o ≠ .tbl ps := by intro _ z; cases z) : Fn pc Hs H (upd Hs p o) (upd H p o) c := by
  refine ⟨same_new (s.free np), fun b u _ _ e => by rw [upd_ne (ne_of_none e np)]; exact e, fun b u _ e n => by rw [upd_ne (ne_of_none e np)]; exact n, fun b u e => ?_, h.new2 np ho⟩
  by_cases z : b = p
  · subst z
    rw [upd_same] at e ⊢
    exact e
  · rw [upd_ne z] at e ⊢
    exact s b u e
/-- what was made is known from now on -/
theorem Fn.show_ (f : Fn pc Hs H Hs1 H1 c1) {p : Addr} {o : HO} (np : Fr H p) (e1 : H1 p = some o) (n1 : Hs1 p = none) (hc : Off pc p) (ho : ∀ ps, o ≠ .tbl ps) : Fn pc Hs H (upd Hs1 p o) H1 c1 := by
  refine ⟨same_mut f.ss (f.ss.free n1), f.bt, fun b u t e n => by rw [upd_ne (ne_fr e t np)]; exact f.nw b u t e n, fun b u e => ?_, f.cu.hs (fun b nb e => by
    have n : b ≠ p := fun z => nb (by rw [z]; exact hc)
    rw [upd_ne n]
    exact e) (nt_upd f.cu.nt ho)⟩
  by_cases z : b = p
  · subst z
    rw [upd_same] at e
    rw [← e]
    exact e1
  · rw [upd_ne z] at e
    exact f.sm b u e
end
theorem Fn.mut {pc : Pc} {Hs H Hs1 H1 : Hp} {c1 : Cu} (f : Fn pc Hs H Hs1 H1 c1) {p : Addr} {o u : HO} (np : Fr H p) (n1 : Hs1 p = none) (hc : Off pc p) (hu : H1 p = some u) (pu : Plain u) : Fn pc Hs H Hs1 (upd H1 p o) c1 :=
  ⟨f.ss, fun b u n t e => by rw [upd_ne (ne_fr e t np)]; exact f.bt b u n t e, f.nw, same_mut f.sm n1, f.cu.mut hc hu pu⟩
/-- an error that flies -/
def Xr (g : Ga) (H : Hp) (x : Xc) (cls : Value) (dx : Option Addr) : Prop := cls = .ref (g.cm x.cls) ∧ ∃ d gs, dx = some d ∧ H d = some (.xd gs) ∧ gs.map (·.1) = x.ns ∧ RlL g H x.ds (gs.map (·.2))
def Post {α : Type} (g : Ga) (E : XK) (Hs H : Hp) (r : R α) (k : α → Cu → Hp → Hp → Prop) : Prop := match r with
  | .no => False
  | .ok a c' => ∀ Hs' H', Fn g.pc Hs H Hs' H' c' → k a c' Hs' H'
  | .er x c' => ∀ cls dx Hs' H', Fn g.pc Hs H Hs' H' c' → Xr g Hs' x cls dx → E cls dx H'
section
variable {α β : Type} {g : Ga} {E : XK} {Hs H Hs1 H1 : Hp} {c1 : Cu} {r : R α} {k k' : α → Cu → Hp → Hp → Prop}
theorem Post.shift (f : Fn g.pc Hs H Hs1 H1 c1) (p : Post g E Hs H r k) : Post g E Hs1 H1 r k := by
  cases r with
  | no => exact p
  | ok a c => exact fun Hs' H' F => p Hs' H' (f.trans F)
  | er x c => exact fun cls dx Hs' H' F X => p cls dx Hs' H' (f.trans F) X
theorem Post.mono (p : Post g E Hs H r k) (m : ∀ a c' Hs' H', r = .ok a c' → Fn g.pc Hs H Hs' H' c' → k a c' Hs' H' → k' a c' Hs' H') : Post g E Hs H r k' := by
  cases r with
  | no => exact p
  | ok a c => exact fun Hs' H' F => m a c Hs' H' rfl F (p Hs' H' F)
  | er x c => exact p
theorem Post.bind {f : α → Cu → R β} {k : β → Cu → Hp → Hp → Prop} (p : Post g E Hs H (r.bind f) k) : Post g E Hs H r fun a c' Hs' H' => Post g E Hs' H' (f a c') k := by
  cases r with
  | no => exact p
  | ok a c => exact fun Hs' H' F => Post.shift F p
  | er x c => exact p
end
/-- the slots that are not hidden -/
def Sl (g : Ga) (hid : List Nat) (Hs : Hp) (st : PSt) (σ : St) : Prop := σ.length = st.length ∧ ∀ i d, i ∉ hid → st[i]? = some (some d) → ∃ v, σ[i]? = some (some v) ∧ Rl g Hs d v
theorem Sl.mono {g : Ga} {hid : List Nat} {Hs Hs' : Hp} {st : PSt} {σ : St} (s : Sl g hid Hs st σ) (e : Same Hs Hs') : Sl g hid Hs' st σ := ⟨s.1, fun i d n h => by
  obtain ⟨v, h1, h2⟩ := s.2 i d n h
  exact ⟨v, h1, Rl.mono e d v h2⟩⟩
/-- an expression's reading by data -/
def tE (g : Ga) (E : XK) (hid : List Nat) (m : PM D) : TE := fun σ H Q => ∃ st c Hs, Sl g hid Hs st σ ∧ Same Hs H ∧ CupAt g.pc Hs H c ∧ Post g E Hs H (m st c) fun d _ Hs' H' => ∀ v, Rl g Hs' d v → Q v H'
def tT (g : Ga) (E : XK) (hid : List Nat) (m : PM Bool) : TT := fun σ H Q => ∃ st c Hs, Sl g hid Hs st σ ∧ Same Hs H ∧ CupAt g.pc Hs H c ∧ Post g E Hs H (m st c) fun b _ _ H' => Q b H'
def tA (g : Ga) (E : XK) (hid : List Nat) (m : PM (List D)) : TA := fun σ H Q => ∃ st c Hs, Sl g hid Hs st σ ∧ Same Hs H ∧ CupAt g.pc Hs H c ∧ Post g E Hs H (m st c) fun ds _ Hs' H' => ∀ vs, RlL g Hs' ds vs → Q vs H'
abbrev DE (X : Cx) (g : Ga) (E : XK) (hid : List Nat) (e : Expr) (m : PM D) : Prop := PE X e (tE g E hid m)
abbrev DT (X : Cx) (g : Ga) (E : XK) (hid : List Nat) (e : Expr) (m : PM Bool) : Prop := PT X e (tT g E hid m)
abbrev DA (X : Cx) (g : Ga) (E : XK) (hid : List Nat) (es : List Expr) (m : PM (List D)) : Prop := PA X es (tA g E hid m)
theorem PT_imp {X : Cx} {e : Expr} {t t' : TT} (h : PT X e t) (m : ∀ σ H Q, t' σ H Q → t σ H Q) : PT X e t' := ⟨fun pins s σ H Q I q => h.run pins s σ H Q I (m σ H Q q)⟩
theorem PW_imp {X : Cx} {e : Expr} {t t' : TT} (h : PW X e t) (m : ∀ σ H Q, t' σ H Q → t σ H Q) : PW X e t' := ⟨fun wh pins s σ H Q I q => h.run wh pins s σ H Q I (m σ H Q q)⟩
theorem PA_imp {X : Cx} {es : List Expr} {t t' : TA} (h : PA X es t) (m : ∀ σ H Q, t' σ H Q → t σ H Q) : PA X es t' := ⟨fun pos pins s σ H Q I q => h.run pos pins s σ H Q I (m σ H Q q)⟩
end L2.G
set_option Elab.async false
set_option linter.all false
set_option maxRecDepth 100000
set_option maxHeartbeats 2000000
namespace L2.G
open PySem PySem.Spec PyProof.Rows
/-! expressions by data -/
def cD (d : D) : PM D := fun _ c => .ok d c
def vD (i : Nat) : PM D := fun st c => match st[i]? with
  | some (some d) => .ok d c
  | _ => .no
def opD (f : D → D → Option D) (a b : PM D) : PM D := fun st c => (a st c).bind fun x c => (b st c).bind fun y c => ofO (f x y) c
def unD (f : D → Option D) (a : PM D) : PM D := fun st c => (a st c).bind fun x c => ofO (f x) c
def chD (f f' : D → D → Option D) (a b e : PM D) : PM D := fun st c => (a st c).bind fun x c => (b st c).bind fun y c => (ofO (f x y) c).bind fun z c => match z with
  | .bl true => (e st c).bind fun w c => ofO (f' y w) c
  | .bl false => .ok (.bl false) c
  | _ => .no
def andD (a b : PM D) : PM D := fun st c => (a st c).bind fun x c => match x with
  | .bl true => b st c
  | .bl false => .ok (.bl false) c
  | _ => .no
def orD (a b : PM D) : PM D := fun st c => (a st c).bind fun x c => match x with
  | .bl true => .ok (.bl true) c
  | .bl false => b st c
  | _ => .no
def notF : D → Option D
  | .bl b => some (.bl !b)
  | _ => none
def negF : D → Option D
  | .int i => some (.int (-i))
  | _ => none
def ifD (t : PM Bool) (a b : PM D) : PM D := fun st c => (t st c).bind fun k c => if k = true then a st c else b st c
def aD : List (PM D) → PM (List D)
  | [] => fun _ c => .ok [] c
  | a :: r => fun st c => (a st c).bind fun x c => (aD r st c).bind fun xs c => .ok (x :: xs) c
def biD (f : List D → Option D) (ms : List (PM D)) : PM D := fun st c => (aD ms st c).bind fun ds c => ofO (f ds) c
def caD (m : List D → Cu → R D) (ms : List (PM D)) : PM D := fun st c => (aD ms st c).bind m
def tupD (ms : List (PM D)) : PM D := fun st c => (aD ms st c).bind fun ds c => .ok (.tup ds) c
def lstD (ms : List (PM D)) : PM D := fun st c => (aD ms st c).bind fun ds c => .ok (.lst ds) c
/-! tests -/
def tbD (m : PM D) : PM Bool := fun st c => (m st c).bind fun x c => match x with
  | .bl b => .ok b c
  | _ => .no
def truF : D → Option Bool
  | .non => some false
  | .bl b => some b
  | .int i => some (i != 0)
  | .str z => some ((z.length : Int) != 0)
  | .tup ds => some !ds.isEmpty
  | .lst ds => some !ds.isEmpty
  | _ => none
def trD (m : PM D) : PM Bool := fun st c => (m st c).bind fun x c => ofO (truF x) c
def andT (a b : PM Bool) : PM Bool := fun st c => (a st c).bind fun x c => if x = true then b st c else .ok false c
def orT (a b : PM Bool) : PM Bool := fun st c => (a st c).bind fun x c => if x = true then .ok true c else b st c
def notT (a : PM Bool) : PM Bool := fun st c => (a st c).bind fun x c => .ok (!x) c
theorem aD_len : ∀ {ms : List (PM D)} {st : PSt} {c c' : Cu} {ds : List D}, aD ms st c = .ok ds c' → ds.length = ms.length
  | [], st, c, c', ds, h => by
    have e : R.ok [] c = R.ok ds c' := h
    injection e with e1 _
    subst e1
    rfl
  | m :: ms, st, c, c', ds, h => by
    have e : (m st c).bind (fun x c => (aD ms st c).bind fun xs c => .ok (x :: xs) c) = R.ok ds c' := h
    cases q : m st c with
    | no => rw [q] at e; cases e
    | er x c1 => rw [q] at e; cases e
    | ok x c1 =>
      rw [q, R.ok_bind] at e
      cases q2 : aD ms st c1 with
      | no => rw [q2] at e; cases e
      | er y c2 => rw [q2] at e; cases e
      | ok xs c2 =>
        rw [q2, R.ok_bind] at e
        injection e with e1 _
        subst e1
        simp [aD_len q2]
/-- an operation on values by data -/
def RD (g : Ga) (r : R2) (f : D → D → Option D) : Prop := ∀ Hs H c x y v u d Q, Same Hs H → CupAt g.pc Hs H c → Rl g Hs x v → Rl g Hs y u → f x y = some d →
  (∀ Hs' H' z, Fn g.pc Hs H Hs' H' c → Rl g Hs' d z → Q z H') → r v u H Q
def RU (g : Ga) (r : V → Hp → VK → Prop) (f : D → Option D) : Prop := ∀ Hs H c x v d Q, Same Hs H → CupAt g.pc Hs H c → Rl g Hs x v → f x = some d →
  (∀ Hs' H' z, Fn g.pc Hs H Hs' H' c → Rl g Hs' d z → Q z H') → r v H Q
def RC (g : Ga) (r : List V → Hp → VK → Prop) (f : List D → Option D) : Prop := ∀ Hs H c xs vs d Q, Same Hs H → CupAt g.pc Hs H c → RlL g Hs xs vs → f xs = some d →
  (∀ Hs' H' z, Fn g.pc Hs H Hs' H' c → Rl g Hs' d z → Q z H') → r vs H Q
def OpD (X : Cx) (g : Ga) (F : Value → Value → Sem Value) (f : D → D → Option D) : Prop := ∃ r, OpR X F r ∧ RD g r f
def UnD (X : Cx) (g : Ga) (F : Value → Sem Value) (f : D → Option D) : Prop := ∃ r, UnR X F r ∧ RU g r f
def IxD (X : Cx) (g : Ga) (f : D → D → Option D) : Prop := ∃ r, IxR X r ∧ RD g r f
def BiD (X : Cx) (g : Ga) (F : Value) (f : List D → Option D) : Prop := ∃ r, CallR X F r ∧ RC g r f
section
variable {X : Cx} {g : Ga} {E : XK} {hid : List Nat} {σ : St} {H : Hp} {Q : VK} {ma mb mc m : PM D} {a b c : Expr} {pos : Pos}
theorem tOp_of {r : R2} {f : D → D → Option D} (hr : RD g r f) : tE g E hid (opD f ma mb) σ H Q → tOp r (tE g E hid ma) (tE g E hid mb) σ H Q := by
  rintro ⟨st, c, Hs, sl, sm, cu, p⟩
  refine ⟨st, c, Hs, sl, sm, cu, (Post.bind p).mono fun x c1 Hs1 H1 _ F1 q v1 r1 => ⟨st, c1, Hs1, sl.mono F1.ss, F1.sm, F1.cu, (Post.bind q).mono fun y c2 Hs2 H2 _ F2 q2 v2 r2 => ?_⟩⟩
  cases e : f x y with
  | none => rw [e] at q2; exact q2.elim
  | some d =>
    rw [e] at q2
    exact hr Hs2 H2 c2 x y v1 v2 d Q F2.sm F2.cu (Rl.mono F2.ss x v1 r1) r2 e fun Hs' H' z F rz => q2 Hs' H' F z rz
theorem d_tc {v : V} {d : D} (h : PE X a (tC v)) (hr : ∀ Hs, Rl g Hs d v) : DE X g E hid a (cD d) := PE_imp h fun σ H Q ⟨st, c, Hs, sl, sm, cu, p⟩ => p Hs H (Fn.refl sm cu) v (hr Hs)
theorem d_int {i : Int} {j : Nat} : DE X g E hid (.Constant (.int i) j pos) (cD (.int i)) := d_tc pe_int fun _ => rl_int.mpr rfl
theorem d_bl {i : Bool} {j : Nat} : DE X g E hid (.Constant (.bool i) j pos) (cD (.bl i)) := d_tc pe_bl fun _ => rl_bl.mpr rfl
theorem d_non {j : Nat} : DE X g E hid (.Constant .none j pos) (cD .non) := d_tc pe_non fun _ => rl_non.mpr rfl
theorem d_str {z : Str} {j : Nat} (h : txtOk z = true := by decide +kernel) : DE X g E hid (.Constant (.str z) j pos) (cD (.str z)) := d_tc pe_str fun _ => rl_str.mpr ⟨rfl, h⟩
theorem d_gi {x : Str} {n : Int} (h : ∃ t, X.mg x = some (.int n t)) (hg : Gl X x := by rfl) (hd : (x == ("__debug__" : Str)) = false := by decide) : DE X g E hid (.Name x pos) (cD (.int n)) := d_tc (pe_gi h hg hd) fun _ => rl_int.mpr rfl
theorem d_gs {x z : Str} (h : ∃ t, X.mg x = some (.str z t)) (hz : txtOk z = true := by decide +kernel) (hg : Gl X x := by rfl) (hd : (x == ("__debug__" : Str)) = false := by decide) : DE X g E hid (.Name x pos) (cD (.str z)) := d_tc (pe_gs h hg hd) fun _ => rl_str.mpr ⟨rfl, hz⟩
theorem d_v (i : Nat) (h : PE X a (tVar i)) (hi : i ∉ hid := by decide) : DE X g E hid a (vD i) := PE_imp h fun σ H Q ⟨st, c, Hs, sl, sm, cu, p⟩ => by
  unfold vD at p
  split at p
  · rename_i d e
    obtain ⟨v, h1, h2⟩ := sl.2 i d hi e
    exact ⟨v, h1, p Hs H (Fn.refl sm cu) v h2⟩
  · exact p.elim
theorem d_op {op : Operator} {f : D → D → Option D} (ho : OpD X g (binaryOp op) f) (ha : DE X g E hid a ma) (hb : DE X g E hid b mb) : DE X g E hid (.BinOp a op b pos) (opD f ma mb) := by
  obtain ⟨r, ho, hr⟩ := ho
  exact PE_imp (pe_op ho ha hb) fun σ H Q q => tOp_of hr q
theorem d_cmp {op : CmpOp} {f : D → D → Option D} (ho : OpD X g (compareOp op) f) (ha : DE X g E hid a ma) (hb : DE X g E hid b mb) (hm : behindInMarks op b = false) : DE X g E hid (.Compare a [op] [b] pos) (opD f ma mb) := by
  obtain ⟨r, ho, hr⟩ := ho
  exact PE_imp (pe_cmpR ho ha hb hm) fun σ H Q q => tOp_of hr q
theorem d_ix {f : D → D → Option D} (ho : IxD X g f) (ha : DE X g E hid a ma) (hb : DE X g E hid b mb) (hs : PlainIx b) : DE X g E hid (.Subscript a b pos) (opD f ma mb) := by
  obtain ⟨r, ho, hr⟩ := ho
  exact PE_imp (pe_ix ho ha hb hs) fun σ H Q q => tOp_of hr q
theorem d_un {op : UnaryOp} {f : D → Option D} (ho : UnD X g (unaryOp op) f) (ha : DE X g E hid a ma) : DE X g E hid (.UnaryOp op a pos) (unD f ma) := by
  obtain ⟨r, ho, hr⟩ := ho
  refine PE_imp (pe_un ho ha) fun σ H Q ⟨st, c, Hs, sl, sm, cu, p⟩ => ⟨st, c, Hs, sl, sm, cu, (Post.bind p).mono fun x c1 Hs1 H1 _ F1 q v1 r1 => ?_⟩
  cases e : f x with
  | none => rw [e] at q; exact q.elim
  | some d =>
    rw [e] at q
    exact hr Hs1 H1 c1 x v1 d Q F1.sm F1.cu r1 e fun Hs' H' z F rz => q Hs' H' F z rz
theorem d_neg (ha : DE X g E hid a ma) : DE X g E hid (.UnaryOp .USub a pos) (unD negF ma) := d_un ⟨_, un_neg, fun Hs H c x v d Q sm cu rx e k => by
  cases x <;> simp only [negF, Option.some.injEq, reduceCtorEq] at e
  subst e
  exact ⟨_, rl_int.mp rx, k Hs H _ (Fn.refl sm cu) (rl_int.mpr rfl)⟩⟩ ha
theorem d_not (ha : DE X g E hid a ma) : DE X g E hid (.UnaryOp .Not a pos) (unD notF ma) := by
  refine PE_imp (pe_not ha) fun σ H Q ⟨st, c, Hs, sl, sm, cu, p⟩ => ⟨st, c, Hs, sl, sm, cu, (Post.bind p).mono fun x c1 Hs1 H1 _ F1 q v1 r1 => ?_⟩
  cases x <;> first | exact q.elim | skip
  exact ⟨_, rl_bl.mp r1, q Hs1 H1 (Fn.refl F1.sm F1.cu) _ (rl_bl.mpr rfl)⟩
theorem d_and {rest : List Expr} (ha : DE X g E hid a ma) (hb : DE X g E hid (.BoolOp .And (b :: rest) pos) mb) : DE X g E hid (.BoolOp .And (a :: b :: rest) pos) (andD ma mb) := by
  refine PE_imp (pe_and ha hb) fun σ H Q ⟨st, c, Hs, sl, sm, cu, p⟩ => ⟨st, c, Hs, sl, sm, cu, (Post.bind p).mono fun x c1 Hs1 H1 _ F1 q v1 r1 => ?_⟩
  cases x with
  | bl k => ?_
  | _ => exact q.elim
  refine ⟨k, rl_bl.mp r1, ?_⟩
  cases k with
  | true => rw [if_pos rfl]; exact ⟨st, c1, Hs1, sl.mono F1.ss, F1.sm, F1.cu, q⟩
  | false => rw [if_neg (by decide)]; exact q Hs1 H1 (Fn.refl F1.sm F1.cu) _ (rl_bl.mpr rfl)
theorem d_or {rest : List Expr} (ha : DE X g E hid a ma) (hb : DE X g E hid (.BoolOp .Or (b :: rest) pos) mb) : DE X g E hid (.BoolOp .Or (a :: b :: rest) pos) (orD ma mb) := by
  refine PE_imp (pe_or ha hb) fun σ H Q ⟨st, c, Hs, sl, sm, cu, p⟩ => ⟨st, c, Hs, sl, sm, cu, (Post.bind p).mono fun x c1 Hs1 H1 _ F1 q v1 r1 => ?_⟩
  cases x with
  | bl k => ?_
  | _ => exact q.elim
  refine ⟨k, rl_bl.mp r1, ?_⟩
  cases k with
  | false => rw [if_neg (by decide)]; exact ⟨st, c1, Hs1, sl.mono F1.ss, F1.sm, F1.cu, q⟩
  | true => rw [if_pos rfl]; exact q Hs1 H1 (Fn.refl F1.sm F1.cu) _ (rl_bl.mpr rfl)
theorem d_one {op} (ha : DE X g E hid a ma) : DE X g E hid (.BoolOp op [a] pos) ma := pe_one ha
theorem d_ifE {t : PM Bool} (hc : DT X g E hid c t) (ha : DE X g E hid a ma) (hb : DE X g E hid b mb) : DE X g E hid (.IfExp c a b pos) (ifD t ma mb) := by
  refine PE_imp (pe_ifExp hc ha hb) fun σ H Q ⟨st, c, Hs, sl, sm, cu, p⟩ => ⟨st, c, Hs, sl, sm, cu, (Post.bind p).mono fun k c1 Hs1 H1 _ F1 q => ?_⟩
  cases k with
  | true =>
    rw [if_pos rfl] at q ⊢
    exact ⟨st, c1, Hs1, sl.mono F1.ss, F1.sm, F1.cu, q⟩
  | false =>
    rw [if_neg (by decide)] at q ⊢
    exact ⟨st, c1, Hs1, sl.mono F1.ss, F1.sm, F1.cu, q⟩
theorem tCh_of {r r' : R2} {f f' : D → D → Option D} (hr : RD g r f) (hr' : RD g r' f') : tE g E hid (chD f f' ma mb mc) σ H Q → tChain r r' (tE g E hid ma) (tE g E hid mb) (tE g E hid mc) σ H Q := by
  rintro ⟨st, c, Hs, sl, sm, cu, p⟩
  refine ⟨st, c, Hs, sl, sm, cu, (Post.bind p).mono fun x c1 Hs1 H1 _ F1 q v1 r1 => ⟨st, c1, Hs1, sl.mono F1.ss, F1.sm, F1.cu, (Post.bind q).mono fun y c2 Hs2 H2 _ F2 q2 v2 r2 => ?_⟩⟩
  cases e : f x y with
  | none => rw [e] at q2; exact q2.elim
  | some d =>
    rw [e, ofO_some, R.ok_bind] at q2
    refine hr Hs2 H2 c2 x y v1 v2 d _ F2.sm F2.cu (Rl.mono F2.ss x v1 r1) r2 e fun Hs3 H3 z F3 rz => ?_
    replace q2 := Post.shift F3 q2
    cases d <;> first | exact q2.elim | skip
    rename_i k
    refine ⟨k, rl_bl.mp rz, ?_⟩
    cases k with
    | false =>
      rw [if_neg (by decide)]
      exact q2 Hs3 H3 (Fn.refl F3.sm F3.cu) _ (rl_bl.mpr rfl)
    | true =>
      rw [if_pos rfl]
      refine ⟨st, c2, Hs3, ((sl.mono F1.ss).mono F2.ss).mono F3.ss, F3.sm, F3.cu, (Post.bind q2).mono fun w c4 Hs4 H4 _ F4 q4 v4 r4 => ?_⟩
      cases e4 : f' y w with
      | none => rw [e4] at q4; exact q4.elim
      | some d4 =>
        rw [e4] at q4
        exact hr' Hs4 H4 c4 y w v2 v4 d4 Q F4.sm F4.cu (Rl.mono (F3.ss.trans F4.ss) y v2 r2) r4 e4 fun Hs' H' z F rz => q4 Hs' H' F z rz
theorem d_chain {op op' : CmpOp} {f f' : D → D → Option D} (ho : OpD X g (compareOp op) f) (ho' : OpD X g (compareOp op') f') (ha : DE X g E hid a ma) (hb : DE X g E hid b mb) (hc : DE X g E hid c mc)
    (hm : lastMarks [op, op'] [b, c] = false := by with_unfolding_all rfl) : DE X g E hid (.Compare a [op, op'] [b, c] pos) (chD f f' ma mb mc) := by
  obtain ⟨r, ho, hr⟩ := ho
  obtain ⟨r', ho', hr'⟩ := ho'
  exact PE_imp (pe_chain ho ho' ha hb hc hm) fun σ H Q q => tCh_of hr hr' q
/-! tests -/
theorem tb_of {T : Bool → Hp → Prop} : tT g E hid (tbD m) σ H T → tE g E hid m σ H fun x H' => ∃ k, x = .bl k ∧ T k H' := by
  rintro ⟨st, c, Hs, sl, sm, cu, p⟩
  refine ⟨st, c, Hs, sl, sm, cu, (Post.bind p).mono fun x c1 Hs1 H1 _ F1 q v1 r1 => ?_⟩
  cases x <;> first | exact q.elim | skip
  exact ⟨_, rl_bl.mp r1, q Hs1 H1 (Fn.refl F1.sm F1.cu)⟩
theorem dt_cmp {op : CmpOp} {f : D → D → Option D} (ho : OpD X g (compareOp op) f) (ha : DE X g E hid a ma) (hb : DE X g E hid b mb) (hm : behindInMarks op b = false) : DT X g E hid (.Compare a [op] [b] pos) (tbD (opD f ma mb)) := by
  obtain ⟨r, ho, hr⟩ := ho
  exact PT_imp (pt_cmpR ho ha hb hm) fun σ H Q q => tOp_of hr (tb_of q)
theorem dt_chain {op op' : CmpOp} {f f' : D → D → Option D} (ho : OpD X g (compareOp op) f) (ho' : OpD X g (compareOp op') f') (ha : DE X g E hid a ma) (hb : DE X g E hid b mb) (hc : DE X g E hid c mc)
    (hm : lastMarks [op, op'] [b, c] = false := by with_unfolding_all rfl) : DT X g E hid (.Compare a [op, op'] [b, c] pos) (tbD (chD f f' ma mb mc)) := by
  obtain ⟨r, ho, hr⟩ := ho
  obtain ⟨r', ho', hr'⟩ := ho'
  exact PT_imp (pt_chain ho ho' ha hb hc hm) fun σ H Q q => tCh_of hr hr' (tb_of q)
theorem dt_val (ha : DE X g E hid a ma) (he : ∀ whole, isTrue a X.env whole = (do let v ← whole; standAt a.pos; holding [v] (truthy v)) := by intro _; rfl) : DT X g E hid a (tbD ma) :=
  PT_imp (pt_val ha he) fun σ H Q q => tb_of q
theorem empty_RlL {Hs : Hp} {ds : List D} {vs : List V} (h : RlL g Hs ds vs) : vs.isEmpty = ds.isEmpty := by
  have := h.length
  cases ds <;> cases vs <;> simp at this ⊢
theorem tru_of {Hs H : Hp} {d : D} {v : V} {k : Bool} (sm : Same Hs H) (r : Rl g Hs d v) (e : truF d = some k) : TruV g.K v H k := by
  cases d <;> simp only [truF, Option.some.injEq, reduceCtorEq] at e
  · rw [rl_non.mp r]; subst e; exact rfl
  · rw [rl_bl.mp r]; subst e; exact rfl
  · rw [rl_int.mp r]; subst e; exact rfl
  · obtain ⟨rfl, hz⟩ := rl_str.mp r
    subst e
    exact ⟨txtOk_len hz, rfl⟩
  · obtain ⟨p, vs, rfl, hs, hl, hr⟩ := rl_tup.mp r
    exact .inr (.inl ⟨vs, seqT_mono sm hs, by rw [empty_RlL hr, e]⟩)
  · obtain ⟨p, vs, rfl, hs, hl, hr⟩ := rl_lst.mp r
    exact .inl ⟨vs, .inl (.inl (sm _ _ hs)), by rw [empty_RlL hr, e]⟩
theorem dt_tru (hK : X.K = g.K) (ha : DE X g E hid a ma) (he : ∀ whole, isTrue a X.env whole = (do let v ← whole; standAt a.pos; holding [v] (truthy v)) := by intro _; rfl) : DT X g E hid a (trD ma) := by
  refine PT_imp (pt_truth ha he) fun σ H Q ⟨st, c, Hs, sl, sm, cu, p⟩ => ⟨st, c, Hs, sl, sm, cu, (Post.bind p).mono fun x c1 Hs1 H1 _ F1 q v1 r1 => ?_⟩
  cases e : truF x with
  | none => rw [e] at q; exact q.elim
  | some k =>
    rw [e] at q
    rw [hK]
    exact ⟨k, tru_of F1.sm r1 e, q Hs1 H1 (Fn.refl F1.sm F1.cu)⟩
variable {ta tb : PM Bool}
theorem dt_not (ha : DT X g E hid a ta) : DT X g E hid (.UnaryOp .Not a pos) (notT ta) :=
  PT_imp (pt_not ha) fun σ H Q ⟨st, c, Hs, sl, sm, cu, p⟩ => ⟨st, c, Hs, sl, sm, cu, (Post.bind p).mono fun x c1 Hs1 H1 _ F1 q => q Hs1 H1 (Fn.refl F1.sm F1.cu)⟩
abbrev DW (X : Cx) (g : Ga) (E : XK) (hid : List Nat) (e : Expr) (m : PM Bool) : Prop := PW X e (tT g E hid m)
theorem dw_and1 (ha : DT X g E hid a ta) : DW X g E hid (.BoolOp .And [a] pos) ta := pw_and1 ha
theorem dw_or1 (ha : DT X g E hid a ta) : DW X g E hid (.BoolOp .Or [a] pos) ta := pw_or1 ha
theorem dw_and {rest : List Expr} (ha : DT X g E hid a ta) (hb : DW X g E hid (.BoolOp .And (b :: rest) pos) tb) : DW X g E hid (.BoolOp .And (a :: b :: rest) pos) (andT ta tb) := by
  refine PW_imp (pw_and ha hb) fun σ H Q ⟨st, c, Hs, sl, sm, cu, p⟩ => ⟨st, c, Hs, sl, sm, cu, (Post.bind p).mono fun x c1 Hs1 H1 _ F1 q => ?_⟩
  cases x with
  | true =>
    rw [if_pos rfl] at q ⊢
    exact ⟨st, c1, Hs1, sl.mono F1.ss, F1.sm, F1.cu, q⟩
  | false =>
    rw [if_neg (by decide)] at q ⊢
    exact q Hs1 H1 (Fn.refl F1.sm F1.cu)
theorem dw_or {rest : List Expr} (ha : DT X g E hid a ta) (hb : DW X g E hid (.BoolOp .Or (b :: rest) pos) tb) : DW X g E hid (.BoolOp .Or (a :: b :: rest) pos) (orT ta tb) := by
  refine PW_imp (pw_or ha hb) fun σ H Q ⟨st, c, Hs, sl, sm, cu, p⟩ => ⟨st, c, Hs, sl, sm, cu, (Post.bind p).mono fun x c1 Hs1 H1 _ F1 q => ?_⟩
  cases x with
  | true =>
    rw [if_pos rfl] at q ⊢
    exact q Hs1 H1 (Fn.refl F1.sm F1.cu)
  | false =>
    rw [if_neg (by decide)] at q ⊢
    exact ⟨st, c1, Hs1, sl.mono F1.ss, F1.sm, F1.cu, q⟩
/-! arguments, displays, calls -/
theorem da_nil : DA X g E hid [] (aD []) := PA_imp pa_nil fun σ H Q ⟨st, c, Hs, sl, sm, cu, p⟩ => p Hs H (Fn.refl sm cu) [] (rll_nil.mpr rfl)
theorem da_cons {es : List Expr} {ms : List (PM D)} (ha : DE X g E hid a ma) (hr : DA X g E hid es (aD ms)) (hs : starEach (a :: es) X.env = (false, eval a X.env) :: starEach es X.env := by rfl) : DA X g E hid (a :: es) (aD (ma :: ms)) := by
  refine PA_imp (pa_cons ha hr hs) fun σ H Q ⟨st, c, Hs, sl, sm, cu, p⟩ => ⟨st, c, Hs, sl, sm, cu, (Post.bind p).mono fun x c1 Hs1 H1 _ F1 q v1 r1 => ⟨st, c1, Hs1, sl.mono F1.ss, F1.sm, F1.cu, (Post.bind q).mono fun xs c2 Hs2 H2 _ F2 q2 vs rs => ?_⟩⟩
  exact q2 Hs2 H2 (Fn.refl F2.sm F2.cu) _ (rll_cons.mpr ⟨v1, vs, rfl, Rl.mono F2.ss x v1 r1, rs⟩)
theorem d_tup {es : List Expr} {ms : List (PM D)} {x1} (h : DA X g E hid es (aD ms)) (hl : ms.length ≤ 1000 := by decide) : DE X g E hid (.Tuple es x1 pos) (tupD ms) := by
  refine PE_imp (pe_tup h) fun σ H Q ⟨st, c, Hs, sl, sm, cu, p⟩ => ⟨st, c, Hs, sl, sm, cu, (Post.bind p).mono fun ds c1 Hs1 H1 e F1 q vs rs => ?_⟩
  have l1 := aD_len e
  have l2 := rs.length
  have l3 : ds.length ≤ sizeLine := by rw [sizeLine_eq]; omega
  refine ⟨by omega, fun p np => q (upd Hs1 p (.tup vs)) _ (Fn.new F1.sm F1.cu np) _ (rl_tup.mpr ⟨p, vs, rfl, .inl (.inl upd_same), l3, RlL.mono (same_new (F1.sm.free np)) ds vs rs⟩)⟩
theorem d_lst {es : List Expr} {ms : List (PM D)} (h : DA X g E hid es (aD ms)) (hl : ms.length ≤ 1000 := by decide) : DE X g E hid (.List es pos) (lstD ms) := by
  refine PE_imp (pe_lst h) fun σ H Q ⟨st, c, Hs, sl, sm, cu, p⟩ => ⟨st, c, Hs, sl, sm, cu, (Post.bind p).mono fun ds c1 Hs1 H1 e F1 q vs rs => ?_⟩
  have l1 := aD_len e
  have l2 := rs.length
  have l3 : ds.length ≤ sizeLine := by rw [sizeLine_eq]; omega
  refine ⟨by omega, fun p np => q (upd Hs1 p (.lst vs)) _ (Fn.new F1.sm F1.cu np) _ (rl_lst.mpr ⟨p, vs, rfl, upd_same, l3, RlL.mono (same_new (F1.sm.free np)) ds vs rs⟩)⟩
theorem tCB_of {r : List V → Hp → VK → Prop} {f : List D → Option D} {ms : List (PM D)} (hr : RC g r f) : tE g E hid (biD f ms) σ H Q → tCB r (tA g E hid (aD ms)) σ H Q := by
  rintro ⟨st, c, Hs, sl, sm, cu, p⟩
  refine ⟨st, c, Hs, sl, sm, cu, (Post.bind p).mono fun ds c1 Hs1 H1 e F1 q vs rs => ?_⟩
  cases e : f ds with
  | none => rw [e] at q; exact q.elim
  | some d =>
    rw [e] at q
    exact hr Hs1 H1 c1 ds vs d Q F1.sm F1.cu rs e fun Hs' H' z F rz => q Hs' H' F z rz
theorem d_bi {e : Expr} {es : List Expr} {ms : List (PM D)} {f : List D → Option D} {id : String} {x : Str} {p : Pos} (hc : BiD X g (.builtin id) f) (hg : Gl X x) (hm : X.mg x = none) (hv : bootBuiltins x = some (.builtin id)) (ha : DA X g E hid (e :: es) (aD ms)) (hn : x ≠ "__name__" := by decide) (hdb : (x == ("__debug__" : Str)) = false := by decide)
    (he : starEach (e :: es) X.env = (false, eval e X.env) :: starEach es X.env := by rfl) (hpl : (backTo pos (starEach es X.env)).any (·.1) = false := by rfl) : DE X g E hid (.Call (.Name x p) (e :: es) [] pos) (biD f ms) := by
  obtain ⟨r, hc, hr⟩ := hc
  exact PE_imp (pe_callB hc hg hm hv ha hn hdb he hpl) fun σ H Q q => tCB_of hr q
theorem d_ty {e : Expr} {es : List Expr} {ms : List (PM D)} {f : List D → Option D} {T : String} {x : Str} {p : Pos} (hc : BiD X g (.type T) f) (hg : Gl X x) (hm : X.mg x = none) (hv : bootBuiltins x = some (.type T)) (ha : DA X g E hid (e :: es) (aD ms)) (hn : x ≠ "__name__" := by decide) (hdb : (x == ("__debug__" : Str)) = false := by decide)
    (he : starEach (e :: es) X.env = (false, eval e X.env) :: starEach es X.env := by rfl) (hpl : (backTo pos (starEach es X.env)).any (·.1) = false := by rfl) : DE X g E hid (.Call (.Name x p) (e :: es) [] pos) (biD f ms) := by
  obtain ⟨r, hc, hr⟩ := hc
  exact PE_imp (pe_callTy hc hg hm hv ha hn hdb he hpl) fun σ H Q q => tCB_of hr q
end
end L2.G
set_option Elab.async false
set_option linter.all false
set_option maxRecDepth 100000
set_option maxHeartbeats 2000000
namespace L2.G
open PySem PySem.Spec PyProof.Rows
/-! operations by data -/
def addF : D → D → Option D
  | .int i, .int j => some (.int (i + j))
  | .str a, .str b => if a.length + b.length ≤ sizeLine then some (.str (a ++ b)) else none
  | .lst a, .lst b => if a.length + b.length ≤ sizeLine then some (.lst (a ++ b)) else none
  | .tup a, .tup b => if a.length + b.length ≤ sizeLine then some (.tup (a ++ b)) else none
  | _, _ => none
def intF (f : Int → Int → Int) : D → D → Option D
  | .int i, .int j => some (.int (f i j))
  | _, _ => none
def cmpF (f : Int → Int → Bool) : D → D → Option D
  | .int i, .int j => some (.bl (f i j))
  | _, _ => none
def strRep (z : Str) (n : Nat) : Str := ⟨(List.replicate n z.cps.toList).flatten.toArray⟩
def mulF : D → D → Option D
  | .int i, .int j => if (-(2 ^ 64) < i ∧ i < 2 ^ 64) ∨ (-(2 ^ 64) < j ∧ j < 2 ^ 64) then some (.int (i * j)) else none
  | .lst a, .int k => if -(2 ^ 31) < k ∧ k < 2 ^ 31 ∧ a.length * k.toNat ≤ sizeLine then some (.lst (List.replicate k.toNat a).flatten) else none
  | .str a, .int k => if -(2 ^ 31) < k ∧ k < 2 ^ 31 ∧ a.length * k.toNat ≤ 1000000 then some (.str (strRep a k.toNat)) else none
  | _, _ => none
def fdivF : D → D → Option D
  | .int i, .int j => if 0 < j ∧ j < 1073741824 then some (.int (i / j)) else none
  | _, _ => none
def modF : D → D → Option D
  | .int i, .int j => if 0 < j then some (.int (i % j)) else none
  | _, _ => none
def powF : D → D → Option D
  | .int i, .int j => if 0 ≤ j ∧ j ≤ 1000000 ∧ i.natAbs < 2 ^ 64 then some (.int (i ^ j.toNat)) else none
  | _, _ => none
def shrF : D → D → Option D
  | .int i, .int j => if 0 ≤ j then some (.int (i / 2 ^ j.toNat)) else none
  | _, _ => none
/-- 1 << j -/
def shlF : D → D → Option D
  | .int i, .int j => if i = 1 ∧ 0 ≤ j ∧ j ≤ 100000 then some (.int (2 ^ j.toNat)) else none
  | _, _ => none
def isNon : D → Bool
  | .non => true
  | _ => false
def isNF : D → D → Option D
  | x, .non => some (.bl (isNon x))
  | _, _ => none
def notNF : D → D → Option D
  | x, .non => some (.bl !(isNon x))
  | _, _ => none
section
variable {X : Cx} {g : Ga}
theorem rd_int {C : Int → Int → Prop} {f : D → D → Option D} {k : Int → Int → Int} (hf : ∀ x y d, f x y = some d → ∃ i j, x = .int i ∧ y = .int j ∧ C i j ∧ d = .int (k i j)) : RD g (rI C fun i j => .int (k i j)) f := by
  intro Hs H c x y v u d Q sm cu rx ry e q
  obtain ⟨i, j, rfl, rfl, hc, rfl⟩ := hf x y d e
  exact ⟨i, j, rl_int.mp rx, rl_int.mp ry, hc, q Hs H _ (Fn.refl sm cu) (rl_int.mpr rfl)⟩
theorem rd_int0 {k : Int → Int → Int} : RD g (rI0 fun i j => .int (k i j)) (intF k) := by
  intro Hs H c x y v u d Q sm cu rx ry e q
  cases x <;> cases y <;> simp only [intF, Option.some.injEq, reduceCtorEq] at e
  subst e
  exact ⟨_, _, rl_int.mp rx, rl_int.mp ry, q Hs H _ (Fn.refl sm cu) (rl_int.mpr rfl)⟩
theorem rd_cmp {k : Int → Int → Bool} : RD g (rI0 fun i j => .bl (k i j)) (cmpF k) := by
  intro Hs H c x y v u d Q sm cu rx ry e q
  cases x <;> cases y <;> simp only [cmpF, Option.some.injEq, reduceCtorEq] at e
  subst e
  exact ⟨_, _, rl_int.mp rx, rl_int.mp ry, q Hs H _ (Fn.refl sm cu) (rl_bl.mpr rfl)⟩
theorem RD.or {r r' : R2} {f : D → D → Option D} (h : ∀ Hs H c x y v u d Q, Same Hs H → CupAt g.pc Hs H c → Rl g Hs x v → Rl g Hs y u → f x y = some d →
  (∀ Hs' H' z, Fn g.pc Hs H Hs' H' c → Rl g Hs' d z → Q z H') → r v u H Q ∨ r' v u H Q) : RD g (fun x y H Q => r x y H Q ∨ r' x y H Q) f := h
theorem txtOk_app {a b : Str} (ha : txtOk a = true) (hb : txtOk b = true) (h : a.length + b.length ≤ sizeLine) : txtOk (a ++ b) = true := by
  have e : (a ++ b).cps = a.cps ++ b.cps := rfl
  rw [txtOk_iff] at ha hb ⊢
  rw [e, Array.toList_append]
  refine ⟨?_, fun c hc => ?_⟩
  · rw [List.length_append, Array.length_toList, Array.length_toList]
    exact h
  · rcases List.mem_append.mp hc with hc | hc
    · exact ha.2 c hc
    · exact hb.2 c hc
theorem o_add (hK : X.K = g.K := by rfl) : OpD X g (binaryOp .Add) addF := by
  refine ⟨_, (op_add.or op_add_str).or (op_cat.or op_catA), ?_⟩
  rw [hK]
  intro Hs H c x y v u d Q sm cu rx ry e q
  cases x with
  | int i =>
    cases y <;> simp only [addF, Option.some.injEq, reduceCtorEq] at e
    subst e
    exact .inl (.inl ⟨_, _, rl_int.mp rx, rl_int.mp ry, q Hs H _ (Fn.refl sm cu) (rl_int.mpr rfl)⟩)
  | str a =>
    cases y <;> simp only [addF, Option.ite_none_right_eq_some, Option.some.injEq, reduceCtorEq] at e
    obtain ⟨h, rfl⟩ := e
    obtain ⟨rfl, h1⟩ := rl_str.mp rx
    obtain ⟨rfl, h2⟩ := rl_str.mp ry
    exact .inl (.inr ⟨_, _, rfl, rfl, h, q Hs H _ (Fn.refl sm cu) (rl_str.mpr ⟨rfl, txtOk_app h1 h2 h⟩)⟩)
  | lst a =>
    cases y <;> simp only [addF, Option.ite_none_right_eq_some, Option.some.injEq, reduceCtorEq] at e
    obtain ⟨h, rfl⟩ := e
    obtain ⟨p, vs, rfl, hp, h1, r1⟩ := rl_lst.mp rx
    obtain ⟨p2, vs2, rfl, hp2, h2, r2⟩ := rl_lst.mp ry
    have l1 := r1.length
    have l2 := r2.length
    refine .inr (.inl ⟨p, p2, vs, vs2, rfl, rfl, sm _ _ hp, sm _ _ hp2, by omega, fun n hn => ?_⟩)
    refine q (upd Hs n (.lst (vs ++ vs2))) _ _ (Fn.new sm cu hn) (rl_lst.mpr ⟨n, _, rfl, upd_same, by rw [List.length_append]; exact h, RlL.mono (same_new (sm.free hn)) _ _ (r1.append r2)⟩)
  | tup a =>
    cases y <;> simp only [addF, Option.ite_none_right_eq_some, Option.some.injEq, reduceCtorEq] at e
    obtain ⟨h, rfl⟩ := e
    obtain ⟨p, vs, rfl, hp, h1, r1⟩ := rl_tup.mp rx
    obtain ⟨p2, vs2, rfl, hp2, h2, r2⟩ := rl_tup.mp ry
    have l1 := r1.length
    have l2 := r2.length
    refine .inr (.inr ⟨p, p2, vs, vs2, rfl, rfl, seqT_mono sm hp, seqT_mono sm hp2, by omega, fun z => ?_, fun z z2 => ?_, fun z z2 n hn => ?_⟩)
    · subst z
      have : a = [] := List.length_eq_zero_iff.mp (by simpa using l1.symm)
      subst this
      exact q Hs H _ (Fn.refl sm cu) ry
    · subst z2
      have e2 : (_ : List D) = [] := List.length_eq_zero_iff.mp (by simpa using l2.symm)
      rw [e2, List.append_nil] at q
      exact q Hs H _ (Fn.refl sm cu) rx
    · exact q (upd Hs n (.tup (vs ++ vs2))) _ _ (Fn.new sm cu hn) (rl_tup.mpr ⟨n, _, rfl, .inl (.inl upd_same), by rw [List.length_append]; exact h, RlL.mono (same_new (sm.free hn)) _ _ (r1.append r2)⟩)
  | _ => simp [addF] at e
theorem o_sub : OpD X g (binaryOp .Sub) (intF (· - ·)) := ⟨_, op_sub, rd_int0⟩
theorem o_and : OpD X g (binaryOp .BitAnd) (intF Builtin.bitAnd) := ⟨_, op_and, rd_int0⟩
theorem o_or : OpD X g (binaryOp .BitOr) (intF Builtin.bitOr) := ⟨_, op_or, rd_int0⟩
theorem io_and : OpD X g (inplaceOp .BitAnd) (intF Builtin.bitAnd) := ⟨_, iop_and, rd_int0⟩
theorem io_or : OpD X g (inplaceOp .BitOr) (intF Builtin.bitOr) := ⟨_, iop_or, rd_int0⟩
theorem o_fdiv : OpD X g (binaryOp .FloorDiv) fdivF := ⟨_, op_fdiv, rd_int fun x y d e => by
  cases x <;> cases y <;> simp only [fdivF, Option.ite_none_right_eq_some, Option.some.injEq, reduceCtorEq] at e
  exact ⟨_, _, rfl, rfl, e.1, e.2.symm⟩⟩
theorem o_mod : OpD X g (binaryOp .Mod) modF := ⟨_, op_mod, rd_int fun x y d e => by
  cases x <;> cases y <;> simp only [modF, Option.ite_none_right_eq_some, Option.some.injEq, reduceCtorEq] at e
  exact ⟨_, _, rfl, rfl, e.1, e.2.symm⟩⟩
theorem o_pow : OpD X g (binaryOp .Pow) powF := ⟨_, op_pow, rd_int fun x y d e => by
  cases x <;> cases y <;> simp only [powF, Option.ite_none_right_eq_some, Option.some.injEq, reduceCtorEq] at e
  exact ⟨_, _, rfl, rfl, e.1, e.2.symm⟩⟩
theorem o_shr : OpD X g (binaryOp .RShift) shrF := ⟨_, op_shr, rd_int fun x y d e => by
  cases x <;> cases y <;> simp only [shrF, Option.ite_none_right_eq_some, Option.some.injEq, reduceCtorEq] at e
  exact ⟨_, _, rfl, rfl, e.1, e.2.symm⟩⟩
theorem o_shl : OpD X g (binaryOp .LShift) shlF := by
  refine ⟨_, op_oneShl, fun Hs H c x y v u d Q sm cu rx ry e q => ?_⟩
  cases x <;> cases y <;> simp only [shlF, Option.ite_none_right_eq_some, Option.some.injEq, reduceCtorEq] at e
  rename_i i j
  obtain ⟨⟨rfl, h0, h1⟩, rfl⟩ := e
  refine ⟨j.toNat, rl_int.mp rx, ?_, by omega, q Hs H _ (Fn.refl sm cu) (rl_int.mpr rfl)⟩
  rw [Int.toNat_of_nonneg h0]
  exact rl_int.mp ry
theorem o_lt : OpD X g (compareOp .Lt) (cmpF fun i j => decide (i < j)) := ⟨_, op_lt, rd_cmp⟩
theorem o_le : OpD X g (compareOp .LtE) (cmpF fun i j => decide (i ≤ j)) := ⟨_, op_le, rd_cmp⟩
theorem o_gt : OpD X g (compareOp .Gt) (cmpF fun i j => decide (j < i)) := ⟨_, op_gt, rd_cmp⟩
theorem o_ge : OpD X g (compareOp .GtE) (cmpF fun i j => decide (j ≤ i)) := ⟨_, op_ge, rd_cmp⟩
theorem non_of {Hs : Hp} {x : D} {v : V} (r : Rl g Hs x v) : decide (v = .non) = isNon x := by
  cases x with
  | non => rw [rl_non.mp r]; rfl
  | bl b => rw [rl_bl.mp r]; rfl
  | int b => rw [rl_int.mp r]; rfl
  | str b => rw [(rl_str.mp r).1]; rfl
  | tup b => obtain ⟨p, vs, rfl, _⟩ := rl_tup.mp r; rfl
  | lst b => obtain ⟨p, vs, rfl, _⟩ := rl_lst.mp r; rfl
  | dic => obtain ⟨p, rfl, _⟩ := rl_dic.mp r; rfl
  | ins C ns ds => obtain ⟨_, p, dx, gs, rfl, _⟩ := rl_ins.mp r; rfl
  | cup => obtain ⟨p, _, rfl⟩ := rl_cup.mp r; rfl
  | scr ns => obtain ⟨p, rfl, _⟩ := rl_scr.mp r; rfl
theorem o_is : OpD X g (compareOp .Is) isNF := by
  refine ⟨_, op_isN, fun Hs H c x y v u d Q sm cu rx ry e q => ?_⟩
  cases y <;> simp only [isNF, Option.some.injEq, reduceCtorEq] at e
  subst e
  refine ⟨rl_non.mp ry, ?_⟩
  rw [non_of rx]
  exact q Hs H _ (Fn.refl sm cu) (rl_bl.mpr rfl)
theorem o_isN : OpD X g (compareOp .IsNot) notNF := by
  refine ⟨_, op_notN, fun Hs H c x y v u d Q sm cu rx ry e q => ?_⟩
  cases y <;> simp only [notNF, Option.some.injEq, reduceCtorEq] at e
  subst e
  refine ⟨rl_non.mp ry, ?_⟩
  rw [non_of rx]
  exact q Hs H _ (Fn.refl sm cu) (rl_bl.mpr rfl)
theorem flat_rep {g : Ga} {Hs : Hp} {a : List D} {vs : List V} (r : RlL g Hs a vs) : ∀ n, RlL g Hs (List.replicate n a).flatten (List.replicate n vs).flatten
  | 0 => rll_nil.mpr rfl
  | n + 1 => by
    rw [List.replicate_succ, List.replicate_succ, List.flatten_cons, List.flatten_cons]
    exact r.append (flat_rep r n)
theorem len_rep {α : Type} (a : List α) (n : Nat) : (List.replicate n a).flatten.length = a.length * n := by
  induction n with
  | zero => rfl
  | succ n ih => rw [List.replicate_succ, List.flatten_cons, List.length_append, ih, Nat.mul_succ]; omega
/-- a text some times -/
theorem op_repS : OpR X (binaryOp .Mult) (fun x y H Q => ∃ (z : Str) (k : Int), x = .str z ∧ y = .int k ∧ -(2 ^ 31) < k ∧ k < 2 ^ 31 ∧ z.length * k.toNat ≤ 1000000 ∧ Q (.str (strRep z k.toNat)) H) := by
  intro pins s σ H x y v u Q I rx ry h
  obtain ⟨z, k, rfl, rfl, h1, h2, h3, q⟩ := h
  obtain ⟨t, rfl⟩ := rx
  obtain ⟨t', rfl⟩ := ry
  have fold : ∀ (n : Nat) (a : Array Nat) (l : Array Nat), ((List.replicate n l).foldl (· ++ ·) a).toList = a.toList ++ (List.replicate n l.toList).flatten := by
    intro n
    induction n with
    | zero => intro a l; simp
    | succ n ih =>
      intro a l
      rw [List.replicate_succ, List.foldl_cons, ih, List.replicate_succ, List.flatten_cons, Array.toList_append, List.append_assoc]
  have eq : ∀ n : Nat, (⟨(List.replicate n z.cps).foldl (· ++ ·) #[]⟩ : Str) = strRep z n := fun n => by
    unfold strRep
    congr 1
    apply Array.ext'
    rw [fold]
    simp
  have len : (strRep z k.toNat).length = z.length * k.toNat := by
    show ((List.replicate k.toNat z.cps.toList).flatten.toArray).size = z.cps.size * k.toNat
    rw [List.size_toArray, len_rep, Array.length_toList]
  have emp : strRep z 0 = Str.empty := rfl
  have one : strRep z 1 = z := by
    unfold strRep
    simp
  have fin : ∀ z' : Str, z' = strRep z k.toNat → ∀ (tk : Tok) (s' : Shared), Inv X pins σ H s' → EP X pins σ Q (.str z' tk) s' := fun z' e tk s' I' => by
    subst e
    exact ⟨.str _, H, I', ⟨_, rfl⟩, q⟩
  have hsz := sizeLine_eq
  refine PySem.P.mul_str (by simp only [decide_eq_false (show ¬ k < -(2 ^ 63 : Int) by omega), decide_eq_false (show ¬ k ≥ 2 ^ 63 by omega), Bool.or_self]) (fun hn _ => ?_) (fun hn _ => ?_) ?_
  · have hk : 0 < k := by omega
    have h4 : (z.length : Int) * k ≤ 1000000 := by
      have : ((z.length * k.toNat : Nat) : Int) ≤ ((1000000 : Nat) : Int) := Int.ofNat_le.mpr h3
      rw [Int.natCast_mul, Int.toNat_of_nonneg (by omega)] at this
      exact this
    have := (Int.le_ediv_iff_mul_le hk).mpr (show (z.length : Int) * k ≤ 2 ^ 63 - 1 by omega)
    omega
  · show decide (z.length * k.toNat > sizeLine) = false
    exact decide_eq_false (by omega)
  · split
    · exact ⟨by decide, fin _ (by rw [show k.toNat = 0 by omega, emp]) _ _ (I.tok _)⟩
    · split
      · rename_i h5
        refine fin _ ?_ _ _ I
        rcases Bool.or_eq_true_iff.mp h5 with h5 | h5
        · have : k = 1 := by simpa using h5
          rw [show k.toNat = 1 by omega, one]
        · have h6 : z.cps.size = 0 := beq_iff_eq.mp h5
          have h7 : z.cps.toList = [] := List.length_eq_zero_iff.mp (by rw [Array.length_toList]; exact h6)
          unfold strRep
          rw [h7]
          have h8 : ∀ n : Nat, (List.replicate n ([] : List Nat)).flatten = [] := fun n => by induction n with
            | zero => rfl
            | succ n ih => rw [List.replicate_succ, List.flatten_cons, ih]; rfl
          rw [h8]
          obtain ⟨cps⟩ := z
          simp at h7
          subst h7
          rfl
      · exact ⟨by rw [eq, len]; omega, fin _ (eq _) _ _ (I.tok _)⟩
theorem txtOk_rep {z : Str} {n : Nat} (h : txtOk z = true) (hl : z.length * n ≤ sizeLine) : txtOk (strRep z n) = true := by
  rw [txtOk_iff] at h ⊢
  unfold strRep
  simp only
  refine ⟨by rw [len_rep, Array.length_toList]; exact hl, fun c hc => ?_⟩
  rw [List.mem_flatten] at hc
  obtain ⟨l, hl, hc⟩ := hc
  rw [(List.mem_replicate.mp hl).2] at hc
  exact h.2 c hc
theorem o_mul : OpD X g (binaryOp .Mult) mulF := by
  refine ⟨_, (op_mul.or op_rep).or op_repS, ?_⟩
  intro Hs H c x y v u d Q sm cu rx ry e q
  cases x with
  | int i =>
    cases y <;> simp only [mulF, Option.ite_none_right_eq_some, Option.some.injEq, reduceCtorEq] at e
    obtain ⟨h, rfl⟩ := e
    exact .inl (.inl ⟨_, _, rl_int.mp rx, rl_int.mp ry, h, q Hs H _ (Fn.refl sm cu) (rl_int.mpr rfl)⟩)
  | lst a =>
    cases y <;> simp only [mulF, Option.ite_none_right_eq_some, Option.some.injEq, reduceCtorEq] at e
    obtain ⟨⟨h1, h2, h3⟩, rfl⟩ := e
    obtain ⟨p, vs, rfl, hp, h0, r1⟩ := rl_lst.mp rx
    have l1 := r1.length
    refine .inl (.inr ⟨p, _, vs, rfl, rl_int.mp ry, sm _ _ hp, by omega, by omega, by rw [l1]; exact h3, fun n hn => ?_⟩)
    exact q (upd Hs n _) _ _ (Fn.new sm cu hn) (rl_lst.mpr ⟨n, _, rfl, upd_same, by rw [len_rep]; exact h3, RlL.mono (same_new (sm.free hn)) _ _ (flat_rep r1 _)⟩)
  | str a =>
    cases y <;> simp only [mulF, Option.ite_none_right_eq_some, Option.some.injEq, reduceCtorEq] at e
    obtain ⟨⟨h1, h2, h3⟩, rfl⟩ := e
    obtain ⟨rfl, h0⟩ := rl_str.mp rx
    exact .inr ⟨_, _, rfl, rl_int.mp ry, h1, h2, h3, q Hs H _ (Fn.refl sm cu) (rl_str.mpr ⟨rfl, txtOk_rep h0 (by rw [sizeLine_eq]; omega)⟩)⟩
  | _ => simp [mulF] at e
end
end L2.G
set_option Elab.async false
set_option linter.all false
set_option maxRecDepth 100000
set_option maxHeartbeats 2000000
namespace L2.G
open PySem PySem.Spec PyProof.Rows
/-! data as the library reads it -/
mutual
def okD : Nat → D → Bool
  | _, .non => true
  | _, .bl _ => true
  | _, .int _ => true
  | _, .str _ => true
  | 0, .tup _ => false
  | n + 1, .tup ds => okDs n ds
  | 0, .lst _ => false
  | n + 1, .lst ds => okDs n ds
  | _, .dic => false
  | _, .ins _ _ _ => false
  | _, .cup => false
  | _, .scr _ => false
def okDs : Nat → List D → Bool
  | _, [] => true
  | n, d :: ds => okD n d && okDs n ds
end
mutual
def toP : D → PyData
  | .non => .none
  | .bl b => .bool b
  | .int i => .int i
  | .str z => .str z
  | .tup ds => .tuple (toPs ds)
  | .lst ds => .list (toPs ds)
  | .dic => .none
  | .ins _ _ _ => .none
  | .cup => .none
  | .scr _ => .none
def toPs : List D → List PyData
  | [] => []
  | d :: ds => toP d :: toPs ds
end
theorem toPs_map : ∀ ds : List D, toPs ds = ds.map toP
  | [] => by unfold toPs; rfl
  | d :: ds => by unfold toPs; rw [toPs_map ds]; rfl
theorem okDs_all : ∀ (n : Nat) (ds : List D), okDs n ds = ds.all (okD n)
  | n, [] => by unfold okDs; rfl
  | n, d :: ds => by unfold okDs; rw [okDs_all n ds]; rfl
theorem okD_tup (n : Nat) (ds : List D) : okD (n + 1) (.tup ds) = ds.all (okD n) := by unfold okD; exact okDs_all n ds
theorem okD_lst (n : Nat) (ds : List D) : okD (n + 1) (.lst ds) = ds.all (okD n) := by unfold okD; exact okDs_all n ds
theorem okD_int (n : Nat) (i : Int) : okD n (.int i) = true := by unfold okD; rfl
theorem okD_bl (n : Nat) (i : Bool) : okD n (.bl i) = true := by unfold okD; rfl
theorem okD_str (n : Nat) (i : Str) : okD n (.str i) = true := by unfold okD; rfl
theorem okD_non (n : Nat) : okD n .non = true := by unfold okD; rfl
mutual
theorem dp_of {g : Ga} {H : Hp} : ∀ (n : Nat) (d : D) (v : V), okD n d = true → Rl g H d v → Dp g.K H v (toP d)
  | n, .non, v, _, r => by rw [rl_non.mp r]; unfold toP; exact .non
  | n, .bl b, v, _, r => by rw [rl_bl.mp r]; unfold toP; exact .bl b
  | n, .int i, v, _, r => by rw [rl_int.mp r]; unfold toP; exact .int i
  | n, .str z, v, _, r => by rw [(rl_str.mp r).1]; unfold toP; exact .str z
  | 0, .tup ds, v, h, r => by unfold okD at h; cases h
  | n + 1, .tup ds, v, h, r => by
    obtain ⟨a, vs, rfl, hs, _, hr⟩ := rl_tup.mp r
    unfold okD at h
    unfold toP
    exact .tup hs (dps_of n ds vs h hr)
  | 0, .lst ds, v, h, r => by unfold okD at h; cases h
  | n + 1, .lst ds, v, h, r => by
    obtain ⟨a, vs, rfl, hs, _, hr⟩ := rl_lst.mp r
    unfold okD at h
    unfold toP
    exact .lst (.inl (.inl hs)) (dps_of n ds vs h hr)
  | n, .dic, v, h, r => by unfold okD at h; cases h
  | n, .ins _ _ _, v, h, r => by unfold okD at h; cases h
  | n, .cup, v, h, r => by unfold okD at h; cases h
  | n, .scr _, v, h, r => by unfold okD at h; cases h
theorem dps_of {g : Ga} {H : Hp} : ∀ (n : Nat) (ds : List D) (vs : List V), okDs n ds = true → RlL g H ds vs → DpAll g.K H vs (toPs ds)
  | n, [], vs, _, r => by rw [rll_nil.mp r]; unfold toPs; exact .nil
  | n, d :: ds, vs, h, r => by
    obtain ⟨v, r2, rfl, h1, h2⟩ := rll_cons.mp r
    unfold okDs at h
    unfold toPs
    obtain ⟨ha, hb⟩ := Bool.and_eq_true_iff.mp h
    exact .cons (dp_of n d v ha h1) (dps_of n ds r2 hb h2)
end
mutual
theorem lay_of {g : Ga} {H : Hp} : ∀ (n : Nat) (d : D) (v : V), okD n d = true → Rl g H d v → (toP d).canLay0 = true
  | n, .non, v, _, r => by unfold toP PyData.canLay0; rfl
  | n, .bl b, v, _, r => by unfold toP PyData.canLay0; rfl
  | n, .int i, v, _, r => by unfold toP PyData.canLay0; rfl
  | n, .str z, v, _, r => by unfold toP PyData.canLay0; exact txtOk_all (rl_str.mp r).2
  | 0, .tup ds, v, h, r => by unfold okD at h; cases h
  | n + 1, .tup ds, v, h, r => by
    obtain ⟨a, vs, rfl, hs, _, hr⟩ := rl_tup.mp r
    unfold okD at h
    unfold toP PyData.canLay0
    exact lays_of n ds vs h hr
  | 0, .lst ds, v, h, r => by unfold okD at h; cases h
  | n + 1, .lst ds, v, h, r => by
    obtain ⟨a, vs, rfl, hs, _, hr⟩ := rl_lst.mp r
    unfold okD at h
    unfold toP PyData.canLay0
    exact lays_of n ds vs h hr
  | n, .dic, v, h, r => by unfold okD at h; cases h
  | n, .ins _ _ _, v, h, r => by unfold okD at h; cases h
  | n, .cup, v, h, r => by unfold okD at h; cases h
  | n, .scr _, v, h, r => by unfold okD at h; cases h
theorem lays_of {g : Ga} {H : Hp} : ∀ (n : Nat) (ds : List D) (vs : List V), okDs n ds = true → RlL g H ds vs → PyData.canLayAll0 (toPs ds) = true
  | n, [], vs, _, r => by unfold toPs PyData.canLayAll0; rfl
  | n, d :: ds, vs, h, r => by
    obtain ⟨v, r2, rfl, h1, h2⟩ := rll_cons.mp r
    unfold okDs at h
    unfold toPs PyData.canLayAll0
    obtain ⟨ha, hb⟩ := Bool.and_eq_true_iff.mp h
    rw [lay_of n d v ha h1, lays_of n ds r2 hb h2]
    rfl
end
mutual
theorem dep_of : ∀ (n : Nat) (d : D), okD n d = true → (toP d).depth ≤ n + 1
  | n, .non, _ => by unfold toP PyData.depth; omega
  | n, .bl b, _ => by unfold toP PyData.depth; omega
  | n, .int i, _ => by unfold toP PyData.depth; omega
  | n, .str z, _ => by unfold toP PyData.depth; omega
  | 0, .tup ds, h => by unfold okD at h; cases h
  | n + 1, .tup ds, h => by
    unfold okD at h
    unfold toP PyData.depth
    have := deps_of n ds h
    omega
  | 0, .lst ds, h => by unfold okD at h; cases h
  | n + 1, .lst ds, h => by
    unfold okD at h
    unfold toP PyData.depth
    have := deps_of n ds h
    omega
  | n, .dic, h => by unfold okD at h; cases h
  | n, .ins _ _ _, h => by unfold okD at h; cases h
  | n, .cup, h => by unfold okD at h; cases h
  | n, .scr _, h => by unfold okD at h; cases h
theorem deps_of : ∀ (n : Nat) (ds : List D), okDs n ds = true → PyData.depthAll (toPs ds) ≤ n + 1
  | n, [], _ => by unfold toPs PyData.depthAll; omega
  | n, d :: ds, h => by
    unfold okDs at h
    unfold toPs PyData.depthAll
    obtain ⟨ha, hb⟩ := Bool.and_eq_true_iff.mp h
    have h1 := dep_of n d ha
    have h2 := deps_of n ds hb
    omega
end
theorem shaped_of {g : Ga} {H : Hp} {d : D} {v : V} (h : okD 60 d = true) (r : Rl g H d v) : SeqAt.shaped (toP d) = true := by
  unfold SeqAt.shaped
  rw [lay_of 60 d v h r]
  have := dep_of 60 d h
  simp
  omega
/-- == of data -/
def eqD (x y : D) : Bool := PyData.eqv (toP x) (toP y)
def eqF (n : Bool) : D → D → Option D := fun x y => if okD 60 x && okD 60 y then some (.bl (if n then !(eqD x y) else eqD x y)) else none
/-- x in y -/
def inF (n : Bool) : D → D → Option D := fun x y => match y with
  | .str z => match x with
    | .str w => match w.cps.toList with
      | [c] => some (.bl (if n then !decide (c ∈ z.cps.toList) else decide (c ∈ z.cps.toList)))
      | _ => none
    | _ => none
  | .lst ds => if okD 60 x && ds.all (okD 59) then some (.bl (if n then !(ds.any fun z => eqD z x) else ds.any fun z => eqD z x)) else none
  | .tup ds => if okD 0 x && ds.all (okD 0) then some (.bl (if n then !(ds.any fun z => eqD z x) else ds.any fun z => eqD z x)) else none
  | _ => none
section
variable {X : Cx} {g : Ga}
theorem o_eq (hu : X.A.units + 64 < cLine) (hK : X.K = g.K := by rfl) : OpD X g (compareOp .Eq) (eqF false) := by
  refine ⟨_, op_eqD hu, ?_⟩
  rw [hK]
  intro Hs H c x y v u d Q sm cu rx ry e q
  simp only [eqF, Option.ite_none_right_eq_some, Option.some.injEq, Bool.and_eq_true] at e
  obtain ⟨⟨h1, h2⟩, rfl⟩ := e
  exact ⟨toP x, toP y, dp_of 60 x v h1 (Rl.mono sm x v rx), dp_of 60 y u h2 (Rl.mono sm y u ry), shaped_of h1 rx, shaped_of h2 ry, q Hs H _ (Fn.refl sm cu) (rl_bl.mpr rfl)⟩
theorem o_ne (hu : X.A.units + 64 < cLine) (hK : X.K = g.K := by rfl) : OpD X g (compareOp .NotEq) (eqF true) := by
  refine ⟨_, op_neD hu, ?_⟩
  rw [hK]
  intro Hs H c x y v u d Q sm cu rx ry e q
  simp only [eqF, Option.ite_none_right_eq_some, Option.some.injEq, Bool.and_eq_true] at e
  obtain ⟨⟨h1, h2⟩, rfl⟩ := e
  exact ⟨toP x, toP y, dp_of 60 x v h1 (Rl.mono sm x v rx), dp_of 60 y u h2 (Rl.mono sm y u ry), shaped_of h1 rx, shaped_of h2 ry, q Hs H _ (Fn.refl sm cu) (rl_bl.mpr rfl)⟩
theorem eqV_of {Hs : Hp} {x y : D} {v u : V} (hx : okD 0 x = true) (hy : okD 0 y = true) (rx : Rl g Hs x v) (ry : Rl g Hs y u) : flatV v = true ∧ flatV u = true ∧ eqV v u = eqD x y := by
  have fl : ∀ {d : D} {w : V}, okD 0 d = true → Rl g Hs d w → flatV w = true := fun {d w} h r => by
    cases d with
    | non => rw [rl_non.mp r]; rfl
    | bl b => rw [rl_bl.mp r]; rfl
    | int b => rw [rl_int.mp r]; rfl
    | str b => rw [(rl_str.mp r).1]; rfl
    | _ => unfold okD at h; cases h
  refine ⟨fl hx rx, fl hy ry, ?_⟩
  unfold eqD
  cases x <;> first
    | (unfold okD at hx; cases hx; done)
    | (cases y <;> first
      | (unfold okD at hy; cases hy; done)
      | (first | rw [rl_non.mp rx] | rw [rl_bl.mp rx] | rw [rl_int.mp rx] | rw [(rl_str.mp rx).1]
         first | rw [rl_non.mp ry] | rw [rl_bl.mp ry] | rw [rl_int.mp ry] | rw [(rl_str.mp ry).1]
         unfold toP PyData.eqv
         rfl))
theorem any_of {Hs : Hp} {x : D} {v : V} (hx : okD 0 x = true) (rx : Rl g Hs x v) : ∀ (ds : List D) (vs : List V), ds.all (okD 0) = true → RlL g Hs ds vs → vs.all flatV = true ∧ inV v vs = ds.any fun z => eqD z x
  | [], vs, _, r => by rw [rll_nil.mp r]; exact ⟨rfl, rfl⟩
  | d :: ds, vs, h, r => by
    obtain ⟨u, us, rfl, h1, h2⟩ := rll_cons.mp r
    rw [List.all_cons, Bool.and_eq_true] at h
    obtain ⟨f1, f2, e⟩ := eqV_of h.1 hx h1 rx
    obtain ⟨a1, a2⟩ := any_of hx rx ds us h.2 h2
    refine ⟨by rw [List.all_cons, f1, a1]; rfl, ?_⟩
    unfold inV at a2 ⊢
    rw [List.any_cons, List.any_cons, e, a2]
theorem rd_in {n : Bool} {Hs H : Hp} {c : Cu} {x y d : D} {v u : V} {Q : VK} (sm : Same Hs H) (cu : CupAt g.pc Hs H c) (rx : Rl g Hs x v) (ry : Rl g Hs y u) (e : inF n x y = some d)
    (q : ∀ Hs' H' z, Fn g.pc Hs H Hs' H' c → Rl g Hs' d z → Q z H') :
    (∃ (k : Nat) (z : Str), v = .str ⟨#[k]⟩ ∧ u = .str z ∧ Q (.bl (if n then !decide (k ∈ z.cps.toList) else decide (k ∈ z.cps.toList))) H) ∨ rIn g.K n v u H Q ∨
      (∃ dd ds, Dp g.K H v dd ∧ Dp g.K H u (.list ds) ∧ SeqAt.shaped dd = true ∧ SeqAt.shaped (.list ds) = true ∧ Q (.bl (if n then !ds.any fun z => PyData.eqv z dd else ds.any fun z => PyData.eqv z dd)) H) := by
  have fin : ∀ b, d = .bl b → Q (.bl b) H := fun b eb => by subst eb; exact q Hs H _ (Fn.refl sm cu) (rl_bl.mpr rfl)
  cases y with
  | str z =>
    obtain ⟨rfl, _⟩ := rl_str.mp ry
    simp only [inF] at e
    split at e
    · rename_i w
      split at e
      · rename_i k hk
        obtain ⟨rfl, _⟩ := rl_str.mp rx
        simp only [Option.some.injEq] at e
        refine .inl ⟨k, z, ?_, rfl, fin _ e.symm⟩
        obtain ⟨⟨l⟩⟩ := w
        simp at hk
        subst hk
        rfl
      · cases e
    · cases e
  | lst ds =>
    simp only [inF, Option.ite_none_right_eq_some, Option.some.injEq, Bool.and_eq_true] at e
    obtain ⟨⟨h1, h2⟩, rfl⟩ := e
    have h3 : okD 60 (.lst ds) = true := by rw [okD_lst]; exact h2
    refine .inr (.inr ⟨toP x, toPs ds, dp_of 60 x v h1 (Rl.mono sm x v rx), ?_, shaped_of h1 rx, ?_, ?_⟩)
    · have := dp_of 60 _ u h3 (Rl.mono sm _ u ry)
      unfold toP at this
      exact this
    · have := shaped_of h3 ry
      unfold toP at this
      exact this
    · refine fin _ ?_
      rw [toPs_map, List.any_map]
      rfl
  | tup ds =>
    simp only [inF, Option.ite_none_right_eq_some, Option.some.injEq, Bool.and_eq_true] at e
    obtain ⟨⟨h1, h2⟩, rfl⟩ := e
    obtain ⟨p, vs, rfl, hs, _, hr⟩ := rl_tup.mp ry
    obtain ⟨a1, a2⟩ := any_of h1 rx ds vs h2 hr
    refine .inr (.inl ⟨p, vs, rfl, .inr (seqT_mono sm hs), ?_, a1, ?_⟩)
    · exact (eqV_of h1 h1 rx rx).1
    · refine fin _ ?_
      rw [a2]
  | _ => simp [inF] at e
theorem o_in (hu : X.A.units + 65 < cLine) (hK : X.K = g.K := by rfl) : OpD X g (compareOp .In) (inF false) := by
  refine ⟨_, op_in_sign.or (op_in_seq.or (op_inD hu)), ?_⟩
  rw [hK]
  exact fun Hs H c x y v u d Q sm cu rx ry e q => rd_in sm cu rx ry e q
theorem o_notIn (hu : X.A.units + 65 < cLine) (hK : X.K = g.K := by rfl) : OpD X g (compareOp .NotIn) (inF true) := by
  refine ⟨_, op_notIn_sign.or (op_notIn_seq.or (op_notInD hu)), ?_⟩
  rw [hK]
  exact fun Hs H c x y v u d Q sm cu rx ry e q => rd_in sm cu rx ry e q
end
/-! subscripts -/
def chS (c : Nat) : D := .str ⟨#[c]⟩
def ixF : D → D → Option D
  | .lst ds, .int i => atI ds i
  | .tup ds, .int i => atI ds i
  | .str z, .int i => (atI z.cps.toList i).map chS
  | _, _ => none
theorem atI_rl {g : Ga} {Hs : Hp} {ds : List D} {vs : List V} {i : Int} {d : D} (r : RlL g Hs ds vs) (e : atI ds i = some d) : ∃ v, atI vs i = some v ∧ Rl g Hs d v := by
  unfold atI at e ⊢
  rw [r.length]
  cases h : ixN ds.length i with
  | none => rw [h] at e; cases e
  | some j =>
    rw [h] at e
    exact r.get e
theorem atI_mem {α : Type} {l : List α} {i : Int} {x : α} (e : atI l i = some x) : x ∈ l := by
  unfold atI at e
  cases h : ixN l.length i with
  | none => rw [h] at e; cases e
  | some j => rw [h] at e; exact List.mem_of_getElem? e
theorem txtOk_ch {z : Str} {c : Nat} (h : txtOk z = true) (hc : c ∈ z.cps.toList) : txtOk ⟨#[c]⟩ = true := by
  rw [txtOk_iff] at h ⊢
  refine ⟨by rw [sizeLine_eq]; simp, fun k hk => ?_⟩
  have : k = c := by simpa using hk
  subst this
  exact h.2 k hc
section
variable {X : Cx} {g : Ga}
theorem i_ix (hK : X.K = g.K := by rfl) : IxD X g ixF := by
  refine ⟨_, ix_list.or (ix_tup.or ix_str), ?_⟩
  rw [hK]
  intro Hs H c x y v u d Q sm cu rx ry e q
  cases x with
  | lst ds =>
    cases y <;> simp only [ixF, reduceCtorEq] at e
    obtain ⟨p, vs, rfl, hp, _, r⟩ := rl_lst.mp rx
    obtain ⟨w, e2, rw'⟩ := atI_rl r e
    exact .inl ⟨p, vs, _, w, rfl, rl_int.mp ry, .inl (.inl (sm _ _ hp)), e2, q Hs H _ (Fn.refl sm cu) rw'⟩
  | tup ds =>
    cases y <;> simp only [ixF, reduceCtorEq] at e
    obtain ⟨p, vs, rfl, hp, _, r⟩ := rl_tup.mp rx
    obtain ⟨w, e2, rw'⟩ := atI_rl r e
    exact .inr (.inl ⟨p, vs, _, w, rfl, rl_int.mp ry, seqT_mono sm hp, e2, q Hs H _ (Fn.refl sm cu) rw'⟩)
  | str z =>
    cases y <;> simp only [ixF, Option.map_eq_some_iff, reduceCtorEq] at e
    obtain ⟨k, e2, rfl⟩ := e
    obtain ⟨rfl, hz⟩ := rl_str.mp rx
    exact .inr (.inr ⟨z, _, k, rfl, rl_int.mp ry, txtOk_len hz, e2, q Hs H _ (Fn.refl sm cu) (rl_str.mpr ⟨rfl, txtOk_ch hz (atI_mem e2)⟩)⟩)
  | _ => simp [ixF] at e
end
end L2.G
set_option Elab.async false
set_option linter.all false
set_option maxRecDepth 100000
set_option maxHeartbeats 2000000
namespace L2.G
open PySem PySem.Spec PyProof.Rows L2H
theorem ru {A : Around} {k : Nat} (hr : Room k A) : A.units + 64 < cLine := by have := hr.un; omega
theorem ru5 {A : Around} {k : Nat} (hr : Room k A) : A.units + 65 < cLine := by have := hr.un; omega
theorem ruH {A : Around} {k : Nat} (hr : Room k A) : RoomH k A := ⟨hr.dp, hr.un⟩
/-! slices -/
def cutL {α : Type} (xs : List α) (lo hi : Option Int) : List α := (xs.drop (HT.sIx xs.length 0 lo)).take (HT.sIx xs.length xs.length hi - HT.sIx xs.length 0 lo)
def cutF : D → Option Int → Option Int → Option D
  | .lst ds, lo, hi => some (.lst (cutL ds lo hi))
  | .tup ds, lo, hi => some (.tup (cutL ds lo hi))
  | .str z, lo, hi => some (.str (cutS z lo hi))
  | _, _, _ => none
def paN : PM (Option Int) := fun _ c => .ok none c
def paS (m : PM D) : PM (Option Int) := fun st c => (m st c).bind fun x c => match x with
  | .int i => .ok (some i) c
  | _ => .no
def slD (m : PM D) (lo hi : PM (Option Int)) : PM D := fun st c => (m st c).bind fun x c => (lo st c).bind fun l c => (hi st c).bind fun u c => ofO (cutF x l u) c
def tO (g : Ga) (E : XK) (hid : List Nat) (m : PM (Option Int)) : TO := fun σ H Q => ∃ st c Hs, Sl g hid Hs st σ ∧ Same Hs H ∧ CupAt g.pc Hs H c ∧ Post g E Hs H (m st c) fun o _ _ H' => Q o H'
abbrev DO (X : Cx) (g : Ga) (E : XK) (hid : List Nat) (o : Option Expr) (m : PM (Option Int)) : Prop := PO X o (tO g E hid m)
theorem PO_imp {X : Cx} {e : Option Expr} {t t' : TO} (h : PO X e t) (m : ∀ σ H Q, t' σ H Q → t σ H Q) : PO X e t' := ⟨fun pins s σ H Q I q => h.run pins s σ H Q I (m σ H Q q)⟩
theorem len_cut {α : Type} (xs : List α) (lo hi : Option Int) : (cutL xs lo hi).length ≤ xs.length := by
  unfold cutL
  rw [List.length_take, List.length_drop]
  omega
theorem rl_cut {g : Ga} {Hs : Hp} {ds : List D} {vs : List V} (r : RlL g Hs ds vs) (lo hi : Option Int) : RlL g Hs (cutL ds lo hi) (cutV vs lo hi) := by
  unfold cutL cutV
  rw [r.length]
  exact (r.drop _).take _
theorem txtOk_cut {z : Str} (h : txtOk z = true) (lo hi : Option Int) : txtOk (cutS z lo hi) = true := by
  have l := cutS_length z lo hi
  rw [txtOk_iff] at h ⊢
  refine ⟨Nat.le_trans (by rw [Array.length_toList]; exact l) (by have := h.1; rw [Array.length_toList] at this; exact this), fun c hc => h.2 c ?_⟩
  have hc' : c ∈ (z.cps.toList.drop (HT.sIx z.length 0 lo)).take (HT.sIx z.length z.length hi - HT.sIx z.length 0 lo) := hc
  exact List.mem_of_mem_drop (List.mem_of_mem_take hc')
section
variable {X : Cx} {g : Ga} {E : XK} {hid : List Nat} {σ : St} {H : Hp} {Q : VK} {ma mb mc m : PM D} {a b c e : Expr} {es : List Expr} {ms : List (PM D)} {pos p2 : Pos}
theorem po_n : DO X g E hid none paN := PO_imp po_none fun σ H Q ⟨st, c, Hs, sl, sm, cu, p⟩ => p Hs H (Fn.refl sm cu)
theorem po_s (h : DE X g E hid e m) : DO X g E hid (some e) (paS m) := by
  refine PO_imp (po_some h) fun σ H Q ⟨st, c, Hs, sl, sm, cu, p⟩ => ⟨st, c, Hs, sl, sm, cu, (Post.bind p).mono fun x c1 Hs1 H1 _ F1 q v1 r1 => ?_⟩
  cases x with
  | int i => exact ⟨i, rl_int.mp r1, q Hs1 H1 (Fn.refl F1.sm F1.cu)⟩
  | _ => exact q.elim
theorem d_sl {lo hi : Option Expr} {ml mh : PM (Option Int)} (he : DE X g E hid e m) (hl : DO X g E hid lo ml) (hu : DO X g E hid hi mh) (hK : X.K = g.K := by rfl) : DE X g E hid (.Subscript e (.Slice lo hi none p2) pos) (slD m ml mh) := by
  refine PE_imp (pe_slice (sl_list.or (sl_tupA.or sl_str)) he hl hu) fun σ H Q ⟨st, c, Hs, sl, sm, cu, p⟩ => ⟨st, c, Hs, sl, sm, cu, (Post.bind p).mono fun x c1 Hs1 H1 _ F1 q v1 r1 => ?_⟩
  refine ⟨st, c1, Hs1, sl.mono F1.ss, F1.sm, F1.cu, (Post.bind q).mono fun l c2 Hs2 H2 _ F2 q2 => ⟨st, c2, Hs2, (sl.mono F1.ss).mono F2.ss, F2.sm, F2.cu, (Post.bind q2).mono fun u c3 Hs3 H3 _ F3 q3 => ?_⟩⟩
  have r3 := Rl.mono (F2.ss.trans F3.ss) x v1 r1
  rw [hK]
  cases x with
  | lst ds =>
    obtain ⟨p, vs, rfl, hp, hl, r⟩ := rl_lst.mp r3
    refine .inl ⟨p, vs, rfl, .inl (.inl (F3.sm _ _ hp)), fun n hn => ?_⟩
    exact q3 (upd Hs3 n _) _ (Fn.new F3.sm F3.cu hn) _ (rl_lst.mpr ⟨n, _, rfl, upd_same, Nat.le_trans (len_cut _ _ _) hl, RlL.mono (same_new (F3.sm.free hn)) _ _ (rl_cut r l u)⟩)
  | tup ds =>
    obtain ⟨p, vs, rfl, hp, hl, r⟩ := rl_tup.mp r3
    refine .inr (.inl ⟨p, vs, rfl, seqT_mono F3.sm hp, fun z => ?_, fun z n hn => ?_⟩)
    · refine q3 Hs3 H3 (Fn.refl F3.sm F3.cu) _ ?_
      have e2 : cutL ds l u = ds := by
        unfold cutL
        rw [← r.length, z.1, z.2, List.drop_zero, Nat.sub_zero, r.length, List.take_length]
      rw [e2]
      exact r3
    · exact q3 (upd Hs3 n _) _ (Fn.new F3.sm F3.cu hn) _ (rl_tup.mpr ⟨n, _, rfl, .inl (.inl upd_same), Nat.le_trans (len_cut _ _ _) hl, RlL.mono (same_new (F3.sm.free hn)) _ _ (rl_cut r l u)⟩)
  | str z =>
    obtain ⟨rfl, hz⟩ := rl_str.mp r3
    exact .inr (.inr ⟨z, rfl, txtOk_len hz, q3 Hs3 H3 (Fn.refl F3.sm F3.cu) _ (rl_str.mpr ⟨rfl, txtOk_cut hz l u⟩)⟩)
  | _ => exact q3.elim
end
/-! built-in functions -/
def lenF : List D → Option D
  | [.str z] => some (.int z.length)
  | [.lst ds] => some (.int ds.length)
  | [.tup ds] => some (.int ds.length)
  | [.scr ns] => some (.int ns.length)
  | _ => none
def absF : List D → Option D
  | [.int i] => some (.int (if i < 0 then -i else i))
  | _ => none
def divmodF : List D → Option D
  | [.int i, .int j] => if 0 < j ∧ j < 1073741824 then some (.tup [.int (i / j), .int (i % j)]) else none
  | _ => none
def blsOf : List D → Option (List Bool)
  | [] => some []
  | .bl b :: ds => (blsOf ds).map (b :: ·)
  | _ => none
def intsOf : List D → Option (List Int)
  | [] => some []
  | .int b :: ds => (intsOf ds).map (b :: ·)
  | _ => none
def strsOf : List D → Option (List Str)
  | [] => some []
  | .str b :: ds => (strsOf ds).map (b :: ·)
  | _ => none
theorem blsOf_map (bs : List Bool) : blsOf (bs.map .bl) = some bs := by induction bs with
  | nil => rfl
  | cons b bs ih => rw [List.map_cons, blsOf, ih]; rfl
theorem intsOf_map (bs : List Int) : intsOf (bs.map .int) = some bs := by induction bs with
  | nil => rfl
  | cons b bs ih => rw [List.map_cons, intsOf, ih]; rfl
theorem strsOf_map (bs : List Str) : strsOf (bs.map .str) = some bs := by induction bs with
  | nil => rfl
  | cons b bs ih => rw [List.map_cons, strsOf, ih]; rfl
def allF : List D → Option D
  | [.lst ds] => (blsOf ds).map fun bs => .bl (bs.all id)
  | _ => none
def anyF : List D → Option D
  | [.lst ds] => (blsOf ds).map fun bs => .bl (bs.any id)
  | _ => none
def sumF : List D → Option D
  | [.lst ds] => (intsOf ds).map fun ns => .int ns.sum
  | _ => none
def maxF : List D → Option D
  | [.int i, .int j] => some (.int (if j > i then j else i))
  | _ => none
def minF : List D → Option D
  | [.int i, .int j] => some (.int (if j < i then j else i))
  | _ => none
def int1F : List D → Option D
  | [.int i] => some (.int i)
  | _ => none
def str1F : List D → Option D
  | [.int i] => if i.natAbs.log2 < 1920 ∧ txtOk (toString i) = true then some (.str (toString i)) else none
  | [.str z] => some (.str z)
  | _ => none
def tupleF : List D → Option D
  | [.lst ds] => some (.tup ds)
  | [.tup ds] => some (.tup ds)
  | _ => none
def listF : List D → Option D
  | [.lst ds] => some (.lst ds)
  | [.tup ds] => some (.lst ds)
  | _ => none
section
variable {X : Cx} {g : Ga}
theorem one_of {Hs : Hp} {d : D} {vs : List V} (r : RlL g Hs [d] vs) : ∃ v, vs = [v] ∧ Rl g Hs d v := by
  obtain ⟨v, r2, rfl, h1, h2⟩ := rll_cons.mp r
  rw [rll_nil.mp h2]
  exact ⟨v, rfl, h1⟩
theorem two_of {Hs : Hp} {d e : D} {vs : List V} (r : RlL g Hs [d, e] vs) : ∃ v u, vs = [v, u] ∧ Rl g Hs d v ∧ Rl g Hs e u := by
  obtain ⟨v, r2, rfl, h1, h2⟩ := rll_cons.mp r
  obtain ⟨u, rfl, h3⟩ := one_of h2
  exact ⟨v, u, rfl, h1, h3⟩
theorem bls_of {Hs : Hp} : ∀ {ds : List D} {bs : List Bool} {vs : List V}, blsOf ds = some bs → RlL g Hs ds vs → vs = bs.map V.bl
  | [], bs, vs, e, r => by cases e; rw [rll_nil.mp r]; rfl
  | d :: ds, bs, vs, e, r => by
    obtain ⟨v, r2, rfl, h1, h2⟩ := rll_cons.mp r
    cases d <;> simp only [blsOf, Option.map_eq_some_iff, reduceCtorEq] at e
    obtain ⟨bs', e, rfl⟩ := e
    rw [rl_bl.mp h1, bls_of e h2]
    rfl
theorem ints_of {Hs : Hp} : ∀ {ds : List D} {bs : List Int} {vs : List V}, intsOf ds = some bs → RlL g Hs ds vs → vs = bs.map V.int
  | [], bs, vs, e, r => by cases e; rw [rll_nil.mp r]; rfl
  | d :: ds, bs, vs, e, r => by
    obtain ⟨v, r2, rfl, h1, h2⟩ := rll_cons.mp r
    cases d <;> simp only [intsOf, Option.map_eq_some_iff, reduceCtorEq] at e
    obtain ⟨bs', e, rfl⟩ := e
    rw [rl_int.mp h1, ints_of e h2]
    rfl
theorem strs_of {Hs : Hp} : ∀ {ds : List D} {bs : List Str} {vs : List V}, strsOf ds = some bs → RlL g Hs ds vs → vs = bs.map V.str
  | [], bs, vs, e, r => by cases e; rw [rll_nil.mp r]; rfl
  | d :: ds, bs, vs, e, r => by
    obtain ⟨v, r2, rfl, h1, h2⟩ := rll_cons.mp r
    cases d <;> simp only [strsOf, Option.map_eq_some_iff, reduceCtorEq] at e
    obtain ⟨bs', e, rfl⟩ := e
    rw [(rl_str.mp h1).1, strs_of e h2]
    rfl
theorem b_len (hK : X.K = g.K := by rfl) : BiD X g (.builtin "len") lenF := by
  refine ⟨_, call_len, ?_⟩
  rw [hK]
  intro Hs H c xs vs d Q sm cu rx e q
  unfold lenF at e
  split at e
  · -- | [.str z], rx, e =>
    obtain ⟨v, rfl, r⟩ := one_of rx
    cases e
    obtain ⟨rfl, hz⟩ := rl_str.mp r
    exact ⟨_, _, rfl, ⟨txtOk_len hz, rfl⟩, q Hs H _ (Fn.refl sm cu) (rl_int.mpr rfl)⟩
  · -- | [.lst ds], rx, e =>
    obtain ⟨v, rfl, r⟩ := one_of rx
    cases e
    obtain ⟨p, ws, rfl, hp, _, rr⟩ := rl_lst.mp r
    exact ⟨_, _, rfl, .inl ⟨ws, .inl (.inl (sm _ _ hp)), rr.length.symm⟩, q Hs H _ (Fn.refl sm cu) (rl_int.mpr rfl)⟩
  · -- | [.tup ds], rx, e =>
    obtain ⟨v, rfl, r⟩ := one_of rx
    cases e
    obtain ⟨p, ws, rfl, hp, _, rr⟩ := rl_tup.mp r
    exact ⟨_, _, rfl, .inr ⟨ws, seqT_mono sm hp, rr.length.symm⟩, q Hs H _ (Fn.refl sm cu) (rl_int.mpr rfl)⟩
  · obtain ⟨v, rfl, r⟩ := one_of rx
    cases e
    obtain ⟨p, rfl, hp⟩ := rl_scr.mp r
    exact ⟨_, _, rfl, .inl ⟨_, Evl.ex_l sm hp, by simp⟩, q Hs H _ (Fn.refl sm cu) (rl_int.mpr rfl)⟩
  · cases e
theorem b_abs : BiD X g (.builtin "abs") absF := by
  refine ⟨_, call_abs, ?_⟩
  intro Hs H c xs vs d Q sm cu rx e q
  unfold absF at e
  split at e
  · -- | [.int i], rx, e =>
    obtain ⟨v, rfl, r⟩ := one_of rx
    cases e
    rw [rl_int.mp r]
    exact ⟨_, rfl, q Hs H _ (Fn.refl sm cu) (rl_int.mpr rfl)⟩
  · cases e
theorem b_divmod : BiD X g (.builtin "divmod") divmodF := by
  refine ⟨_, call_divmod, ?_⟩
  intro Hs H c xs vs d Q sm cu rx e q
  unfold divmodF at e
  split at e
  · -- | [.int i, .int j], rx, e =>
    obtain ⟨v, u, rfl, r1, r2⟩ := two_of rx
    simp only [Option.ite_none_right_eq_some, Option.some.injEq] at e
    obtain ⟨h, rfl⟩ := e
    rw [rl_int.mp r1, rl_int.mp r2]
    refine ⟨_, _, rfl, h, fun n hn => q (upd Hs n _) _ _ (Fn.new sm cu hn) (rl_tup.mpr ⟨n, _, rfl, .inl (.inl upd_same), by rw [sizeLine_eq]; simp, ?_⟩)⟩
    exact rll_cons.mpr ⟨_, _, rfl, rl_int.mpr rfl, rll_cons.mpr ⟨_, _, rfl, rl_int.mpr rfl, rll_nil.mpr rfl⟩⟩
  · cases e
theorem b_all (hc : X.calm = true) (hK : X.K = g.K := by rfl) : BiD X g (.builtin "all") allF := by
  refine ⟨_, cr_all hc, ?_⟩
  rw [hK]
  intro Hs H c xs vs d Q sm cu rx e q
  unfold allF at e
  split at e
  · -- | [.lst ds], rx, e =>
    obtain ⟨v, rfl, r⟩ := one_of rx
    simp only [Option.map_eq_some_iff] at e
    obtain ⟨bs, e, rfl⟩ := e
    obtain ⟨p, ws, rfl, hp, _, rr⟩ := rl_lst.mp r
    rw [bls_of e rr] at hp
    exact ⟨p, bs, rfl, .inl (.inl (sm _ _ hp)), q Hs H _ (Fn.refl sm cu) (rl_bl.mpr rfl)⟩
  · cases e
theorem b_any (hc : X.calm = true) (hK : X.K = g.K := by rfl) : BiD X g (.builtin "any") anyF := by
  refine ⟨_, cr_any hc, ?_⟩
  rw [hK]
  intro Hs H c xs vs d Q sm cu rx e q
  unfold anyF at e
  split at e
  · -- | [.lst ds], rx, e =>
    obtain ⟨v, rfl, r⟩ := one_of rx
    simp only [Option.map_eq_some_iff] at e
    obtain ⟨bs, e, rfl⟩ := e
    obtain ⟨p, ws, rfl, hp, _, rr⟩ := rl_lst.mp r
    rw [bls_of e rr] at hp
    exact ⟨p, bs, rfl, .inl (.inl (sm _ _ hp)), q Hs H _ (Fn.refl sm cu) (rl_bl.mpr rfl)⟩
  · cases e
theorem b_sum (hc : X.calm = true) (hK : X.K = g.K := by rfl) : BiD X g (.builtin "sum") sumF := by
  refine ⟨_, cr_sum hc, ?_⟩
  rw [hK]
  intro Hs H c xs vs d Q sm cu rx e q
  unfold sumF at e
  split at e
  · -- | [.lst ds], rx, e =>
    obtain ⟨v, rfl, r⟩ := one_of rx
    simp only [Option.map_eq_some_iff] at e
    obtain ⟨bs, e, rfl⟩ := e
    obtain ⟨p, ws, rfl, hp, _, rr⟩ := rl_lst.mp r
    rw [ints_of e rr] at hp
    exact ⟨p, bs, rfl, .inl (.inl (sm _ _ hp)), q Hs H _ (Fn.refl sm cu) (rl_int.mpr rfl)⟩
  · cases e
theorem b_max (hc : X.calm = true) : BiD X g (.builtin "max") maxF := by
  refine ⟨_, call_max2 hc, ?_⟩
  intro Hs H c xs vs d Q sm cu rx e q
  unfold maxF at e
  split at e
  · -- | [.int i, .int j], rx, e =>
    obtain ⟨v, u, rfl, r1, r2⟩ := two_of rx
    cases e
    rw [rl_int.mp r1, rl_int.mp r2]
    exact ⟨_, _, rfl, q Hs H _ (Fn.refl sm cu) (rl_int.mpr rfl)⟩
  · cases e
theorem b_min (hc : X.calm = true) : BiD X g (.builtin "min") minF := by
  refine ⟨_, call_min2 hc, ?_⟩
  intro Hs H c xs vs d Q sm cu rx e q
  unfold minF at e
  split at e
  · -- | [.int i, .int j], rx, e =>
    obtain ⟨v, u, rfl, r1, r2⟩ := two_of rx
    cases e
    rw [rl_int.mp r1, rl_int.mp r2]
    exact ⟨_, _, rfl, q Hs H _ (Fn.refl sm cu) (rl_int.mpr rfl)⟩
  · cases e
theorem b_int : BiD X g (.type "int") int1F := by
  refine ⟨_, int_c, ?_⟩
  intro Hs H c xs vs d Q sm cu rx e q
  unfold int1F at e
  split at e
  · -- | [.int i], rx, e =>
    obtain ⟨v, rfl, r⟩ := one_of rx
    cases e
    rw [rl_int.mp r]
    exact q Hs H _ (Fn.refl sm cu) (rl_int.mpr rfl)
  · cases e
theorem b_str : BiD X g (.type "str") str1F := by
  refine ⟨_, call_str_int.or SkE.call_str_str, ?_⟩
  intro Hs H c xs vs d Q sm cu rx e q
  unfold str1F at e
  split at e
  · -- | [.int i], rx, e =>
    obtain ⟨v, rfl, r⟩ := one_of rx
    simp only [Option.ite_none_right_eq_some, Option.some.injEq] at e
    obtain ⟨h, rfl⟩ := e
    rw [rl_int.mp r]
    exact .inl ⟨_, rfl, h.1, q Hs H _ (Fn.refl sm cu) (rl_str.mpr ⟨rfl, h.2⟩)⟩
  · -- | [.str z], rx, e =>
    obtain ⟨v, rfl, r⟩ := one_of rx
    cases e
    obtain ⟨rfl, hz⟩ := rl_str.mp r
    exact .inr ⟨_, rfl, q Hs H _ (Fn.refl sm cu) r⟩
  · cases e
theorem b_tuple (hK : X.K = g.K := by rfl) : BiD X g (.type "tuple") tupleF := by
  refine ⟨_, call_tuple_of, ?_⟩
  rw [hK]
  intro Hs H c xs vs d Q sm cu rx e q
  unfold tupleF at e
  split at e
  · -- | [.lst ds], rx, e =>
    obtain ⟨v, rfl, r⟩ := one_of rx
    cases e
    obtain ⟨p, ws, rfl, hp, hl, rr⟩ := rl_lst.mp r
    exact ⟨p, ws, rfl, .inl ⟨.inl (.inl (sm _ _ hp)), fun n hn => q (upd Hs n _) _ _ (Fn.new sm cu hn) (rl_tup.mpr ⟨n, _, rfl, .inl (.inl upd_same), hl, RlL.mono (same_new (sm.free hn)) _ _ rr⟩)⟩⟩
  · -- | [.tup ds], rx, e =>
    obtain ⟨v, rfl, r⟩ := one_of rx
    cases e
    obtain ⟨p, ws, rfl, hp, hl, rr⟩ := rl_tup.mp r
    exact ⟨p, ws, rfl, .inr ⟨seqT_mono sm hp, q Hs H _ (Fn.refl sm cu) r⟩⟩
  · cases e
theorem b_list (hK : X.K = g.K := by rfl) : BiD X g (.type "list") listF := by
  refine ⟨_, call_list_of, ?_⟩
  rw [hK]
  intro Hs H c xs vs d Q sm cu rx e q
  unfold listF at e
  split at e
  · -- | [.lst ds], rx, e =>
    obtain ⟨v, rfl, r⟩ := one_of rx
    cases e
    obtain ⟨p, ws, rfl, hp, hl, rr⟩ := rl_lst.mp r
    exact ⟨p, ws, rfl, .inl (.inl (.inl (sm _ _ hp))), fun n hn => q (upd Hs n _) _ _ (Fn.new sm cu hn) (rl_lst.mpr ⟨n, _, rfl, upd_same, hl, RlL.mono (same_new (sm.free hn)) _ _ rr⟩)⟩
  · -- | [.tup ds], rx, e =>
    obtain ⟨v, rfl, r⟩ := one_of rx
    cases e
    obtain ⟨p, ws, rfl, hp, hl, rr⟩ := rl_tup.mp r
    exact ⟨p, ws, rfl, .inr (seqT_mono sm hp), fun n hn => q (upd Hs n _) _ _ (Fn.new sm cu hn) (rl_lst.mpr ⟨n, _, rfl, upd_same, hl, RlL.mono (same_new (sm.free hn)) _ _ rr⟩)⟩
  · cases e
end
end L2.G
set_option Elab.async false
set_option linter.all false
set_option maxRecDepth 100000
set_option maxHeartbeats 2000000
namespace L2.G
open PySem PySem.Spec PyProof.Rows L2H
/-- repr of data -/
def shwD : D → Str
  | .dic => (PyData.dict []).shown
  | d => (toP d).shown
def shwOk (d : D) : Bool := match d with
  | .dic => true
  | d => okD 18 d && (toP d).showable && txtOk (toP d).shown
def reprF : List D → Option D
  | [d] => if shwOk d then some (.str (shwD d)) else none
  | _ => none
theorem shw_of {g : Ga} {Hs H : Hp} {d : D} {v : V} (sm : Same Hs H) (h : shwOk d = true) (r : Rl g Hs d v) : Shw g.K H v (shwD d) ∧ txtOk (shwD d) = true := by
  have big : ∀ a, v = .ref a → okD 18 d = true → (toP d).showable = true → txtOk (toP d).shown = true → shwD d = (toP d).shown → Shw g.K H v (shwD d) ∧ txtOk (shwD d) = true := by
    rintro a rfl h1 h2 h3 e
    rw [e]
    exact ⟨.inl ⟨toP d, dp_of 18 d _ h1 (Rl.mono sm d _ r), h2, PyData.hasDict_of_canLay _ (lay_of 18 d _ h1 r), by have := dep_of 18 d h1; omega, txtOk_len h3, rfl⟩, h3⟩
  cases d with
  | dic =>
    obtain ⟨a, rfl, ha⟩ := rl_dic.mp r
    exact ⟨.inr ⟨sm _ _ ha, rfl⟩, by decide +kernel⟩
  | non =>
    simp only [shwOk, Bool.and_eq_true] at h
    rw [rl_non.mp r]
    exact ⟨by unfold shwD toP PyData.shown; rfl, h.2⟩
  | bl b =>
    simp only [shwOk, Bool.and_eq_true] at h
    rw [rl_bl.mp r]
    refine ⟨?_, h.2⟩
    unfold shwD toP PyData.shown
    cases b <;> rfl
  | int i =>
    simp only [shwOk, Bool.and_eq_true] at h
    rw [rl_int.mp r]
    refine ⟨?_, h.2⟩
    have h2 := h.1.2
    unfold toP PyData.showable at h2
    unfold shwD toP PyData.shown
    exact ⟨of_decide_eq_true h2, rfl⟩
  | str z =>
    simp only [shwOk, Bool.and_eq_true] at h
    rw [(rl_str.mp r).1]
    refine ⟨?_, h.2⟩
    have h2 := h.2
    unfold toP PyData.shown at h2
    unfold shwD toP PyData.shown
    exact ⟨txtOk_len h2, rfl⟩
  | tup ds =>
    simp only [shwOk, Bool.and_eq_true] at h
    obtain ⟨a, vs, e, _⟩ := rl_tup.mp r
    exact big a e h.1.1 h.1.2 h.2 rfl
  | lst ds =>
    simp only [shwOk, Bool.and_eq_true] at h
    obtain ⟨a, vs, e, _⟩ := rl_lst.mp r
    exact big a e h.1.1 h.1.2 h.2 rfl
  | ins C ns ds => unfold shwOk okD at h; cases h
  | cup => unfold shwOk okD at h; cases h
  | scr _ => unfold shwOk okD at h; cases h
theorem b_repr {X : Cx} {g : Ga} {k : Nat} (qt : Quiet X.A) (hr : RoomH k X.A) (hK : X.K = g.K := by rfl) : BiD X g (.builtin "repr") reprF := by
  refine ⟨_, cr_rp qt hr, ?_⟩
  rw [hK]
  intro Hs H c xs vs d Q sm cu rx e q
  match xs, rx, e with
  | [x], rx, e =>
    obtain ⟨v, rfl, r⟩ := one_of rx
    simp only [reprF, Option.ite_none_right_eq_some, Option.some.injEq] at e
    obtain ⟨h, rfl⟩ := e
    obtain ⟨s1, s2⟩ := shw_of sm h r
    exact ⟨v, _, rfl, s1, q Hs H _ (Fn.refl sm cu) (rl_str.mpr ⟨rfl, s2⟩)⟩
end L2.G
set_option Elab.async false
set_option linter.all false
set_option maxRecDepth 100000
set_option maxHeartbeats 2000000
namespace L2.G
open PySem PySem.Spec PyProof.Rows L2H
/-! methods of built-in values -/
def isStrD : D → Bool
  | .str _ => true
  | _ => false
def mtD (f : D → List D → Option D) (m : PM D) (ms : List (PM D)) : PM D := fun st c => (m st c).bind fun x c => if isStrD x = true then (aD ms st c).bind fun xs c => ofO (f x xs) c else .no
def MtD (X : Cx) (g : Ga) (id : String) (f : D → List D → Option D) : Prop := ∃ r, MtR X id r ∧
  ∀ Hs H c x xs v vs d Q, Same Hs H → CupAt g.pc Hs H c → Rl g Hs x v → RlL g Hs xs vs → f x xs = some d → (∀ Hs' H' z, Fn g.pc Hs H Hs' H' c → Rl g Hs' d z → Q z H') → r v vs H Q
def joinF : D → List D → Option D
  | .str a, [.lst ds] => (strsOf ds).bind fun zs => if (zs.map (·.length)).sum + zs.length * a.length ≤ 16777216 ∧ txtOk (Txt.join a zs) = true then some (.str (Txt.join a zs)) else none
  | _, _ => none
def lowerF : D → List D → Option D
  | .str a, [] => if a.length ≤ 5592405 ∧ txtOk (Txt.lower a) = true then some (.str (Txt.lower a)) else none
  | _, _ => none
def upperF : D → List D → Option D
  | .str a, [] => if a.length ≤ 5592405 ∧ txtOk (Txt.upper a) = true then some (.str (Txt.upper a)) else none
  | _, _ => none
def countF : D → List D → Option D
  | .str a, [.str b] => some (.int (Txt.count a b))
  | _, _ => none
def sindexF : D → List D → Option D
  | .str a, [.str b] => match Builtin.Str.occurrences a b 0 a.length 1 with
    | i :: _ => some (.int (i : Nat))
    | [] => none
  | _, _ => none
section
variable {X : Cx} {g : Ga}
theorem m_join (hK : X.K = g.K := by rfl) : MtD X g "str.join" joinF := by
  refine ⟨_, mt_join, ?_⟩
  · rw [hK]
    intro Hs H c x xs v vs d Q sm cu rx rs e q
    unfold joinF at e
    split at e
    · obtain ⟨zs, e1, e⟩ := Option.bind_eq_some_iff.mp e
      simp only [Option.ite_none_right_eq_some, Option.some.injEq] at e
      obtain ⟨⟨h1, h2⟩, rfl⟩ := e
      obtain ⟨u, rfl, r⟩ := one_of rs
      obtain ⟨p, ws, rfl, hp, _, rr⟩ := rl_lst.mp r
      rw [strs_of e1 rr] at hp
      exact ⟨_, p, zs, (rl_str.mp rx).1, rfl, .inl (.inl (.inl (sm _ _ hp))), h1, q Hs H _ (Fn.refl sm cu) (rl_str.mpr ⟨rfl, h2⟩)⟩
    · cases e
theorem m_lower : MtD X g "str.lower" lowerF := by
  refine ⟨_, mt_lower, ?_⟩
  · intro Hs H c x xs v vs d Q sm cu rx rs e q
    unfold lowerF at e
    split at e
    · simp only [Option.ite_none_right_eq_some, Option.some.injEq] at e
      obtain ⟨⟨h1, h2⟩, rfl⟩ := e
      exact ⟨_, (rl_str.mp rx).1, rll_nil.mp rs, h1, q Hs H _ (Fn.refl sm cu) (rl_str.mpr ⟨rfl, h2⟩)⟩
    · cases e
theorem m_upper : MtD X g "str.upper" upperF := by
  refine ⟨_, mt_upper, ?_⟩
  · intro Hs H c x xs v vs d Q sm cu rx rs e q
    unfold upperF at e
    split at e
    · simp only [Option.ite_none_right_eq_some, Option.some.injEq] at e
      obtain ⟨⟨h1, h2⟩, rfl⟩ := e
      exact ⟨_, (rl_str.mp rx).1, rll_nil.mp rs, h1, q Hs H _ (Fn.refl sm cu) (rl_str.mpr ⟨rfl, h2⟩)⟩
    · cases e
theorem m_count : MtD X g "str.count" countF := by
  refine ⟨_, mt_count, ?_⟩
  · intro Hs H c x xs v vs d Q sm cu rx rs e q
    unfold countF at e
    split at e
    · cases e
      obtain ⟨u, rfl, r⟩ := one_of rs
      exact ⟨_, _, (rl_str.mp rx).1, by rw [(rl_str.mp r).1], q Hs H _ (Fn.refl sm cu) (rl_int.mpr rfl)⟩
    · cases e
theorem m_sindex : MtD X g "str.index" sindexF := by
  refine ⟨_, mt_sindex, ?_⟩
  · intro Hs H c x xs v vs d Q sm cu rx rs e q
    unfold sindexF at e
    split at e
    · split at e
      · rename_i i rest ho
        cases e
        obtain ⟨u, rfl, r⟩ := one_of rs
        exact ⟨_, _, _, _, (rl_str.mp rx).1, by rw [(rl_str.mp r).1], ho, q Hs H _ (Fn.refl sm cu) (rl_int.mpr rfl)⟩
      · cases e
    · cases e
end
section
variable {X : Cx} {g : Ga} {E : XK} {hid : List Nat} {σ : St} {H : Hp} {Q : VK} {ma mb mc m : PM D} {a b c e o : Expr} {es : List Expr} {ms : List (PM D)} {pos p2 apos cpos : Pos} {f : D → List D → Option D} {T id : String} {name : Str}
theorem d_mt (pa : PlainAttrs "str") (slot : Slot "str" name id) (hty : typeOf (.builtin id) = pure (.type "method_descriptor")) (hm : MtD X g id f) (ho : DE X g E hid o m) (ha : DA X g E hid (e :: es) (aD ms))
    (hbase : attributeBase o name X.env (eval o X.env) = eval o X.env := by rfl)
    (hfew : ((backTo cpos (starEach (e :: es) X.env)).all (fun x => !x.1) && (backToKw cpos (keywordEach [] X.env)).all (fun x => x.1.isSome)
      && decide ((e :: es).length + ([] : List Keyword).length + (if ([] : List Keyword).isEmpty then 0 else 1) < 30)) = true := by rfl)
    (hline : (apos.endLine == cpos.line) = true := by rfl) (hs : starEach (e :: es) X.env = (false, eval e X.env) :: starEach es X.env := by rfl) (hplain : (backTo cpos (starEach es X.env)).any (·.1) = false := by rfl) :
    DE X g E hid (.Call (.Attribute o name apos) (e :: es) [] cpos) (mtD f m ms) := by
  obtain ⟨r, hm, hr⟩ := hm
  refine PE_imp (pe_bm pa slot hty hm ho ha hbase hfew hline hs hplain) fun σ H Q ⟨st, c, Hs, sl, sm, cu, p⟩ => ⟨st, c, Hs, sl, sm, cu, (Post.bind p).mono fun x c1 Hs1 H1 _ F1 q v1 r1 => ?_⟩
  have ty : tyV X.K "str" v1 H1 ∧ isStrD x = true := by
    cases x with
    | str z => rw [(rl_str.mp r1).1]; exact ⟨rfl, rfl⟩
    | _ => exact q.elim
  rw [if_pos ty.2] at q
  refine ⟨ty.1, st, c1, Hs1, sl.mono F1.ss, F1.sm, F1.cu, (Post.bind q).mono fun xs c2 Hs2 H2 _ F2 q2 vs rs => ?_⟩
  cases e2 : f x xs with
  | none => rw [e2] at q2; exact q2.elim
  | some d =>
    rw [e2] at q2
    exact hr Hs2 H2 c2 x xs v1 vs d Q F2.sm F2.cu (Rl.mono F2.ss x v1 r1) rs e2 fun Hs' H' z F rz => q2 Hs' H' F z rz
theorem d_mt0 (pa : PlainAttrs "str") (slot : Slot "str" name id) (hty : typeOf (.builtin id) = pure (.type "method_descriptor")) (hm : MtD X g id f) (ho : DE X g E hid o m)
    (hbase : attributeBase o name X.env (eval o X.env) = eval o X.env := by rfl) (hline : (apos.endLine == cpos.line) = true := by rfl) : DE X g E hid (.Call (.Attribute o name apos) [] [] cpos) (mtD f m []) := by
  obtain ⟨r, hm, hr⟩ := hm
  refine PE_imp (pe_bm0 pa slot hty hm ho hbase hline) fun σ H Q ⟨st, c, Hs, sl, sm, cu, p⟩ => ⟨st, c, Hs, sl, sm, cu, (Post.bind p).mono fun x c1 Hs1 H1 _ F1 q v1 r1 => ?_⟩
  have ty : tyV X.K "str" v1 H1 ∧ isStrD x = true := by
    cases x with
    | str z => rw [(rl_str.mp r1).1]; exact ⟨rfl, rfl⟩
    | _ => exact q.elim
  rw [if_pos ty.2] at q
  refine ⟨ty.1, ?_⟩
  have q2 : Post g E Hs1 H1 (ofO (f x []) c1) fun d _ Hs' H' => ∀ v, Rl g Hs' d v → Q v H' := q
  cases e2 : f x [] with
  | none => rw [e2] at q2; exact q2.elim
  | some d =>
    rw [e2] at q2
    exact hr Hs1 H1 c1 x [] v1 [] d Q F1.sm F1.cu r1 (rll_nil.mpr rfl) e2 fun Hs' H' z F rz => q2 Hs' H' F z rz
/-! f-strings -/
def fmtF : D → Option D
  | .str y => some (.str y)
  | .int i => if i.natAbs.log2 < 1920 ∧ txtOk (toString i) = true then some (.str (toString i)) else none
  | _ => none
theorem d_fmt (he : DE X g E hid e m) : DE X g E hid (.FormattedValue e (-1) none pos) (unD fmtF m) := by
  refine PE_imp (pe_fmt he) fun σ H Q ⟨st, c, Hs, sl, sm, cu, p⟩ => ⟨st, c, Hs, sl, sm, cu, (Post.bind p).mono fun x c1 Hs1 H1 _ F1 q v1 r1 => ?_⟩
  cases x with
  | str z =>
    obtain ⟨rfl, hz⟩ := rl_str.mp r1
    exact .inl ⟨z, rfl, txtOk_len hz, q Hs1 H1 (Fn.refl F1.sm F1.cu) _ (rl_str.mpr ⟨rfl, hz⟩)⟩
  | int i =>
    unfold fmtF at q
    dsimp only at q
    split at q
    · rename_i h
      exact .inr ⟨i, rl_int.mp r1, h.1, q Hs1 H1 (Fn.refl F1.sm F1.cu) _ (rl_str.mpr ⟨rfl, h.2⟩)⟩
    · exact q.elim
  | _ => exact q.elim
def jsD : List (PM D) → Str → PM D
  | [], acc => fun _ c => .ok (.str acc) c
  | m :: ms, acc => fun st c => (m st c).bind fun x c => match x with
    | .str y => if (acc ++ y).length ≤ sizeLine then jsD ms (acc ++ y) st c else .no
    | _ => .no
inductive DJ (X : Cx) (g : Ga) (E : XK) (hid : List Nat) : List Expr → List (PM D) → Prop where
  | nil : DJ X g E hid [] []
  | cons {e : Expr} {m : PM D} {es : List Expr} {ms : List (PM D)} (h : DE X g E hid e m) (r : DJ X g E hid es ms) : DJ X g E hid (e :: es) (m :: ms)
theorem DJ.pj : ∀ {es : List Expr} {ms : List (PM D)}, DJ X g E hid es ms → PJ X es (ms.map (tE g E hid))
  | _, _, .nil => .nil
  | _, _, .cons h r => .cons h (DJ.pj r)
theorem js_of {st : PSt} {Qs : Str → Hp → Prop} : ∀ (ms : List (PM D)) (acc : Str) (c : Cu) (Hs H : Hp), txtOk acc = true → Sl g hid Hs st σ → Same Hs H → CupAt g.pc Hs H c →
    Post g E Hs H (jsD ms acc st c) (fun d _ Hs' H' => ∀ v, Rl g Hs' d v → ∃ z, v = .str z ∧ Qs z H') → tJs (ms.map (tE g E hid)) acc σ H Qs
  | [], acc, c, Hs, H, h, sl, sm, cu, p => by
    obtain ⟨z, e, q⟩ := p Hs H (Fn.refl sm cu) (.str acc) (rl_str.mpr ⟨rfl, h⟩)
    cases e
    exact q
  | m :: ms, acc, c, Hs, H, h, sl, sm, cu, p => by
    refine ⟨st, c, Hs, sl, sm, cu, (Post.bind p).mono fun x c1 Hs1 H1 _ F1 q v1 r1 => ?_⟩
    cases x with
    | str y =>
      obtain ⟨rfl, hy⟩ := rl_str.mp r1
      dsimp only at q
      split at q
      · rename_i hl
        have e : (acc ++ y).length = acc.length + y.length := by
          show (acc.cps ++ y.cps).size = _
          rw [Array.size_append]
          rfl
        exact ⟨y, rfl, hl, js_of ms (acc ++ y) c1 Hs1 H1 (txtOk_app h hy (by rw [← e]; exact hl)) (sl.mono F1.ss) F1.sm F1.cu q⟩
      · exact q.elim
    | _ => exact q.elim
def jsD0 (ms : List (PM D)) : PM D := jsD ms Str.empty
theorem jsD_str : ∀ {ms : List (PM D)} {acc : Str} {st : PSt} {c c' : Cu} {d : D}, jsD ms acc st c = .ok d c' → ∃ z, d = .str z
  | [], acc, st, c, c', d, h => by
    have e : R.ok (D.str acc) c = R.ok d c' := h
    injection e with e1 _
    exact ⟨acc, e1.symm⟩
  | m :: ms, acc, st, c, c', d, h => by
    have e : (m st c).bind (fun x c => match x with
      | .str y => if (acc ++ y).length ≤ sizeLine then jsD ms (acc ++ y) st c else .no
      | _ => .no) = R.ok d c' := h
    cases q : m st c with
    | no => rw [q] at e; cases e
    | er x c1 => rw [q] at e; cases e
    | ok x c1 =>
      rw [q, R.ok_bind] at e
      cases x with
      | str y =>
        dsimp only at e
        split at e
        · exact jsD_str e
        · cases e
      | _ => cases e
theorem d_js {v1 v2 : Expr} {rest : List Expr} (h : DJ X g E hid (v1 :: v2 :: rest) ms) : DE X g E hid (.JoinedStr (v1 :: v2 :: rest) pos) (jsD0 ms) := by
  refine PE_imp (pe_joined h.pj) fun σ H Q ⟨st, c, Hs, sl, sm, cu, p⟩ => js_of ms Str.empty c Hs H (by decide +kernel) sl sm cu (p.mono fun d c1 Hs1 H1 e F1 q v r => ?_)
  obtain ⟨z, rfl⟩ := jsD_str e
  obtain ⟨rfl, hz⟩ := rl_str.mp r
  exact ⟨z, rfl, q _ r⟩
end
end L2.G
set_option Elab.async false
set_option linter.all false
set_option maxRecDepth 100000
set_option maxHeartbeats 2000000
namespace L2.G
open PySem PySem.Spec PyProof.Rows L2H
/-! isinstance -/
def bltT : List String := ["int", "str", "bool", "tuple"]
/-- the program's classes of values -/
structure CK (K : PySem.W.Frag) (cm : Str → Addr) (cs : List Str) : Prop where
  inc : ∀ C ∈ cs, InC K (cm C)
  ty : ∀ C ∈ cs, ∀ T ∈ bltT, PySem.W.kitOne K (.ref (cm C)) (.type T) = some false
  ot : ∀ C ∈ cs, ∀ C' ∈ cs, C ≠ C' → PySem.W.kitOne K (.ref (cm C)) (.ref (cm C')) = some false
  gt : PySem.W.specialIn K (.builtin "object.__class__") "__get__" = some (some (.builtin "getset_descriptor.__get__"))
  tk : PySem.W.takesIn K (.builtin "object.__class__") = some true
def tyD : D → Option String
  | .non => some "NoneType"
  | .bl _ => some "bool"
  | .int _ => some "int"
  | .str _ => some "str"
  | .tup _ => some "tuple"
  | .lst _ => some "list"
  | .dic => some "dict"
  | _ => none
def isT (T : String) : D → Option D
  | .ins _ _ _ => if T ∈ bltT then some (.bl false) else none
  | d => if T ∈ bltT then (tyD d).map fun t => .bl (isB t T) else none
def isC (C : Str) : D → Option D
  | .ins C' _ _ => some (.bl (C' == C))
  | d => (tyD d).map fun _ => .bl false
theorem tyX_of {g : Ga} {Hs H : Hp} {d : D} {v : V} {t : String} (sm : Same Hs H) (r : Rl g Hs d v) (e : tyD d = some t) : TyX g.K H v (.type t) ∧ t ∈ tyNs := by
  cases d with
  | non => cases e; rw [rl_non.mp r]; exact ⟨.base .non, by decide⟩
  | bl b => cases e; rw [rl_bl.mp r]; exact ⟨.base (.bl _), by decide⟩
  | int b => cases e; rw [rl_int.mp r]; exact ⟨.base (.int _), by decide⟩
  | str b => cases e; rw [(rl_str.mp r).1]; exact ⟨.base (.str _), by decide⟩
  | tup b =>
    cases e
    obtain ⟨a, vs, rfl, hs, _⟩ := rl_tup.mp r
    refine ⟨?_, by decide⟩
    rcases seqT_mono sm hs with (h | ⟨o, h⟩) | h
    · exact .base (.tup h)
    · exact .fTuple h
    · obtain ⟨o, its, n, h1, h2, _⟩ := h
      exact .kTuple h1 h2
  | lst b => cases e; obtain ⟨a, vs, rfl, hs, _⟩ := rl_lst.mp r; exact ⟨.base (.lst (sm _ _ hs)), by decide⟩
  | dic => cases e; obtain ⟨a, rfl, hs⟩ := rl_dic.mp r; exact ⟨.base (.dK (sm _ _ hs)), by decide⟩
  | _ => cases e
theorem isB_of : ∀ T ∈ bltT, ∀ t ∈ tyNs, kitB t T = some (isB t T) := by decide +kernel
section
variable {X : Cx} {g : Ga} {E : XK} {hid : List Nat} {m : PM D} {e : Expr} {p p1 pos : Pos}
theorem tyX_ins {Hs H : Hp} {C : Str} {ns : List Str} {ds : List D} {v : V} (ck : CK g.K g.cm g.cs) (sm : Same Hs H) (r : Rl g Hs (.ins C ns ds) v) : TyX g.K H v (.ref (g.cm C)) := by
  obtain ⟨hC, a, dx, gs, rfl, h, _⟩ := rl_ins.mp r
  have c := ck.inc C hC
  exact .base (.ins (sm _ _ h) c.cl c.at_ ck.gt ck.tk c.mro)
theorem d_isT {x : Str} {T : String} (ck : CK g.K g.cm g.cs) (hg : Gl X "isinstance") (hm : X.mg "isinstance" = none) (he : DE X g E hid e m) (hgT : Gl X x) (hmT : X.mg x = none) (hvT : bootBuiltins x = some (.type T))
    (hK : X.K = g.K := by rfl) (hn : x ≠ "__name__" := by decide) (hd : (x == ("__debug__" : Str)) = false := by decide)
    (hs : starEach [e, .Name x p1] X.env = (false, eval e X.env) :: starEach [.Name x p1] X.env := by rfl) (hs2 : starEach [.Name x p1] X.env = (false, eval (.Name x p1) X.env) :: starEach [] X.env := by rfl) (hpl : (backTo pos (starEach [.Name x p1] X.env)).any (·.1) = false := by rfl) :
    DE X g E hid (.Call (.Name "isinstance" p) [e, .Name x p1] [] pos) (unD (isT T) m) := by
  refine PE_imp (pe_callB call_isi hg hm boot_isinstance (pa_cons he (pa_cons (pe_bltn (v := .ty T) hgT hmT hvT rfl hn hd) pa_nil hs2) hs) (by decide) (by decide) hs hpl) fun σ H Q ⟨st, c, Hs, sl, sm, cu, p⟩ => ⟨st, c, Hs, sl, sm, cu, (Post.bind p).mono fun x c1 Hs1 H1 _ F1 q v1 r1 => ?_⟩
  rw [hK]
  have gen : ∀ (t : String), tyD x = some t → T ∈ bltT → Q (.bl (isB t T)) H1 → rIsi g.K [v1, .ty T] H1 Q := fun t e h q => by
    obtain ⟨t1, t2⟩ := tyX_of F1.sm r1 e
    exact ⟨v1, .ty T, .type t, .type T, _, rfl, .ty T, t1, kit_ty (isB_of T h t t2), q⟩
  show rIsi g.K [v1, .ty T] H1 Q
  cases x with
  | ins C ns ds =>
    unfold isT at q
    dsimp only at q
    split at q
    · rename_i h
      exact ⟨v1, .ty T, .ref (g.cm C), .type T, false, rfl, .ty T, tyX_ins ck F1.sm r1, ck.ty C (rl_ins.mp r1).1 T h, q Hs1 H1 (Fn.refl F1.sm F1.cu) _ (rl_bl.mpr rfl)⟩
    · exact q.elim
  | cup =>
    unfold isT tyD at q
    dsimp only at q
    split at q <;> exact q.elim
  | scr _ =>
    unfold isT tyD at q
    dsimp only at q
    split at q <;> exact q.elim
  | _ =>
    unfold isT tyD at q
    dsimp only at q
    split at q
    · rename_i h
      exact gen _ rfl h (q Hs1 H1 (Fn.refl F1.sm F1.cu) _ (rl_bl.mpr rfl))
    · exact q.elim
theorem d_isC {x : Str} {C : Str} (ck : CK g.K g.cm g.cs) (hg : Gl X "isinstance") (hm : X.mg "isinstance" = none) (he : DE X g E hid e m) (hgT : Gl X x) (hmT : X.mg x = some (.ref (g.cm C))) (hCs : C ∈ g.cs)
    (hK : X.K = g.K := by rfl) (hd : (x == ("__debug__" : Str)) = false := by decide)
    (hs : starEach [e, .Name x p1] X.env = (false, eval e X.env) :: starEach [.Name x p1] X.env := by rfl) (hs2 : starEach [.Name x p1] X.env = (false, eval (.Name x p1) X.env) :: starEach [] X.env := by rfl) (hpl : (backTo pos (starEach [.Name x p1] X.env)).any (·.1) = false := by rfl) :
    DE X g E hid (.Call (.Name "isinstance" p) [e, .Name x p1] [] pos) (unD (isC C) m) := by
  refine PE_imp (pe_callB call_isi hg hm boot_isinstance (pa_cons he (pa_cons (pe_glob (v := .ref (g.cm C)) hgT hmT rfl hd) pa_nil hs2) hs) (by decide) (by decide) hs hpl) fun σ H Q ⟨st, c, Hs, sl, sm, cu, p⟩ => ⟨st, c, Hs, sl, sm, cu, (Post.bind p).mono fun x c1 Hs1 H1 _ F1 q v1 r1 => ?_⟩
  rw [hK]
  have gen : ∀ (t : String), tyD x = some t → Q (.bl false) H1 → rIsi g.K [v1, .ref (g.cm C)] H1 Q := fun t e q => by
    obtain ⟨t1, t2⟩ := tyX_of F1.sm r1 e
    exact ⟨v1, .ref (g.cm C), .type t, .ref (g.cm C), false, rfl, .own _, t1, (ck.inc C hCs).no t t2, q⟩
  show rIsi g.K [v1, .ref (g.cm C)] H1 Q
  cases x with
  | ins C' ns ds =>
    have hC' := (rl_ins.mp r1).1
    refine ⟨v1, .ref (g.cm C), .ref (g.cm C'), .ref (g.cm C), (C' == C), rfl, .own _, tyX_ins ck F1.sm r1, ?_, q Hs1 H1 (Fn.refl F1.sm F1.cu) _ (rl_bl.mpr rfl)⟩
    by_cases z : C' = C
    · subst z
      simp [PySem.W.kitOne]
    · rw [ck.ot C' hC' C hCs z]
      simp [z]
  | cup => exact q.elim
  | scr _ => exact q.elim
  | _ => exact gen _ rfl (q Hs1 H1 (Fn.refl F1.sm F1.cu) _ (rl_bl.mpr rfl))
end
end L2.G
set_option Elab.async false
set_option linter.all false
set_option maxRecDepth 100000
set_option maxHeartbeats 2000000
namespace L2.G
open PySem PySem.Spec PyProof.Rows L2H
/-! targets -/
inductive Tg where
  | nm (i : Nat)
  | tp (ts : List Tg)
mutual
def asgT : Tg → D → PSt → Option PSt
  | .nm i, d, st => some (st.set i (some d))
  | .tp ts, .tup ds, st => asgTs ts ds st
  | .tp _, _, _ => none
def asgTs : List Tg → List D → PSt → Option PSt
  | [], [], st => some st
  | t :: ts, d :: ds, st => (asgT t d st).bind fun st' => asgTs ts ds st'
  | _, _, _ => none
end
mutual
def gOf (K : PySem.W.Frag) : Tg → TG
  | .nm i => gName i
  | .tp ts => gTup K ts.length (gsOf K ts)
def gsOf (K : PySem.W.Frag) : List Tg → TGs
  | [] => gNil
  | t :: ts => gCons (gOf K t) (gsOf K ts)
end
mutual
def tgS : Tg → List Nat
  | .nm i => [i]
  | .tp ts => tgSs ts
def tgSs : List Tg → List Nat
  | [] => []
  | t :: ts => tgS t ++ tgSs ts
end
structure Asg (g : Ga) (Hs : Hp) (sl : List Nat) (st : PSt) (σ : St) (st' : PSt) (σ' : St) : Prop where
  len : σ'.length = st'.length
  out : ∀ i, i ∉ sl → σ'[i]? = σ[i]? ∧ st'[i]? = st[i]?
  inn : ∀ i ∈ sl, ∀ d, st'[i]? = some (some d) → ∃ v, σ'[i]? = some (some v) ∧ Rl g Hs d v
  ln : σ'.length = σ.length
theorem asg_nm {g : Ga} {Hs : Hp} {d : D} {v : V} {st : PSt} {σ : St} {i : Nat} (hl : σ.length = st.length) (r : Rl g Hs d v) : Asg g Hs [i] st σ (st.set i (some d)) (σ.set i (some v)) := by
  refine ⟨by rw [List.length_set, List.length_set]; exact hl, fun j hj => ?_, fun j hj d' e => ?_, by rw [List.length_set]⟩
  · have : i ≠ j := fun z => hj (by simp [z])
    rw [List.getElem?_set_ne this, List.getElem?_set_ne this]
    exact ⟨rfl, rfl⟩
  · have : j = i := by simpa using hj
    subst this
    have hj2 : j < st.length := by
      have := (List.getElem?_eq_some_iff.mp e).1
      rwa [List.length_set] at this
    rw [List.getElem?_set_self hj2] at e
    cases e
    exact ⟨v, by rw [List.getElem?_set_self (by omega)], r⟩
theorem Asg.trans {g : Ga} {Hs : Hp} {s1 s2 : List Nat} {st st1 st2 : PSt} {σ σ1 σ2 : St} (a : Asg g Hs s1 st σ st1 σ1) (b : Asg g Hs s2 st1 σ1 st2 σ2) : Asg g Hs (s1 ++ s2) st σ st2 σ2 := by
  refine ⟨b.len, fun i hi => ?_, fun i hi d e => ?_, b.ln.trans a.ln⟩
  · rw [List.mem_append, not_or] at hi
    rw [(b.out i hi.2).1, (b.out i hi.2).2, (a.out i hi.1).1, (a.out i hi.1).2]
    exact ⟨rfl, rfl⟩
  · by_cases h2 : i ∈ s2
    · exact b.inn i h2 d e
    · rw [(b.out i h2).2] at e
      rw [(b.out i h2).1]
      exact a.inn i ((List.mem_append.mp hi).resolve_right h2) d e
mutual
theorem asg_of {g : Ga} {Hs H : Hp} (sm : Same Hs H) : ∀ (t : Tg) (d : D) (v : V) (st st' : PSt) (σ : St) (Q : St → Hp → Prop), σ.length = st.length → Rl g Hs d v → asgT t d st = some st' → (∀ σ', Asg g Hs (tgS t) st σ st' σ' → Q σ' H) → gOf g.K t v σ H Q
  | .nm i, d, v, st, st', σ, Q, hl, r, e, q => by
    unfold asgT at e
    cases e
    unfold gOf
    refine q _ ?_
    unfold tgS
    exact asg_nm hl r
  | .tp ts, d, v, st, st', σ, Q, hl, r, e, q => by
    cases d with
    | tup ds =>
      unfold asgT at e
      obtain ⟨a, vs, rfl, hs, _, hr⟩ := rl_tup.mp r
      unfold gOf
      refine ⟨a, vs, rfl, seqT_mono sm hs, ?_, ?_⟩
      · rw [hr.length]
        exact asgTs_len ts ds st st' e
      · refine asgs_of sm ts ds vs st st' σ Q hl hr e fun σ' h => q σ' ?_
        unfold tgS
        exact h
    | _ => unfold asgT at e; cases e
theorem asgs_of {g : Ga} {Hs H : Hp} (sm : Same Hs H) : ∀ (ts : List Tg) (ds : List D) (vs : List V) (st st' : PSt) (σ : St) (Q : St → Hp → Prop), σ.length = st.length → RlL g Hs ds vs → asgTs ts ds st = some st' → (∀ σ', Asg g Hs (tgSs ts) st σ st' σ' → Q σ' H) → gsOf g.K ts vs σ H Q
  | [], [], vs, st, st', σ, Q, hl, r, e, q => by
    unfold asgTs at e
    cases e
    unfold gsOf
    refine ⟨rll_nil.mp r, q σ ?_⟩
    unfold tgSs
    exact ⟨hl, fun _ _ => ⟨rfl, rfl⟩, fun i hi => absurd hi (by simp), rfl⟩
  | [], d :: ds, vs, st, st', σ, Q, hl, r, e, q => by unfold asgTs at e; cases e
  | t :: ts, [], vs, st, st', σ, Q, hl, r, e, q => by unfold asgTs at e; cases e
  | t :: ts, d :: ds, vs, st, st', σ, Q, hl, r, e, q => by
    unfold asgTs at e
    obtain ⟨st1, e1, e2⟩ := Option.bind_eq_some_iff.mp e
    obtain ⟨v, vr, rfl, h1, h2⟩ := rll_cons.mp r
    unfold gsOf
    refine ⟨v, vr, rfl, asg_of sm t d v st st1 σ _ hl h1 e1 fun σ1 a1 => asgs_of sm ts ds vr st1 st' σ1 Q a1.len h2 e2 fun σ2 a2 => q σ2 ?_⟩
    unfold tgSs
    exact a1.trans a2
theorem asgTs_len : ∀ (ts : List Tg) (ds : List D) (st st' : PSt), asgTs ts ds st = some st' → ds.length = ts.length
  | [], [], st, st', e => rfl
  | [], d :: ds, st, st', e => by unfold asgTs at e; cases e
  | t :: ts, [], st, st', e => by unfold asgTs at e; cases e
  | t :: ts, d :: ds, st, st', e => by
    unfold asgTs at e
    obtain ⟨st1, e1, e2⟩ := Option.bind_eq_some_iff.mp e
    simp [asgTs_len ts ds st1 st' e2]
end
/-! what is walked -/
def YD (g : Ga) (Hs : Hp) (items : List D) : Nat → Hp → V → Hp → Prop := fun i H x H' => ∃ d, items[i]? = some d ∧
  ((H' = H ∧ Rl g Hs d x) ∨ ∃ T vs ds, d = .tup ds ∧ x = .ref T ∧ H T = none ∧ H' = upd H T (.tup vs) ∧ ds.length ≤ sizeLine ∧ RlL g Hs ds vs)
abbrev WalkD (g : Ga) (Hs : Hp) (J : It) (items : List D) : Prop := Walk J items.length (fun H => Same Hs H) (YD g Hs items)
theorem YD.step {g : Ga} {Hs Hs2 H H' : Hp} {items : List D} {i : Nat} {x : V} {c : Cu} (y : YD g Hs items i H x H') (e : Same Hs Hs2) (sm : Same Hs2 H) (cu : CupAt g.pc Hs2 H c) : ∃ d Hs3, items[i]? = some d ∧ Fn g.pc Hs2 H Hs3 H' c ∧ Rl g Hs3 d x := by
  obtain ⟨d, hd, y⟩ := y
  rcases y with ⟨rfl, r⟩ | ⟨T, vs, ds, rfl, rfl, hT, rfl, hl, r⟩
  · exact ⟨d, Hs2, hd, Fn.refl sm cu, Rl.mono e d x r⟩
  · exact ⟨_, upd Hs2 T (.tup vs), hd, Fn.new sm cu hT, rl_tup.mpr ⟨T, vs, rfl, .inl (.inl upd_same), hl, RlL.mono (e.trans (same_new (sm.free hT))) ds vs r⟩⟩
def tI (g : Ga) (E : XK) (hid : List Nat) (m : PM (List D)) : TI := fun σ H R => ∃ st c Hs, Sl g hid Hs st σ ∧ Same Hs H ∧ CupAt g.pc Hs H c ∧ Post g E Hs H (m st c) fun items _ Hs' H' => items.length ≤ sizeLine → ∀ J, WalkD g Hs' J items → R J H'
abbrev DI (X : Cx) (g : Ga) (E : XK) (hid : List Nat) (tg iter : Expr) (m : PM (List D)) : Prop := PI X tg iter (tI g E hid m)
theorem PI_imp {X : Cx} {tg iter : Expr} {t t' : TI} (h : PI X tg iter t) (m : ∀ σ H R, t' σ H R → t σ H R) : PI X tg iter t' := ⟨fun pins s σ H Q I q => h.run pins s σ H Q I (m σ H Q q)⟩
def itL (m : PM D) : PM (List D) := fun st c => (m st c).bind fun x c => match x with
  | .lst ds => .ok ds c
  | _ => .no
def itT (m : PM D) : PM (List D) := fun st c => (m st c).bind fun x c => match x with
  | .tup ds => .ok ds c
  | _ => .no
def itS (m : PM D) : PM (List D) := fun st c => (m st c).bind fun x c => match x with
  | .str z => .ok (z.cps.toList.map chS) c
  | _ => .no
def rgD (lo : Int) (n : Nat) : List D := (List.range n).map fun (i : Nat) => .int (lo + i)
def itR1 (m : PM D) : PM (List D) := fun st c => (m st c).bind fun x c => match x with
  | .int j => if j ≤ 1000000 ∧ -1000000 ≤ j then .ok (rgD 0 j.toNat) c else .no
  | _ => .no
def itR2 (m m' : PM D) : PM (List D) := fun st c => (m st c).bind fun x c => (m' st c).bind fun y c => match x, y with
  | .int i, .int j => if j ≤ 1000000 ∧ -1000000 ≤ j ∧ i ≤ 1000000 ∧ -1000000 ≤ i then .ok (rgD i (j - i).toNat) c else .no
  | _, _ => .no
def enD (i : Nat) : List D → List D
  | [] => []
  | d :: ds => .tup [.int (i : Nat), d] :: enD (i + 1) ds
def zpD : List D → List D → List D
  | d :: ds, e :: es => .tup [d, e] :: zpD ds es
  | _, _ => []
theorem enD_len : ∀ (ds : List D) (i : Nat), (enD i ds).length = ds.length
  | [], _ => rfl
  | d :: ds, i => by simp [enD, enD_len ds]
theorem enD_get : ∀ (ds : List D) (i j : Nat) (d : D), ds[j]? = some d → (enD i ds)[j]? = some (.tup [.int ((i + j : Nat) : Int), d])
  | [], _, _, _, e => by simp at e
  | x :: ds, i, 0, d, e => by simp at e; subst e; simp [enD]
  | x :: ds, i, j + 1, d, e => by
    have := enD_get ds (i + 1) j d (by simpa using e)
    simp only [enD, List.getElem?_cons_succ]
    rw [this]
    congr 5
    omega
theorem zpD_len : ∀ (ds es : List D), (zpD ds es).length = min ds.length es.length
  | [], es => by simp [zpD]
  | d :: ds, [] => by simp [zpD]
  | d :: ds, e :: es => by simp only [zpD, List.length_cons, zpD_len ds es]; omega
theorem zpD_get : ∀ (ds es : List D) (j : Nat) (d e : D), ds[j]? = some d → es[j]? = some e → (zpD ds es)[j]? = some (.tup [d, e])
  | [], _, _, _, _, h, _ => by simp at h
  | d :: ds, [], _, _, _, _, h => by simp at h
  | x :: ds, y :: es, 0, d, e, h, h' => by simp at h h'; subst h; subst h'; simp [zpD]
  | x :: ds, y :: es, j + 1, d, e, h, h' => by
    simp only [zpD, List.getElem?_cons_succ]
    exact zpD_get ds es j d e (by simpa using h) (by simpa using h')
def itE (m : PM (List D)) : PM (List D) := fun st c => (m st c).bind fun ds c => .ok (enD 0 ds) c
def itZ (m m' : PM (List D)) : PM (List D) := fun st c => (m st c).bind fun ds c => (m' st c).bind fun es c => .ok (zpD ds es) c
section
variable {X : Cx} {g : Ga} {E : XK} {hid : List Nat} {m m' : PM D} {tg e e2 : Expr} {p pos tpos : Pos} {elts : List Expr} {kk : Nat}
theorem di_list (he : DE X g E hid e m) (hK : X.K = g.K := by rfl) : DI X g E hid tg e (itL m) := by
  refine PI_imp (pi_list he) fun σ H R ⟨st, c, Hs, sl, sm, cu, p⟩ => ⟨st, c, Hs, sl, sm, cu, (Post.bind p).mono fun x c1 Hs1 H1 _ F1 q v1 r1 => ?_⟩
  cases x with
  | lst ds =>
    obtain ⟨a, vs, rfl, hs, hl, hr⟩ := rl_lst.mp r1
    rw [hK]
    refine ⟨a, rfl, ⟨vs, .inl (.inl (F1.sm _ _ hs))⟩, q Hs1 H1 (Fn.refl F1.sm F1.cu) hl _ ?_⟩
    have w := walk_list (K := g.K) (a := a) (xs := vs)
    rw [hr.length] at w
    refine w.mono (fun H h => .inl (.inl (h _ _ hs))) fun i H x H' hi _ y => ?_
    obtain ⟨d, e1, e2⟩ := hr.getV y.2
    exact ⟨d, e1, .inl ⟨y.1, e2⟩⟩
  | _ => exact q.elim
theorem di_tup (he : DE X g E hid e m) (hK : X.K = g.K := by rfl) : DI X g E hid tg e (itT m) := by
  refine PI_imp (pi_tup he) fun σ H R ⟨st, c, Hs, sl, sm, cu, p⟩ => ⟨st, c, Hs, sl, sm, cu, (Post.bind p).mono fun x c1 Hs1 H1 _ F1 q v1 r1 => ?_⟩
  cases x with
  | tup ds =>
    obtain ⟨a, vs, rfl, hs, hl, hr⟩ := rl_tup.mp r1
    rw [hK]
    refine ⟨a, rfl, ⟨vs, seqT_mono F1.sm hs⟩, q Hs1 H1 (Fn.refl F1.sm F1.cu) hl _ ?_⟩
    have w := walk_tup (K := g.K) (a := a) (xs := vs)
    rw [hr.length] at w
    refine w.mono (fun H h => seqT_mono h hs) fun i H x H' hi _ y => ?_
    obtain ⟨d, e1, e2⟩ := hr.getV y.2
    exact ⟨d, e1, .inl ⟨y.1, e2⟩⟩
  | _ => exact q.elim
theorem di_str (he : DE X g E hid e m) : DI X g E hid tg e (itS m) := by
  refine PI_imp (pi_str he) fun σ H R ⟨st, c, Hs, sl, sm, cu, p⟩ => ⟨st, c, Hs, sl, sm, cu, (Post.bind p).mono fun x c1 Hs1 H1 _ F1 q v1 r1 => ?_⟩
  cases x with
  | str z =>
    obtain ⟨rfl, hz⟩ := rl_str.mp r1
    refine ⟨z, rfl, q Hs1 H1 (Fn.refl F1.sm F1.cu) (by rw [List.length_map, Array.length_toList]; exact txtOk_len hz) _ ?_⟩
    have w := walk_str (z := z)
    have e0 : (z.cps.toList.map chS).length = z.cps.size := by rw [List.length_map, Array.length_toList]
    rw [← e0] at w
    refine w.mono (fun H h => trivial) fun i H x H' hi _ y => ?_
    obtain ⟨rfl, k, hk, rfl⟩ := y
    have hk' : z.cps.toList[i]? = some k := by rw [Array.getElem?_toList]; exact hk
    exact ⟨chS k, by rw [List.getElem?_map, hk']; rfl, .inl ⟨rfl, rl_str.mpr ⟨rfl, txtOk_ch hz (List.mem_of_getElem? hk')⟩⟩⟩
  | _ => exact q.elim
theorem walk_rg {lo : Int} {n : Nat} {Hs : Hp} : WalkD g Hs (Itr lo n) (rgD lo n) := by
  have w := walk_range (lo := lo) (n := n)
  have e0 : (rgD lo n).length = n := by simp [rgD]
  unfold WalkD
  rw [e0]
  refine w.mono (fun H h => trivial) fun i H x H' hi _ y => ?_
  obtain ⟨rfl, rfl⟩ := y
  exact ⟨.int (lo + i), by simp [rgD, hi], .inl ⟨rfl, rl_int.mpr rfl⟩⟩
theorem di_r1 (he : DE X g E hid e m) (hm : X.mg "range" = none) (hg : Gl X "range" := by rfl) (hs : starEach [e] X.env = [(false, eval e X.env)] := by rfl) : DI X g E hid tg (.Call (.Name "range" p) [e] [] pos) (itR1 m) := by
  refine PI_imp (pi_range1 hg hm (pa_cons he pa_nil hs) hs) fun σ H R ⟨st, c, Hs, sl, sm, cu, p⟩ => ⟨st, c, Hs, sl, sm, cu, (Post.bind p).mono fun x c1 Hs1 H1 _ F1 q v1 r1 => ?_⟩
  cases x with
  | int j =>
    dsimp only at q
    split at q
    · rename_i h
      refine ⟨j, by rw [rl_int.mp r1], by omega, by omega, q Hs1 H1 (Fn.refl F1.sm F1.cu) ?_ _ walk_rg⟩
      simp [rgD, sizeLine_eq]
      omega
    · exact q.elim
  | _ => exact q.elim
theorem di_r2 (he : DE X g E hid e m) (he2 : DE X g E hid e2 m') (hm : X.mg "range" = none) (hg : Gl X "range" := by rfl) (hs : starEach [e, e2] X.env = [(false, eval e X.env), (false, eval e2 X.env)] := by rfl) (hs2 : starEach [e2] X.env = [(false, eval e2 X.env)] := by rfl) : DI X g E hid tg (.Call (.Name "range" p) [e, e2] [] pos) (itR2 m m') := by
  refine PI_imp (pi_range2 hg hm (pa_cons he (pa_cons he2 pa_nil hs2) (by rw [hs, hs2])) hs hs2) fun σ H R ⟨st, c, Hs, sl, sm, cu, p⟩ => ⟨st, c, Hs, sl, sm, cu, (Post.bind p).mono fun x c1 Hs1 H1 _ F1 q v1 r1 => ?_⟩
  refine ⟨st, c1, Hs1, sl.mono F1.ss, F1.sm, F1.cu, (Post.bind q).mono fun y c2 Hs2 H2 _ F2 q2 v2 r2 => ?_⟩
  cases x with
  | int i =>
    cases y with
    | int j =>
      dsimp only at q2
      split at q2
      · rename_i h
        refine ⟨i, j, by rw [rl_int.mp r1, rl_int.mp r2], by omega, q2 Hs2 H2 (Fn.refl F2.sm F2.cu) ?_ _ walk_rg⟩
        simp [rgD, sizeLine_eq]
        omega
      · exact q2.elim
    | _ => exact q2.elim
  | _ => cases y <;> exact q2.elim
theorem di_enL (he : DE X g E hid e m) (hm : X.mg "enumerate" = none) (hK : X.K = g.K := by rfl) (hg : Gl X "enumerate" := by rfl) (hs : starEach [e] X.env = [(false, eval e X.env)] := by rfl) :
    DI X g E hid (.Tuple elts kk tpos) (.Call (.Name "enumerate" p) [e] [] pos) (itE (itL m)) := by
  refine PI_imp (pi_enum hg hm (pa_cons he pa_nil hs) hs) fun σ H R ⟨st, c, Hs, sl, sm, cu, p⟩ => ⟨st, c, Hs, sl, sm, cu, (Post.bind (Post.bind p)).mono fun x c1 Hs1 H1 _ F1 q v1 r1 => ?_⟩
  cases x with
  | lst ds =>
    obtain ⟨a, vs, rfl, hs, hl, hr⟩ := rl_lst.mp r1
    rw [hK]
    have q' := q Hs1 H1 (Fn.refl F1.sm F1.cu)
    refine ⟨a, vs, rfl, .inl (.inl (F1.sm _ _ hs)), q' Hs1 H1 (Fn.refl F1.sm F1.cu) (by rw [enD_len]; exact hl) _ ?_⟩
    have w := walk_enum (K := g.K) (a := a) (xs := vs)
    rw [hr.length, ← enD_len ds 0] at w
    refine w.mono (fun H h => .inl (.inl (h _ _ hs))) fun i H x H' hi _ y => ?_
    obtain ⟨T, x1, y1, rfl, hT, rfl, e1, e2⟩ := y
    cases e1
    obtain ⟨d, e3, e4⟩ := hr.getV e2
    refine ⟨_, enD_get ds 0 i d e3, .inr ⟨T, _, _, rfl, rfl, hT, rfl, by rw [sizeLine_eq]; simp, ?_⟩⟩
    exact rll_cons.mpr ⟨_, _, rfl, rl_int.mpr (by simp), rll_cons.mpr ⟨_, _, rfl, e4, rll_nil.mpr rfl⟩⟩
  | _ => exact q.elim
theorem di_zpL (he : DE X g E hid e m) (he2 : DE X g E hid e2 m') (hm : X.mg "zip" = none) (hK : X.K = g.K := by rfl) (hg : Gl X "zip" := by rfl)
    (hs : starEach [e, e2] X.env = (false, eval e X.env) :: starEach [e2] X.env := by rfl) (hpl : (backTo pos (starEach [e2] X.env)).any (·.1) = false := by rfl) (hs2 : starEach [e2] X.env = (false, eval e2 X.env) :: starEach [] X.env := by rfl) :
    DI X g E hid (.Tuple elts kk tpos) (.Call (.Name "zip" p) [e, e2] [] pos) (itZ (itL m) (itL m')) := by
  refine PI_imp (pi_zip hg hm (pa_cons he (pa_cons he2 pa_nil hs2) hs) hs hpl) fun σ H R ⟨st, c, Hs, sl, sm, cu, p⟩ => ⟨st, c, Hs, sl, sm, cu, (Post.bind (Post.bind p)).mono fun x c1 Hs1 H1 _ F1 q v1 r1 => ?_⟩
  cases x with
  | lst ds =>
    have q' := q Hs1 H1 (Fn.refl F1.sm F1.cu)
    refine ⟨st, c1, Hs1, sl.mono F1.ss, F1.sm, F1.cu, (Post.bind (Post.bind q')).mono fun y c2 Hs2 H2 _ F2 q2 v2 r2 => ?_⟩
    cases y with
    | lst es =>
      obtain ⟨a, vs, rfl, hs, hl, hr⟩ := rl_lst.mp (Rl.mono F2.ss _ _ r1)
      obtain ⟨b, us, rfl, hs', hl', hr'⟩ := rl_lst.mp r2
      rw [hK]
      have q3 := q2 Hs2 H2 (Fn.refl F2.sm F2.cu)
      refine ⟨a, b, vs, us, rfl, .inl (.inl (F2.sm _ _ hs)), .inl (.inl (F2.sm _ _ hs')), q3 Hs2 H2 (Fn.refl F2.sm F2.cu) (by rw [zpD_len]; omega) _ ?_⟩
      have w := walk_zip (K := g.K) (a := a) (b := b) (xs := vs) (ys := us) (n := min ds.length es.length) (by rw [hr.length, hr'.length])
      rw [← zpD_len ds es] at w
      refine w.mono (fun H h => ⟨.inl (.inl (h _ _ hs)), .inl (.inl (h _ _ hs'))⟩) fun i H x H' hi _ y => ?_
      obtain ⟨T, x1, y1, rfl, hT, rfl, e1, e2⟩ := y
      obtain ⟨d, e3, e4⟩ := hr.getV e1
      obtain ⟨d', e5, e6⟩ := hr'.getV e2
      refine ⟨_, zpD_get ds es i d d' e3 e5, .inr ⟨T, _, _, rfl, rfl, hT, rfl, by rw [sizeLine_eq]; simp, ?_⟩⟩
      exact rll_cons.mpr ⟨_, _, rfl, e4, rll_cons.mpr ⟨_, _, rfl, e6, rll_nil.mpr rfl⟩⟩
    | _ => exact q2.elim
  | _ => exact q.elim
end
end L2.G
set_option Elab.async false
set_option linter.all false
set_option maxRecDepth 100000
set_option maxHeartbeats 2000000
namespace L2.G
open PySem PySem.Spec PyProof.Rows L2H
/-! a thing of one's own: a list, an instance -/
def Own1 (g : Ga) (Hs H : Hp) (a : Addr) (d : D) : Prop := (∃ ds vs, d = .lst ds ∧ H a = some (.lst vs) ∧ ds.length ≤ sizeLine ∧ RlL g Hs ds vs) ∨
  ∃ C ns ds dx gs, d = .ins C ns ds ∧ C ∈ g.cs ∧ H a = some (.ins (g.cm C) dx gs) ∧ gs.map (·.1) = ns ∧ RlL g Hs ds (gs.map (·.2))
theorem Own1.at_ {g : Ga} {Hs H : Hp} {a : Addr} {d : D} (o : Own1 g Hs H a d) : ∃ u, H a = some u ∧ Plain u := by
  rcases o with ⟨_, _, _, h, _⟩ | ⟨_, _, _, _, _, _, _, h, _⟩
  · exact ⟨_, h, plain_lst _⟩
  · exact ⟨_, h, plain_ins _ _ _⟩
theorem Own1.mono {g : Ga} {Hs H Hs' H' : Hp} {a : Addr} {d : D} (o : Own1 g Hs H a d) (e : Same Hs Hs') (h : ∀ u, Plain u → H a = some u → H' a = some u) : Own1 g Hs' H' a d := by
  rcases o with ⟨ds, vs, h1, h2, h3, h4⟩ | ⟨C, ns, ds, dx, gs, h1, h2, h3, h4, h5⟩
  · exact .inl ⟨ds, vs, h1, h _ (plain_lst _) h2, h3, RlL.mono e ds vs h4⟩
  · exact .inr ⟨C, ns, ds, dx, gs, h1, h2, h _ (plain_ins _ _ _) h3, h4, RlL.mono e ds _ h5⟩
/-- known from now on -/
theorem Own1.rl {g : Ga} {Hs H : Hp} {a : Addr} {d : D} {u : HO} (o : Own1 g Hs H a d) (hu : H a = some u) (hn : Hs a = none) : Rl g (upd Hs a u) d (.ref a) := by
  rcases o with ⟨ds, vs, rfl, h2, h3, h4⟩ | ⟨C, ns, ds, dx, gs, rfl, h2, h3, h4, h5⟩
  · rw [h2] at hu
    cases hu
    exact rl_lst.mpr ⟨a, vs, rfl, upd_same, h3, RlL.mono (same_new hn) ds vs h4⟩
  · rw [h3] at hu
    cases hu
    exact rl_ins.mpr ⟨h2, a, dx, gs, rfl, upd_same, h4, RlL.mono (same_new hn) ds _ h5⟩
/-! a new thing, not yet known to anyone -/
def tEo (g : Ga) (E : XK) (hid : List Nat) (m : PM D) : TE := fun σ H Q => ∃ st c Hs, Sl g hid Hs st σ ∧ Same Hs H ∧ CupAt g.pc Hs H c ∧ Post g E Hs H (m st c) fun d _ Hs' H' =>
  ∀ p, Fr H p → Hs' p = none → Off g.pc p → Own1 g Hs' H' p d → Q (.ref p) H'
abbrev DEo (X : Cx) (g : Ga) (E : XK) (hid : List Nat) (e : Expr) (m : PM D) : Prop := PE X e (tEo g E hid m)
section
variable {X : Cx} {g : Ga} {E : XK} {hid : List Nat} {σ : St} {H : Hp} {Q : VK} {ma mb m : PM D} {a b e : Expr} {es : List Expr} {ms : List (PM D)} {pos : Pos}
theorem own_of : tE g E hid m σ H Q → tEo g E hid m σ H Q := by
  rintro ⟨st, c, Hs, sl, sm, cu, p⟩
  refine ⟨st, c, Hs, sl, sm, cu, ?_⟩
  cases e : m st c with
  | no => rw [e] at p; exact p
  | er x c' => rw [e] at p; exact p
  | ok d c' =>
    rw [e] at p
    rintro Hs' H' F q h1 h2 h3 h4
    obtain ⟨u, hu, hpl⟩ := h4.at_
    exact p (upd Hs' q u) H' (F.show_ h1 hu h2 h3 hpl.1) _ (h4.rl hu h2)
theorem d_own (h : DEo X g E hid e m) : DE X g E hid e m := PE_imp h fun σ H Q q => own_of q
theorem fresh_of {pc : Pc} {Hs H Hs1 H1 : Hp} {c1 : Cu} (F : Fn pc Hs H Hs1 H1 c1) {p : Addr} (np : H1 p = none) : Fr H p ∧ Off pc p := by
  have n := F.cu.ne np
  exact ⟨fun o t z => (by rw [F.bt p o n t z] at np; cases np), n⟩
theorem do_lst (h : DA X g E hid es (aD ms)) (hl : ms.length ≤ 1000 := by decide) : DEo X g E hid (.List es pos) (lstD ms) := by
  refine PE_imp (pe_lst h) fun σ H Q ⟨st, c, Hs, sl, sm, cu, p⟩ => ⟨st, c, Hs, sl, sm, cu, (Post.bind p).mono fun ds c1 Hs1 H1 e F1 q vs rs => ?_⟩
  have l1 := aD_len e
  have l2 := rs.length
  have l3 : ds.length ≤ sizeLine := by rw [sizeLine_eq]; omega
  exact ⟨by omega, fun p np => q Hs1 _ (Fn.hid F1.sm F1.cu np) p (fresh_of F1 np).1 (F1.sm.free np) (fresh_of F1 np).2 (.inl ⟨ds, vs, rfl, upd_same, l3, rs⟩)⟩
/-- xs * n, a new list -/
def repF : D → D → Option D
  | .lst a, .int k => if -(2 ^ 31) < k ∧ k < 2 ^ 31 ∧ a.length * k.toNat ≤ sizeLine then some (.lst (List.replicate k.toNat a).flatten) else none
  | _, _ => none
theorem do_rep (ha : DE X g E hid a ma) (hb : DE X g E hid b mb) : DEo X g E hid (.BinOp a .Mult b pos) (opD repF ma mb) := by
  refine PE_imp (pe_op op_rep ha hb) fun σ H Q ⟨st, c, Hs, sl, sm, cu, p⟩ => ⟨st, c, Hs, sl, sm, cu, (Post.bind p).mono fun x c1 Hs1 H1 _ F1 q v1 r1 => ?_⟩
  refine ⟨st, c1, Hs1, sl.mono F1.ss, F1.sm, F1.cu, (Post.bind q).mono fun y c2 Hs2 H2 _ F2 q2 v2 r2 => ?_⟩
  have F3 := F1.trans F2
  cases x with
  | lst ds =>
    cases y with
    | int k =>
      unfold repF at q2
      dsimp only at q2
      split at q2
      · rename_i h
        obtain ⟨p, vs, rfl, hp, h0, r⟩ := rl_lst.mp (Rl.mono F2.ss _ _ r1)
        have l1 := r.length
        refine ⟨p, k, vs, rfl, rl_int.mp r2, F2.sm _ _ hp, by omega, by omega, by rw [l1]; exact h.2.2, fun n hn => ?_⟩
        exact q2 Hs2 _ (Fn.hid F2.sm F2.cu hn) n (fresh_of F3 hn).1 (F2.sm.free hn) (fresh_of F3 hn).2 (.inl ⟨_, _, rfl, upd_same, by rw [len_rep]; exact h.2.2, flat_rep r _⟩)
      · exact q2.elim
    | _ => exact q2.elim
  | _ => cases y <;> exact q2.elim
/-- list(xs), a new list -/
theorem do_list {e : Expr} {x : Str} {p : Pos} (he : DE X g E hid e m) (hm : X.mg x = none) (hv : bootBuiltins x = some (.type "list")) (hK : X.K = g.K := by rfl) (hg : Gl X x := by rfl) (hn : x ≠ "__name__" := by decide) (hdb : (x == ("__debug__" : Str)) = false := by decide)
    (hs : starEach [e] X.env = (false, eval e X.env) :: starEach [] X.env := by rfl) (hpl : (backTo pos (starEach [] X.env)).any (·.1) = false := by rfl) : DEo X g E hid (.Call (.Name x p) [e] [] pos) (biD listF [m]) := by
  refine PE_imp (pe_callTy call_list_of hg hm hv (da_cons he da_nil hs) hn hdb hs hpl) fun σ H Q ⟨st, c, Hs, sl, sm, cu, p⟩ => ⟨st, c, Hs, sl, sm, cu, (Post.bind p).mono fun xs c1 Hs1 H1 _ F1 q vs rs => ?_⟩
  rw [hK]
  cases e1 : listF xs with
  | none => rw [e1] at q; exact q.elim
  | some d =>
    rw [e1] at q
    unfold listF at e1
    split at e1
    · cases e1
      obtain ⟨v, rfl, r⟩ := one_of rs
      obtain ⟨p, ws, rfl, hp, hl, rr⟩ := rl_lst.mp r
      exact ⟨p, ws, rfl, .inl (.inl (.inl (F1.sm _ _ hp))), fun n hn => q Hs1 _ (Fn.hid F1.sm F1.cu hn) n (fresh_of F1 hn).1 (F1.sm.free hn) (fresh_of F1 hn).2 (.inl ⟨_, _, rfl, upd_same, hl, rr⟩)⟩
    · cases e1
      obtain ⟨v, rfl, r⟩ := one_of rs
      obtain ⟨p, ws, rfl, hp, hl, rr⟩ := rl_tup.mp r
      exact ⟨p, ws, rfl, .inr (seqT_mono F1.sm hp), fun n hn => q Hs1 _ (Fn.hid F1.sm F1.cu hn) n (fresh_of F1 hn).1 (F1.sm.free hn) (fresh_of F1 hn).2 (.inl ⟨_, _, rfl, upd_same, hl, rr⟩)⟩
    · cases e1
end
/-! list comprehensions -/
def wipeD (st : PSt) : List Nat → PSt
  | [] => st
  | v :: vs => (wipeD st vs).set v none
abbrev EF : XK := E0
def nE {α : Type} (m : PM α) : PM α := fun st c => match m st c with
  | .er _ _ => .no
  | r => r
def yesT : PM Bool := fun _ c => .ok true c
def lcG (t : Tg) (ws : List Nat) (test : PM Bool) (elt : PM D) (st : PSt) : List D → Cu → R (List D)
  | [], c => .ok [] c
  | d :: items, c => match asgT t d (wipeD st ws) with
    | none => .no
    | some st2 => (nE test st2 c).bind fun b c => if b = true then (nE elt st2 c).bind fun y c => (lcG t ws test elt st items c).bind fun ys c => .ok (y :: ys) c else lcG t ws test elt st items c
def lcD (t : Tg) (ws : List Nat) (it : PM (List D)) (test : PM Bool) (elt : PM D) : PM D := fun st c => (it st c).bind fun items c => (lcG t ws test elt st items c).bind fun ds c => .ok (.lst ds) c
theorem wipe_get (σ : St) (i : Nat) : ∀ ws : List Nat, (wipe σ ws)[i]? = if i ∈ ws then (σ[i]?).map fun _ => none else σ[i]?
  | [] => by simp [wipe]
  | v :: vs => by
    unfold wipe
    by_cases h : v = i
    · subst h
      rw [if_pos (by simp)]
      by_cases hl : v < σ.length
      · rw [List.getElem?_set_self (by rw [wipe_length]; exact hl), List.getElem?_eq_getElem hl]
        rfl
      · rw [List.getElem?_eq_none (by rw [List.length_set, wipe_length]; omega), List.getElem?_eq_none (by omega)]
        rfl
    · rw [List.getElem?_set_ne h, wipe_get σ i vs]
      have : (i ∈ v :: vs) ↔ i ∈ vs := by simp [Ne.symm h]
      simp only [this]
theorem wipeD_length (st : PSt) : ∀ ws : List Nat, (wipeD st ws).length = st.length
  | [] => rfl
  | v :: vs => by unfold wipeD; rw [List.length_set, wipeD_length st vs]
theorem wipeD_get (σ : PSt) (i : Nat) : ∀ ws : List Nat, (wipeD σ ws)[i]? = if i ∈ ws then (σ[i]?).map fun _ => none else σ[i]?
  | [] => by simp [wipeD]
  | v :: vs => by
    unfold wipeD
    by_cases h : v = i
    · subst h
      rw [if_pos (by simp)]
      by_cases hl : v < σ.length
      · rw [List.getElem?_set_self (by rw [wipeD_length]; exact hl), List.getElem?_eq_getElem hl]
        rfl
      · rw [List.getElem?_eq_none (by rw [List.length_set, wipeD_length]; omega), List.getElem?_eq_none (by omega)]
        rfl
    · rw [List.getElem?_set_ne h, wipeD_get σ i vs]
      have : (i ∈ v :: vs) ↔ i ∈ vs := by simp [Ne.symm h]
      simp only [this]
theorem Sl.wipe {g : Ga} {hid : List Nat} {Hs : Hp} {st : PSt} {σ : St} (s : Sl g hid Hs st σ) (ws : List Nat) : Sl g hid Hs (wipeD st ws) (wipe σ ws) := by
  refine ⟨by rw [wipe_length, wipeD_length]; exact s.1, fun i d hi e => ?_⟩
  rw [wipeD_get] at e
  rw [wipe_get]
  by_cases h : i ∈ ws
  · rw [if_pos h] at e
    cases q : st[i]? with
    | none => rw [q] at e; cases e
    | some x => rw [q] at e; cases e
  · rw [if_neg h] at e ⊢
    exact s.2 i d hi e
theorem Sl.asg {g : Ga} {hid sl : List Nat} {Hs : Hp} {st st' : PSt} {σ σ' : St} (s : Sl g hid Hs st σ) (a : Asg g Hs sl st σ st' σ') : Sl g hid Hs st' σ' := by
  refine ⟨a.len, fun i d hi e => ?_⟩
  by_cases h : i ∈ sl
  · exact a.inn i h d e
  · rw [(a.out i h).2] at e
    rw [(a.out i h).1]
    exact s.2 i d hi e
theorem wipe_asg {g : Ga} {Hs : Hp} {ws sl : List Nat} {st st' : PSt} {σ σ' : St} (a : Asg g Hs sl st (wipe σ ws) st' σ') (hw : ∀ i ∈ sl, i ∈ ws) : wipe σ' ws = wipe σ ws := by
  apply List.ext_getElem?
  intro i
  rw [wipe_get, wipe_get]
  by_cases h : i ∈ ws
  · rw [if_pos h, if_pos h]
    have l := a.ln
    rw [wipe_length] at l
    by_cases hl : i < σ.length
    · rw [List.getElem?_eq_getElem hl, List.getElem?_eq_getElem (by omega)]
      rfl
    · rw [List.getElem?_eq_none (by omega), List.getElem?_eq_none (by omega)]
  · rw [if_neg h, if_neg h, (a.out i fun z => h (hw i z)).1, wipe_get, if_neg h]
theorem drop_cons {α : Type} {l : List α} {i : Nat} {d : α} (h : l[i]? = some d) : l.drop i = d :: l.drop (i + 1) := by
  obtain ⟨hi, e⟩ := List.getElem?_eq_some_iff.mp h
  rw [List.drop_eq_getElem_cons hi, e]
theorem post_nE {α : Type} {g : Ga} {Hs H : Hp} {m : PM α} {st : PSt} {c : Cu} {k : α → Cu → Hp → Hp → Prop} (h1 : nE m st c = .no → False) (h2 : ∀ x c', nE m st c = .er x c' → False)
    (h3 : ∀ a c', nE m st c = .ok a c' → ∀ Hs' H', Fn g.pc Hs H Hs' H' c' → k a c' Hs' H') : Post g EF Hs H (m st c) k := by
  unfold nE at h1 h3
  cases e : m st c with
  | no => rw [e] at h1; exact h1 rfl
  | er x c' => rw [e] at h1; exact (h1 rfl).elim
  | ok a c' => rw [e] at h3; exact h3 a c' rfl
theorem nE_er {α : Type} {m : PM α} {st : PSt} {c : Cu} {x : Xc} {c' : Cu} : nE m st c = .er x c' → False := by
  unfold nE
  split
  · intro h; cases h
  · rename_i r h
    intro z
    exact h x c' z
section
variable {X : Cx} {g : Ga} {E : XK} {hid ws : List Nat} {σ : St} {H : Hp} {Q : VK} {t : Tg} {it : PM (List D)} {test : PM Bool} {me : PM D}
theorem lc_of (hw : ∀ i ∈ tgS t, i ∈ ws) : tEo g E hid (lcD t ws it test me) σ H Q → tLc (tI g E hid it) (gOf g.K t) (tT g EF hid test) (tE g EF hid me) ws σ H Q := by
  rintro ⟨st, c, Hs, sl, sm, cu, p⟩
  refine ⟨st, c, Hs, sl, sm, cu, (Post.bind p).mono fun items c1 Hs1 H1 _ F1 q hlen J wJ L hL => ?_⟩
  have Lpc := F1.cu.ne hL
  have fr : Fr H L := fun o t z => by rw [F1.bt L o Lpc t z] at hL; cases hL
  refine lc_it wJ (fun i H' => ∃ (c' : Cu) (Hs' : Hp) (acc : List V) (ds : List D), Fn g.pc Hs1 H1 Hs' H' c' ∧ H' L = some (.lst acc) ∧ Hs' L = none ∧ RlL g Hs' ds acc ∧ ds.length ≤ i ∧
    Post g E Hs1 H1 ((lcG t ws test me st (items.drop i) c').bind fun ys c => .ok (.lst (ds ++ ys)) c) fun (d : D) _ (Hs' H' : Hp) => ∀ (p : Addr), Fr H p → Hs' p = none → Off g.pc p → Own1 g Hs' H' p d → Q (.ref p) H') ?_ ?_ ?_ ?_
  · exact ⟨c1, Hs1, [], [], Fn.hid F1.sm F1.cu hL, upd_same, F1.sm.free hL, rll_nil.mpr rfl, Nat.le_refl _, by rw [List.drop_zero]; exact q⟩
  · rintro i H' _ ⟨c', Hs', acc, ds, F, _⟩
    exact F.ss.trans F.sm
  · rintro i x H' H'' hi ⟨c', Hs', acc, ds, F, hLa, hLn, rl, hle, pp⟩ y
    obtain ⟨d, Hs3, hd, F3, rx⟩ := y.step F.ss F.sm F.cu
    rw [drop_cons hd] at pp
    unfold lcG at pp
    cases ea : asgT t d (wipeD st ws) with
    | none => rw [ea] at pp; exact pp.elim
    | some st2 =>
      rw [ea] at pp
      dsimp only at pp
      have sl3 : Sl g hid Hs3 (wipeD st ws) (wipe σ ws) := (((sl.mono F1.ss).mono F.ss).mono F3.ss).wipe ws
      refine asg_of F3.sm t d x _ st2 _ _ sl3.1 rx ea fun σ2 a => ⟨wipe_asg a hw, ?_⟩
      have sl4 := sl3.asg a
      refine ⟨st2, c', Hs3, sl4, F3.sm, F3.cu, post_nE (fun z => by rw [z] at pp; exact pp) (fun _ _ z => nE_er z) fun b c4 eb Hs4 H4 F4 => ?_⟩
      rw [eb, R.ok_bind] at pp
      have F34 := F3.trans F4
      have hL4 : H4 L = some (.lst acc) := F34.bt L _ Lpc (plain_lst _).1 hLa
      have hn4 : Hs4 L = none := F34.nw L _ (plain_lst _).1 hLa hLn
      cases b with
      | false =>
        rw [if_neg (by decide)] at pp ⊢
        exact ⟨c4, Hs4, acc, ds, F.trans F34, hL4, hn4, RlL.mono F34.ss _ _ rl, by omega, pp⟩
      | true =>
        rw [if_pos rfl] at pp ⊢
        refine ⟨st2, c4, Hs4, sl4.mono F4.ss, F4.sm, F4.cu, post_nE (fun z => by rw [z] at pp; exact pp) (fun _ _ z => nE_er z) fun y c5 ey Hs5 H5 F5 v rv => ?_⟩
        rw [ey, R.ok_bind] at pp
        have F35 := F34.trans F5
        have hL5 : H5 L = some (.lst acc) := F35.bt L _ Lpc (plain_lst _).1 hLa
        have hn5 : Hs5 L = none := F35.nw L _ (plain_lst _).1 hLa hLn
        have l1 := rl.length
        refine ⟨acc, hL5, by omega, c5, Hs5, acc ++ [v], ds ++ [y], (F.trans F35).mut (fr_none hL) hn5 Lpc hL5 (plain_lst _), upd_same, hn5, (RlL.mono F35.ss _ _ rl).append (rll_cons.mpr ⟨v, [], rfl, rv, rll_nil.mpr rfl⟩), by simp; omega, ?_⟩
        revert pp
        cases lcG t ws test me st (items.drop (i + 1)) c5 with
        | no => exact fun z => z
        | er x c => exact fun z => z
        | ok ys c =>
          intro pp
          simp only [R.ok_bind, List.append_assoc, List.cons_append, List.nil_append] at pp ⊢
          exact pp
  · rintro H' ⟨c', Hs', acc, ds, F, hLa, hLn, rl, hle, pp⟩
    rw [List.drop_length] at pp
    unfold lcG at pp
    rw [R.ok_bind, List.append_nil] at pp
    exact pp Hs' H' F L fr hLn Lpc (.inl ⟨ds, acc, rfl, hLa, by omega, rl⟩)
variable {elt tg iter : Expr} {ifs : List Expr} {scope : Scope} {own : List (Str × Nat)} {pos : Pos}
theorem do_lc (hc : X.calm = true) (hN : X.N.Nodup) (hi : DI X g E hid tg iter it) (ok : BlkOk X.N X.env.scope scope own)
    (hg : ∀ (s : Shared) (H : Hp) (C : Addr) (cl : List (Str × Addr)) (fp : List Addr), PG (X.blk s H scope (compEnvC scope cl C X.env) fp) tg (gOf g.K t))
    (ht : ∀ (s : Shared) (H : Hp) (C : Addr) (cl : List (Str × Addr)) (fp : List Addr), PTs (X.blk s H scope (compEnvC scope cl C X.env) fp) ifs (tT g EF hid test))
    (he : ∀ (s : Shared) (H : Hp) (C : Addr) (cl : List (Str × Addr)) (fp : List Addr), DE (X.blk s H scope (compEnvC scope cl C X.env) fp) g EF hid elt me) (hw : ∀ i ∈ tgS t, i ∈ own.map (·.2) := by decide)
    (hs : ∀ x, foldedSetIterable iter X.env x = pure x := by intro _; rfl) : DEo X g E hid (.ListComp elt [⟨tg, iter, ifs, 0⟩] scope pos) (lcD t (own.map (·.2)) it test me) :=
  PE_imp (pe_lc hc hN hi ok hg ht he hs) fun σ H Q q => lc_of hw q
theorem dts_nil {X : Cx} : PTs X [] (tT g EF hid yesT) := ⟨fun pins s σ H Q I ⟨st, c, Hs, sl, sm, cu, p⟩ => pts_nil.run pins s σ H Q I (p Hs H (Fn.refl sm cu))⟩
theorem dts_one {X : Cx} {c : Expr} {t : PM Bool} (h : DT X g EF hid c t) : PTs X [c] (tT g EF hid t) := pts_one h
end
end L2.G
set_option Elab.async false
set_option linter.all false
set_option maxRecDepth 100000
set_option maxHeartbeats 2000000
namespace L2.G
open PySem PySem.Spec PyProof.Rows L2H
/-! statements by data -/
inductive Fl where
  | nx (st : PSt)
  | rt (d : D)
structure SiS (g : Ga) (fx : List (Nat × V)) (Hs0 H0 : Hp) (ow : List Nat) (Hs H : Hp) (c : Cu) (st : PSt) (σ : St) : Prop where
  fn : Fn g.pc Hs0 H0 Hs H c
  sl : Sl g ow Hs st σ
  own : ∀ i ∈ ow, ∀ d, st[i]? = some (some d) → ∃ a, σ[i]? = some (some (.ref a)) ∧ Hs a = none ∧ Fr H0 a ∧ Off g.pc a ∧ Own1 g Hs H a d
  dis : ∀ i ∈ ow, ∀ j ∈ ow, i ≠ j → ∀ d e a b, st[i]? = some (some d) → st[j]? = some (some e) → σ[i]? = some (some (.ref a)) → σ[j]? = some (some (.ref b)) → a ≠ b
  fix : ∀ i ∈ ow, ∀ v, (i, v) ∈ fx → σ[i]? = some (some v)
section
variable {g : Ga} {fx : List (Nat × V)} {Hs0 H0 Hs H Hs1 H1 Hs2 H2 : Hp} {ow ow' ow1 : List Nat} {c c1 : Cu} {st : PSt} {σ : St}
open Classical in
/-- what was one's own may become known -/
theorem SiS.weak (s : SiS g fx Hs0 H0 ow Hs H c st σ) (hw : ∀ i ∈ ow', i ∈ ow) : ∃ Hs1, Same Hs Hs1 ∧ SiS g fx Hs0 H0 ow' Hs1 H c st σ := by
  let fz : Addr → Prop := fun b => ∃ i ∈ ow, i ∉ ow' ∧ (∃ d, st[i]? = some (some d)) ∧ σ[i]? = some (some (.ref b))
  let Hs1 : Hp := fun b => if Hs b = none ∧ fz b then H b else Hs b
  have h1 : ∀ b, Hs b = none → fz b → Hs1 b = H b := fun b n f => if_pos ⟨n, f⟩
  have h2 : ∀ b, ¬ fz b → Hs1 b = Hs b := fun b n => if_neg fun z => n z.2
  have h3 : ∀ b o, Hs b = some o → Hs1 b = some o := fun b o e => by
    show (if Hs b = none ∧ fz b then H b else Hs b) = some o
    rw [if_neg (fun z => by rw [e] at z; cases z.1)]
    exact e
  have free : ∀ b, fz b → Hs b = none ∧ Fr H0 b ∧ Off g.pc b := fun b ⟨i, hi, _, ⟨d, hd⟩, hv⟩ => by
    obtain ⟨a, e1, e2, e3, e4, _⟩ := s.own i hi d hd
    rw [hv] at e1
    cases e1
    exact ⟨e2, e3, e4⟩
  refine ⟨Hs1, h3, ⟨⟨s.fn.ss.trans h3, s.fn.bt, fun b o t e n => ?_, fun b o e => ?_, ?_⟩, ⟨s.sl.1, fun i d hi e => ?_⟩, fun i hi d hd => ?_, fun i hi j hj => s.dis i (hw i hi) j (hw j hj), fun i hi => s.fix i (hw i hi)⟩⟩
  · by_cases hf : fz b
    · exact absurd e ((free b hf).2.1 o t)
    · rw [h2 b hf]
      exact s.fn.nw b o t e n
  · by_cases hf : fz b
    · rw [h1 b (free b hf).1 hf] at e
      exact e
    · rw [h2 b hf] at e
      exact s.fn.sm b o e
  · refine s.fn.cu.hs (fun b nb e => ?_) fun b ps e => ?_
    · rw [h2 b fun hf => nb (free b hf).2.2]
      exact e
    · by_cases hf : fz b
      · rw [h1 b (free b hf).1 hf] at e
        obtain ⟨i, hi, _, ⟨d, hd⟩, hv⟩ := hf
        obtain ⟨a, e1, _, _, _, e5⟩ := s.own i hi d hd
        rw [hv] at e1
        cases e1
        obtain ⟨u, hu, pl⟩ := e5.at_
        rw [hu] at e
        exact pl.1 ps (Option.some.inj e)
      · rw [h2 b hf] at e
        exact s.fn.cu.nt b ps e
  · by_cases hi2 : i ∈ ow
    · obtain ⟨a, e1, e2, e3, e4, e5⟩ := s.own i hi2 d e
      have hf : fz a := ⟨i, hi2, hi, ⟨_, e⟩, e1⟩
      obtain ⟨u, hu, _⟩ := e5.at_
      refine ⟨.ref a, e1, Rl.mono (H := upd Hs a u) (fun b o hb => ?_) d _ (e5.rl hu e2)⟩
      by_cases z : b = a
      · rw [z, upd_same] at hb
        rw [z, h1 a e2 hf, hu, ← hb]
      · rw [upd_ne z] at hb
        exact h3 b o hb
    · obtain ⟨v, e1, e2⟩ := s.sl.2 i d hi2 e
      exact ⟨v, e1, Rl.mono h3 d v e2⟩
  · obtain ⟨a, e1, e2, e3, e4, e5⟩ := s.own i (hw i hi) d hd
    refine ⟨a, e1, ?_, e3, e4, e5.mono h3 fun _ _ z => z⟩
    rw [h2 a ?_]
    · exact e2
    · rintro ⟨j, hj, hj2, ⟨d', hd'⟩, hv⟩
      exact s.dis i (hw i hi) j hj (fun z => hj2 (z ▸ hi)) _ _ a a hd hd' e1 hv rfl
/-- behind an expression whose value holds nothing -/
theorem SiS.back (s : SiS g fx Hs0 H0 ow Hs H c st σ) (e : Same Hs Hs1) (F : Fn g.pc Hs1 H Hs2 H2 c1) : SiS g fx Hs0 H0 ow Hs H2 c1 st σ := by
  refine ⟨⟨s.fn.ss, fun b o n t h => F.bt b o n t (s.fn.bt b o n t h), s.fn.nw, e.trans (F.ss.trans F.sm), ?_⟩, s.sl, fun i hi d hd => ?_, s.dis, s.fix⟩
  · exact F.cu.hs (fun b nb h => (e.trans F.ss).free h) s.fn.cu.nt
  · obtain ⟨a, e1, e2, e3, e4, e5⟩ := s.own i hi d hd
    exact ⟨a, e1, e2, e3, e4, e5.mono (Same.refl _) fun u pu hu => F.bt a u e4 pu.1 hu⟩
/-- behind any expression -/
theorem SiS.on (s : SiS g fx Hs0 H0 ow Hs H c st σ) (F : Fn g.pc Hs H Hs2 H2 c1) : SiS g fx Hs0 H0 ow Hs2 H2 c1 st σ := by
  refine ⟨s.fn.trans F, s.sl.mono F.ss, fun i hi d hd => ?_, s.dis, s.fix⟩
  obtain ⟨a, e1, e2, e3, e4, e5⟩ := s.own i hi d hd
  obtain ⟨u, hu, pu⟩ := e5.at_
  exact ⟨a, e1, F.nw a u pu.1 hu e2, e3, e4, e5.mono F.ss fun v pv hv => F.bt a v e4 pv.1 hv⟩
theorem SiS.asg {sl : List Nat} {st' : PSt} {σ' : St} (s : SiS g fx Hs0 H0 ow Hs H c st σ) (a : Asg g Hs sl st σ st' σ') (hs : ∀ i ∈ sl, i ∉ ow) : SiS g fx Hs0 H0 ow Hs H c st' σ' := by
  have out : ∀ i ∈ ow, σ'[i]? = σ[i]? ∧ st'[i]? = st[i]? := fun i hi => a.out i fun z => hs i z hi
  refine ⟨s.fn, s.sl.asg a, fun i hi d hd => ?_, fun i hi j hj ne d e a' b h1 h2 h3 h4 => ?_, fun i hi v hv => by rw [(out i hi).1]; exact s.fix i hi v hv⟩
  · rw [(out i hi).2] at hd
    rw [(out i hi).1]
    exact s.own i hi d hd
  · rw [(out i hi).2] at h1
    rw [(out j hj).2] at h2
    rw [(out i hi).1] at h3
    rw [(out j hj).1] at h4
    exact s.dis i hi j hj ne d e a' b h1 h2 h3 h4
/-- a new list of one's own in slot i -/
theorem SiS.take {i : Nat} {p : Addr} {d0 : D} (s : SiS g fx Hs0 H0 ow Hs H c st σ) (hi : i ∉ ow) (hfx : ∀ v, (i, v) ∉ fx) (F : Fn g.pc Hs H Hs2 H2 c1) (hp : Fr H p) (hp2 : Hs2 p = none) (hc : Off g.pc p) (h2 : Own1 g Hs2 H2 p d0) :
    SiS g fx Hs0 H0 (i :: ow) Hs2 H2 c1 (st.set i (some d0)) (σ.set i (some (.ref p))) := by
  have s2 := s.on F
  have h0 : Fr H0 p := fun o t z => hp o t (s.fn.bt p o hc t z)
  have ne : ∀ j ∈ ow, i ≠ j := fun j hj z => hi (z ▸ hj)
  have apart : ∀ j ∈ ow, ∀ d a, st[j]? = some (some d) → σ[j]? = some (some (.ref a)) → a ≠ p := by
    rintro j hj d a hd ha rfl
    obtain ⟨b, e1, _, _, _, e5⟩ := s.own j hj d hd
    rw [ha] at e1
    cases e1
    obtain ⟨u, hu, pu⟩ := e5.at_
    exact hp u pu.1 hu
  have at_i : ∀ d, (st.set i (some d0))[i]? = some (some d) → d = d0 ∧ i < st.length := fun d e => by
    have hl : i < st.length := by
      have := (List.getElem?_eq_some_iff.mp e).1
      rwa [List.length_set] at this
    rw [List.getElem?_set_self hl] at e
    cases e
    exact ⟨rfl, hl⟩
  refine ⟨s2.fn, ⟨by rw [List.length_set, List.length_set]; exact s.sl.1, fun j d hj e => ?_⟩, fun j hj d hd => ?_, fun j hj k hk jk d e a b h1 h2 h3 h4 => ?_, fun j hj v hv => ?_⟩
  · rw [List.mem_cons, not_or] at hj
    rw [List.getElem?_set_ne (Ne.symm hj.1)] at e ⊢
    exact s2.sl.2 j d hj.2 e
  · rcases List.mem_cons.mp hj with rfl | hj
    · obtain ⟨rfl, hl2⟩ := at_i d hd
      exact ⟨p, by rw [List.getElem?_set_self (by rw [s.sl.1]; exact hl2)], hp2, h0, hc, h2⟩
    · rw [List.getElem?_set_ne (ne j hj)] at hd ⊢
      exact s2.own j hj d hd
  · rcases List.mem_cons.mp hj with zj | hj2
    · rcases List.mem_cons.mp hk with zk | hk2
      · exact absurd (zj.trans zk.symm) jk
      · rw [List.getElem?_set_ne (ne k hk2)] at h2 h4
        rw [zj] at h1 h3
        obtain ⟨_, hl2⟩ := at_i d h1
        rw [List.getElem?_set_self (by rw [s.sl.1]; exact hl2)] at h3
        cases h3
        exact fun z => apart k hk2 e b h2 h4 z.symm
    · rcases List.mem_cons.mp hk with zk | hk2
      · rw [List.getElem?_set_ne (ne j hj2)] at h1 h3
        rw [zk] at h2 h4
        obtain ⟨_, hl2⟩ := at_i e h2
        rw [List.getElem?_set_self (by rw [s.sl.1]; exact hl2)] at h4
        cases h4
        exact apart j hj2 d a h1 h3
      · rw [List.getElem?_set_ne (ne j hj2)] at h1 h3
        rw [List.getElem?_set_ne (ne k hk2)] at h2 h4
        exact s.dis j hj2 k hk2 jk d e a b h1 h2 h3 h4
  · rcases List.mem_cons.mp hj with zj | hj2
    · rw [zj] at hv
      exact absurd hv (hfx v)
    · rw [List.getElem?_set_ne (ne j hj2)]
      exact s.fix j hj2 v hv
/-- one's own thing changes -/
theorem SiS.chg0 {i : Nat} {p : Addr} {d0 d1 : D} {u1 : HO} (s : SiS g fx Hs0 H0 ow Hs H c st σ) (hi : i ∈ ow) (hd : st[i]? = some (some d0)) (hp : σ[i]? = some (some (.ref p))) (hu : Own1 g Hs (upd H p u1) p d1) :
    SiS g fx Hs0 H0 ow Hs (upd H p u1) c (st.set i (some d1)) σ := by
  obtain ⟨a, e1, e2, e3, e4, e5⟩ := s.own i hi _ hd
  rw [hp] at e1
  cases e1
  have il := (List.getElem?_eq_some_iff.mp hd).1
  obtain ⟨u0, hu0, pl0⟩ := e5.at_
  have F := s.fn.mut (o := u1) e3 e2 e4 hu0 pl0
  refine ⟨F, ⟨by rw [List.length_set]; exact s.sl.1, fun j d hj e => ?_⟩, fun j hj d hd2 => ?_, fun j hj k hk jk d e a b h1 h2 h3 h4 => ?_, s.fix⟩
  · have : i ≠ j := fun z => hj (z ▸ hi)
    rw [List.getElem?_set_ne this] at e
    exact s.sl.2 j d hj e
  · by_cases h : i = j
    · subst h
      rw [List.getElem?_set_self il] at hd2
      cases hd2
      exact ⟨p, hp, e2, e3, e4, hu⟩
    · rw [List.getElem?_set_ne h] at hd2
      obtain ⟨a, f1, f2, f3, f4, f5⟩ := s.own j hj d hd2
      refine ⟨a, f1, f2, f3, f4, f5.mono (Same.refl _) fun v _ hv => ?_⟩
      rw [upd_ne (s.dis j hj i hi (Ne.symm h) _ _ a p hd2 hd f1 hp)]
      exact hv
  · have old : ∀ j : Nat, (∃ d, (st.set i (some d1))[j]? = some (some d)) → ∃ d, st[j]? = some (some d) := by
      rintro j ⟨d, e⟩
      by_cases h : i = j
      · subst h
        exact ⟨_, hd⟩
      · rw [List.getElem?_set_ne h] at e
        exact ⟨d, e⟩
    obtain ⟨d', h1⟩ := old j ⟨d, h1⟩
    obtain ⟨e', h2⟩ := old k ⟨e, h2⟩
    exact s.dis j hj k hk jk d' e' a b h1 h2 h3 h4
theorem SiS.chg {i : Nat} {p : Addr} {ds ds' : List D} {vs' : List V} (s : SiS g fx Hs0 H0 ow Hs H c st σ) (hi : i ∈ ow) (hd : st[i]? = some (some (.lst ds))) (hp : σ[i]? = some (some (.ref p))) (hl : ds'.length ≤ sizeLine) (r : RlL g Hs ds' vs') :
    SiS g fx Hs0 H0 ow Hs (upd H p (.lst vs')) c (st.set i (some (.lst ds'))) σ := s.chg0 hi hd hp (.inl ⟨ds', vs', rfl, upd_same, hl, r⟩)
/-- one's own list -/
theorem SiS.lst {i : Nat} {ds : List D} (s : SiS g fx Hs0 H0 ow Hs H c st σ) (hi : i ∈ ow) (hd : st[i]? = some (some (.lst ds))) : ∃ a vs, σ[i]? = some (some (.ref a)) ∧ H a = some (.lst vs) ∧ ds.length ≤ sizeLine ∧ RlL g Hs ds vs := by
  obtain ⟨a, e1, _, _, _, e5⟩ := s.own i hi _ hd
  rcases e5 with ⟨ds1, vs, ed, h2, h3, h4⟩ | ⟨C, ns, ds1, dx, gs, ed, _⟩
  · cases ed
    exact ⟨a, vs, e1, h2, h3, h4⟩
  · cases ed
end
end L2.G
set_option Elab.async false
set_option linter.all false
set_option maxRecDepth 100000
set_option maxHeartbeats 2000000
namespace L2.G
open PySem PySem.Spec PyProof.Rows L2H
def PostS (g : Ga) (E : XK) (fx : List (Nat × V)) (Hs0 H0 : Hp) (ow : List Nat) (D : Ends) (r : R Fl) : Prop := match r with
  | .no => False
  | .ok (.nx st') c' => ∀ σ' Hs' H', SiS g fx Hs0 H0 ow Hs' H' c' st' σ' → D.nx σ' H'
  | .ok (.rt d) c' => ∀ v Hs' H', Fn g.pc Hs0 H0 Hs' H' c' → Rl g Hs' d v → D.rt v H'
  | .er x c' => ∀ cls dx Hs' H', Fn g.pc Hs0 H0 Hs' H' c' → Xr g Hs' x cls dx → E cls dx H'
def tS (g : Ga) (E : XK) (fx : List (Nat × V)) (Hs0 H0 : Hp) (ow ow' : List Nat) (f : PM Fl) : TS := fun D σ H => ∃ st c Hs, SiS g fx Hs0 H0 ow Hs H c st σ ∧ PostS g E fx Hs0 H0 ow' D (f st c)
abbrev DS (X : Cx) (g : Ga) (E : XK) (fx : List (Nat × V)) (Hs0 H0 : Hp) (ow ow' : List Nat) (s : Stmt) (f : PM Fl) : Prop := PS X s (tS g E fx Hs0 H0 ow ow' f)
abbrev DB (X : Cx) (g : Ga) (E : XK) (fx : List (Nat × V)) (Hs0 H0 : Hp) (ow ow' : List Nat) (b : List Stmt) (f : PM Fl) : Prop := PSs X b (tS g E fx Hs0 H0 ow ow' f)
theorem PS_imp {X : Cx} {s : Stmt} {t t' : TS} (h : PS X s t) (m : ∀ D σ H, t' D σ H → t D σ H) : PS X s t' := ⟨fun pins s σ H D I q => h.run pins s σ H D I (m D σ H q)⟩
theorem PSs_imp {X : Cx} {s : List Stmt} {t t' : TS} (h : PSs X s t) (m : ∀ D σ H, t' D σ H → t D σ H) : PSs X s t' := ⟨fun pins s σ H D I q => h.run pins s σ H D I (m D σ H q)⟩
/-! the statements -/
def setS (i : Nat) (m : PM D) : PM Fl := fun st c => (m st c).bind fun d c => .ok (.nx (st.set i (some d))) c
def asgS (t : Tg) (m : PM D) : PM Fl := fun st c => (m st c).bind fun d c => (ofO (asgT t d st) c).bind fun st' c => .ok (.nx st') c
def exS (m : PM D) : PM Fl := fun st c => (m st c).bind fun _ c => .ok (.nx st) c
def retS (m : PM D) : PM Fl := fun st c => (m st c).bind fun d c => .ok (.rt d) c
def passS : PM Fl := fun st c => .ok (.nx st) c
def ifS (t : PM Bool) (f f' : PM Fl) : PM Fl := fun st c => (t st c).bind fun b c => if b = true then f st c else f' st c
def seqS (f f' : PM Fl) : PM Fl := fun st c => (f st c).bind fun fl c => match fl with
  | .nx st' => f' st' c
  | .rt d => .ok (.rt d) c
def loopS (t : Tg) (f : PM Fl) : List D → PSt → Cu → R Fl
  | [], st, c => .ok (.nx st) c
  | d :: ds, st, c => (ofO (asgT t d st) c).bind fun st1 c => (f st1 c).bind fun fl c => match fl with
    | .nx st' => loopS t f ds st' c
    | .rt d => .ok (.rt d) c
def forS (t : Tg) (it : PM (List D)) (f : PM Fl) : PM Fl := fun st c => (it st c).bind fun items c => loopS t f items st c
def whS (t : PM Bool) (f : PM Fl) : Nat → PM Fl
  | 0 => fun _ _ => .no
  | n + 1 => fun st c => (t st c).bind fun b c => if b = true then (f st c).bind fun fl c => match fl with
      | .nx st' => whS t f n st' c
      | .rt d => .ok (.rt d) c
    else .ok (.nx st) c
def appS (i : Nat) (m : PM D) : PM Fl := fun st c => match st[i]? with
  | some (some (.lst ds)) => (m st c).bind fun d c => if ds.length < sizeLine then .ok (.nx (st.set i (some (.lst (ds ++ [d]))))) c else .no
  | _ => .no
def scD (d : D) : Bool := match d with
  | .non => true
  | .bl _ => true
  | .int _ => true
  | .str _ => true
  | _ => false
def scalD (m : PM D) : PM D := fun st c => (m st c).bind fun d c => if scD d = true then .ok d c else .no
def putF1 (i : Nat) (k : D) (d : D) (st : PSt) : Option PSt := match st[i]?, k with
  | some (some (.lst ds)), .int j => (ixN ds.length j).map fun n => st.set i (some (.lst (ds.set n d)))
  | _, _ => none
/-- x[k] = e -/
def setIS (i : Nat) (mk me : PM D) : PM Fl := fun st c => match st[i]? with
  | some (some (.lst _)) => (me st c).bind fun d c => (scalD mk st c).bind fun k c => (ofO (putF1 i k d st) c).bind fun st' c => .ok (.nx st') c
  | _ => .no
/-- x[k] = e, e a scalar -/
def setISs (i : Nat) (mk me : PM D) : PM Fl := setIS i mk (scalD me)
def ixL (ds : List D) : D → Option D
  | .int j => if 0 ≤ j then ds[j.toNat]? else none
  | _ => none
/-- x[k] op= e, scalars, k from the left -/
def augIS (i : Nat) (f : D → D → Option D) (mk me : PM D) : PM Fl := fun st c => match st[i]? with
  | some (some (.lst ds)) => (scalD mk st c).bind fun k c => (ofO (ixL ds k) c).bind fun x c => if scD x = true then (scalD me st c).bind fun y c => (ofO (f x y) c).bind fun z c => (ofO (putF1 i k z st) c).bind fun st' c => .ok (.nx st') c else .no
  | _ => .no
def augS (i : Nat) (f : D → D → Option D) (m : PM D) : PM Fl := fun st c => match st[i]? with
  | some (some x) => (m st c).bind fun y c => (ofO (f x y) c).bind fun z c => .ok (.nx (st.set i (some z))) c
  | _ => .no
def raS (cls : Str) (ns : List Str) (ms : List (PM D)) : PM Fl := fun st c => (aD ms st c).bind fun ds c => .er ⟨cls, ns, ds⟩ c
def parS (i j : Nat) (ms : List (PM D)) : PM Fl := fun st c => (aD ms st c).bind fun ds c => match ds with
  | [x, y] => .ok (.nx ((st.set i (some x)).set j (some y))) c
  | _ => .no
section
variable {X : Cx} {g : Ga} {E : XK} {fx : List (Nat × V)} {Hs0 H0 : Hp} {ow ow' ow1 ow2 hid : List Nat} {m mk me : PM D} {s : Stmt} {b : List Stmt} {f f' f1 f2 : PM Fl} {i j : Nat} {pos : Pos} {e : Expr}
/-- an expression's reading out of a statement's state -/
theorem SiS.toE {st : PSt} {σ : St} {Hs H : Hp} {c : Cu} {Q : VK} (s : SiS g fx Hs0 H0 ow Hs H c st σ) (q : Post g E Hs H (m st c) fun d _ Hs' H' => ∀ v, Rl g Hs' d v → Q v H') : tE g E ow m σ H Q := ⟨st, c, Hs, s.sl, s.fn.sm, s.fn.cu, q⟩
theorem ps_er {β : Type} {Hs H : Hp} {c : Cu} {st : PSt} {σ : St} {D : Ends} {r : R β} {k : β → Cu → R Fl} {K : β → Cu → Hp → Hp → Prop} (s : SiS g fx Hs0 H0 ow Hs H c st σ) (p : PostS g E fx Hs0 H0 ow' D (r.bind k))
    (h : ∀ a c1 Hs1 H1, r = .ok a c1 → Fn g.pc Hs H Hs1 H1 c1 → PostS g E fx Hs0 H0 ow' D (k a c1) → K a c1 Hs1 H1) : Post g E Hs H r K := by
  cases r with
  | no => exact p
  | er x c' => exact fun cls dx Hs' H' F x => p cls dx Hs' H' (s.fn.trans F) x
  | ok a c' => exact fun Hs' H' F => h a c' Hs' H' rfl F p
theorem s_set (h : PS X s (tAsg (tE g E ow1 m) (gName i))) (hw : ∀ k ∈ ow1, k ∈ ow := by decide) (hi : i ∉ ow1 := by decide) : DS X g E fx Hs0 H0 ow ow1 s (setS i m) := by
  refine PS_imp h fun D σ H ⟨st, c, Hs, s, p⟩ => ?_
  obtain ⟨Hs1, e1, s1⟩ := s.weak hw
  refine s1.toE (ps_er s1 p fun d c2 Hs2 H2 _ F q v r => ?_)
  exact q _ Hs2 H2 ((s1.on F).asg (asg_nm s1.sl.1 r) (by simpa using hi))
/-- a scalar: what is one's own stays so -/
theorem s_setS (h : PS X s (tAsg (tE g E ow1 m) (gName i))) (hw : ∀ k ∈ ow1, k ∈ ow := by decide) (hi : i ∉ ow := by decide) : DS X g E fx Hs0 H0 ow ow s (setS i (scalD m)) := by
  refine PS_imp h fun D σ H ⟨st, c, Hs, s, p⟩ => ?_
  obtain ⟨Hs1, e1, s1⟩ := s.weak hw
  unfold setS scalD at p
  cases em : m st c with
  | no => rw [em] at p; exact p.elim
  | er x c' =>
    rw [em] at p
    exact s1.toE (by rw [em]; exact fun cls dx Hs' H' F x => p cls dx Hs' H' (s1.fn.trans F) x)
  | ok d c2 =>
    rw [em, R.ok_bind] at p
    by_cases hsc : scD d = true
    · rw [if_pos hsc, R.ok_bind] at p
      refine s1.toE (by
        rw [em]
        refine fun Hs2 H2 F v r => p _ Hs H2 ((s.back e1 F).asg (asg_nm s.sl.1 ?_) (by simpa using hi))
        cases d with
        | non => exact rl_non.mpr (rl_non.mp r)
        | bl b => exact rl_bl.mpr (rl_bl.mp r)
        | int b => exact rl_int.mpr (rl_int.mp r)
        | str b => exact rl_str.mpr (rl_str.mp r)
        | _ => cases hsc)
    · rw [if_neg hsc] at p
      exact p.elim
/-- a new list, from now on one's own -/
theorem s_setO (h : PS X s (tAsg (tEo g E ow1 m) (gName i))) (hw : ∀ k ∈ ow1, k ∈ ow := by decide) (hi : i ∉ ow1 := by decide) (hfx : ∀ v, (i, v) ∉ fx := by simp) : DS X g E fx Hs0 H0 ow (i :: ow1) s (setS i m) := by
  refine PS_imp h fun D σ H ⟨st, c, Hs, s, p⟩ => ?_
  obtain ⟨Hs1, e1, s1⟩ := s.weak hw
  refine ⟨st, c, Hs1, s1.sl, s1.fn.sm, s1.fn.cu, ps_er s1 p fun d c2 Hs2 H2 _ F q a h1 h2 h3 h4 => ?_⟩
  exact q _ Hs2 H2 (s1.take hi hfx F h1 h2 h3 h4)
theorem s_asg {t : Tg} (h : PS X s (tAsg (tE g E ow1 m) (gOf g.K t))) (hw : ∀ k ∈ ow1, k ∈ ow := by decide) (hi : ∀ k ∈ tgS t, k ∉ ow1 := by decide) : DS X g E fx Hs0 H0 ow ow1 s (asgS t m) := by
  refine PS_imp h fun D σ H ⟨st, c, Hs, s, p⟩ => ?_
  obtain ⟨Hs1, e1, s1⟩ := s.weak hw
  refine s1.toE (ps_er s1 p fun d c2 Hs2 H2 _ F q v r => ?_)
  cases ea : asgT t d st with
  | none => rw [ea] at q; exact q.elim
  | some st' =>
    rw [ea] at q
    exact asg_of F.sm t d v st st' σ _ s1.sl.1 r ea fun σ' a => q σ' Hs2 H2 ((s1.on F).asg a hi)
theorem s_ex (h : DE X g E ow1 e m) (hw : ∀ k ∈ ow1, k ∈ ow := by decide) (hs : swapsWith e none pos.line X.env = pure false := by rfl) : DS X g E fx Hs0 H0 ow ow (.Expr e pos) (exS m) := by
  refine PS_imp (ps_expr h hs) fun D σ H ⟨st, c, Hs, s, p⟩ => ?_
  obtain ⟨Hs1, e1, s1⟩ := s.weak hw
  exact s1.toE (ps_er s1 p fun d c2 Hs2 H2 _ F q v r => q _ Hs H2 (s.back e1 F))
theorem s_ret (h : DE X g E ow1 e m) (hw : ∀ k ∈ ow1, k ∈ ow := by decide) : DS X g E fx Hs0 H0 ow ow' (.Return (some e) pos) (retS m) := by
  refine PS_imp (ps_ret h) fun D σ H ⟨st, c, Hs, s, p⟩ => ?_
  obtain ⟨Hs1, e1, s1⟩ := s.weak hw
  exact s1.toE (ps_er s1 p fun d c2 Hs2 H2 _ F q v r => q v Hs2 H2 (s1.fn.trans F) r)
theorem s_pass : DS X g E fx Hs0 H0 ow ow (.Pass pos) passS := PS_imp ps_pass fun D σ H ⟨st, c, Hs, s, p⟩ => p σ Hs H s
theorem s_if {t : PM Bool} {tst : Expr} {b1 b2 : List Stmt} (ht : DT X g E ow1 tst t) (h1 : DB X g E fx Hs0 H0 ow ow' b1 f1) (h2 : DB X g E fx Hs0 H0 ow ow' b2 f2) (hw : ∀ k ∈ ow1, k ∈ ow := by decide) : DS X g E fx Hs0 H0 ow ow' (.If tst b1 b2 pos) (ifS t f1 f2) := by
  refine PS_imp (ps_if ht h1 h2) fun D σ H ⟨st, c, Hs, s, p⟩ => ?_
  obtain ⟨Hs1, e1, s1⟩ := s.weak hw
  refine ⟨st, c, Hs1, s1.sl, s1.fn.sm, s1.fn.cu, ps_er s1 p fun b c2 Hs2 H2 _ F q => ?_⟩
  cases b with
  | true =>
    rw [if_pos rfl] at q ⊢
    exact ⟨st, c2, Hs, s.back e1 F, q⟩
  | false =>
    rw [if_neg (by decide)] at q ⊢
    exact ⟨st, c2, Hs, s.back e1 F, q⟩
theorem PostS.weak {D : Ends} {r : R Fl} (hw : ∀ k ∈ ow', k ∈ ow) (p : PostS g E fx Hs0 H0 ow' D r) : PostS g E fx Hs0 H0 ow D r := by
  cases r with
  | no => exact p
  | er x c => exact p
  | ok fl c =>
    cases fl with
    | nx st =>
      intro σ' Hs' H' s
      obtain ⟨Hs1, _, s1⟩ := s.weak hw
      exact p σ' Hs1 H' s1
    | rt d => exact p
theorem b_weak (h : DB X g E fx Hs0 H0 ow ow1 b f) (hw : ∀ k ∈ ow', k ∈ ow1 := by decide) : DB X g E fx Hs0 H0 ow ow' b f := PSs_imp h fun D σ H ⟨st, c, Hs, s, p⟩ => ⟨st, c, Hs, s, p.weak hw⟩
theorem b_nil : DB X g E fx Hs0 H0 ow ow [] passS := PSs_imp pss_nil fun D σ H ⟨st, c, Hs, s, p⟩ => p σ Hs H s
theorem b_one (h : DS X g E fx Hs0 H0 ow ow' s f) : DB X g E fx Hs0 H0 ow ow' [s] f := pss_one h
theorem seq_of {D : Ends} {st : PSt} {c : Cu} (p : PostS g E fx Hs0 H0 ow' D (seqS f f' st c)) : PostS g E fx Hs0 H0 ow1 { D with nx := fun σ H => tS g E fx Hs0 H0 ow1 ow' f' D σ H } (f st c) := by
  unfold seqS at p
  cases ef : f st c with
  | no => rw [ef] at p; exact p
  | er x c' => rw [ef] at p; exact p
  | ok fl c' =>
    rw [ef, R.ok_bind] at p
    cases fl with
    | nx st' => exact fun σ' Hs' H' s => ⟨st', c', Hs', s, p⟩
    | rt d => exact p
theorem b_cons {s2 : Stmt} (h : DS X g E fx Hs0 H0 ow ow1 s f) (h2 : DB X g E fx Hs0 H0 ow1 ow' (s2 :: b) f') : DB X g E fx Hs0 H0 ow ow' (s :: s2 :: b) (seqS f f') :=
  PSs_imp (pss_cons h h2) fun D σ H ⟨st, c, Hs, s, p⟩ => ⟨st, c, Hs, s, seq_of p⟩
theorem SiS.re {st : PSt} {σ : St} {Hs H : Hp} {c : Cu} (s : SiS g fx Hs0 H0 ow Hs H c st σ) : SiS g fx Hs H0 ow Hs H c st σ := ⟨⟨Same.refl _, s.fn.bt, fun _ _ _ _ n => n, s.fn.sm, s.fn.cu⟩, s.sl, s.own, s.dis, s.fix⟩
theorem Fn.un {pc : Pc} {A0 B0 A1 B1 A2 B2 : Hp} {c1 c2 : Cu} (a : Fn pc A0 B0 A1 B1 c1) (b : Fn pc A1 B0 A2 B2 c2) : Fn pc A0 B0 A2 B2 c2 := ⟨a.ss.trans b.ss, b.bt, fun x o t e n => b.nw x o t e (a.nw x o t e n), b.sm, b.cu⟩
theorem SiS.un {st st' : PSt} {σ σ' : St} {Hs H Hs' H' : Hp} {c c' : Cu} {ow' : List Nat} (a : SiS g fx Hs0 H0 ow Hs H c st σ) (b : SiS g fx Hs H0 ow' Hs' H' c' st' σ') : SiS g fx Hs0 H0 ow' Hs' H' c' st' σ' := ⟨a.fn.un b.fn, b.sl, b.own, b.dis, b.fix⟩
theorem PSs_ex {α : Type} {b : List Stmt} {t : α → TS} (h : ∀ a, PSs X b (t a)) : PSs X b (fun D σ H => ∃ a, t a D σ H) := ⟨fun pins s σ H D I ⟨a, q⟩ => (h a).run pins s σ H D I q⟩
theorem s_for {t : Tg} {it : PM (List D)} {tg iter : Expr} (hp : PassesOwn (model X.prog X.w) X.A X.env X.xe) (hc : X.calm = true) (hi : DI X g E ow1 tg iter it) (hg : PG X tg (gOf g.K t)) (hb : ∀ Hs0, DB X g E fx Hs0 H0 ow1 ow1 b f)
    (hw : ∀ k ∈ ow1, k ∈ ow := by decide) (ht : ∀ k ∈ tgS t, k ∉ ow1 := by decide) (hs : ∀ x, foldedSetIterable iter X.env x = pure x := by intro _; rfl) : DS X g E fx Hs0 H0 ow ow1 (.For tg iter b [] pos) (forS t it f) := by
  refine PS_imp (ps_for hp hc hi hg (PSs_ex hb) hs) fun D σ H ⟨st, c, Hs, s, p⟩ => ?_
  obtain ⟨Hs1, e1, s1⟩ := s.weak hw
  refine ⟨st, c, Hs1, s1.sl, s1.fn.sm, s1.fn.cu, ps_er s1 p fun items c2 Hs2 H2 _ F q hlen J wJ => ?_⟩
  have s2 := s1.on F
  refine for_it (g := gOf g.K t) (tb := fun D σ H => ∃ a, tS g E fx a H0 ow1 ow1 f D σ H) (D := D) wJ (fun i σ' H' => ∃ st' c' Hs', SiS g fx Hs0 H0 ow1 Hs' H' c' st' σ' ∧ Same Hs2 Hs' ∧ PostS g E fx Hs0 H0 ow1 D (loopS t f (items.drop i) st' c')) ⟨st, c2, Hs2, s2, Same.refl _, by rw [List.drop_zero]; exact q⟩ ?_ ?_ ?_
  · rintro i σ' H' _ ⟨st', c', Hs', s', e', _⟩
    exact e'.trans s'.fn.sm
  · rintro i x σ' H' H'' hi ⟨st', c', Hs', s', e', pp⟩ y
    obtain ⟨d, Hs3, hd, F3, rx⟩ := y.step e' s'.fn.sm s'.fn.cu
    rw [drop_cons hd] at pp
    unfold loopS at pp
    have s3 := s'.on F3
    cases ea : asgT t d st' with
    | none => rw [ea] at pp; exact pp.elim
    | some st2 =>
      rw [ea, ofO_some, R.ok_bind] at pp
      refine asg_of F3.sm t d x st' st2 σ' _ s'.sl.1 rx ea fun σ2 a => ⟨Hs3, st2, c', Hs3, (s3.asg a ht).re, ?_⟩
      cases ef : f st2 c' with
      | no => rw [ef] at pp; exact pp
      | er z c4 => rw [ef] at pp; exact fun cls dx Hs' H' F x => pp cls dx Hs' H' (s3.fn.un F) x
      | ok fl c4 =>
        rw [ef, R.ok_bind] at pp
        cases fl with
        | nx st4 =>
          intro σ4 Hs4 H4 s4
          exact ⟨st4, c4, Hs4, s3.un s4, e'.trans (F3.ss.trans s4.fn.ss), pp⟩
        | rt d => exact fun v Hs' H' F r => pp v Hs' H' (s3.fn.un F) r
  · rintro σ' H' ⟨st', c', Hs', s', _, pp⟩
    rw [List.drop_length] at pp
    exact pp σ' Hs' H' s'
end
end L2.G
set_option Elab.async false
set_option linter.all false
set_option maxRecDepth 100000
set_option maxHeartbeats 2000000
namespace L2.G
open PySem PySem.Spec PyProof.Rows L2H
section
variable {X : Cx} {g : Ga} {E : XK} {fx : List (Nat × V)} {Hs0 H0 : Hp} {ow ow' ow1 ow2 hid : List Nat} {m mk me : PM D} {s : Stmt} {b : List Stmt} {f f' f1 f2 : PM Fl} {i j : Nat} {pos : Pos} {e : Expr}
/-- x.append(e) -/
theorem s_app (h : PS X s (tDrop (tBM X.K "list" rAppend (tVar i) (tCons (tE g E ow1 m) tNil)))) (hi : i ∈ ow1 := by decide) (hw : ∀ k ∈ ow1, k ∈ ow := by decide) : DS X g E fx Hs0 H0 ow ow1 s (appS i m) := by
  refine PS_imp h fun D σ H ⟨st, c, Hs, s, p⟩ => ?_
  obtain ⟨Hs1, e1, s1⟩ := s.weak hw
  unfold appS at p
  split at p
  · rename_i ds hd
    obtain ⟨a, vs, ea, e5, e6, e7⟩ := s1.lst hi hd
    refine ⟨.ref a, ea, .inl ⟨rfl, vs, .inl (.inl e5)⟩, s1.toE (ps_er s1 p fun d c2 Hs2 H2 _ F q v r => ?_)⟩
    have s2 := s1.on F
    split at q
    · rename_i hl
      obtain ⟨a', vs', ea', f5, f6, f7⟩ := s2.lst hi hd
      rw [ea] at ea'
      cases ea'
      have l1 := f7.length
      refine ⟨a, vs', v, rfl, rfl, f5, by omega, q σ Hs2 _ (s2.chg hi hd ea (by simp; omega) (f7.append (rll_cons.mpr ⟨v, [], rfl, r, rll_nil.mpr rfl⟩)))⟩
    · exact q.elim
  · exact p.elim
theorem put_of {st st' : PSt} {σ : St} {Hs H : Hp} {c : Cu} {k d : D} {kv v : V} {Q : Hp → Prop} {a : Addr} (s : SiS g fx Hs0 H0 ow Hs H c st σ) (hi : i ∈ ow) (ha : σ[i]? = some (some (.ref a))) (rk : Rl g Hs k kv) (rd : Rl g Hs d v) (e : putF1 i k d st = some st')
    (q : ∀ H', SiS g fx Hs0 H0 ow Hs H' c st' σ → Q H') : cSet (.ref a) kv v H Q := by
  unfold putF1 at e
  split at e
  · rename_i ds j hd
    obtain ⟨n, hn, rfl⟩ := Option.map_eq_some_iff.mp e
    obtain ⟨a', vs, ea, f5, f6, f7⟩ := s.lst hi hd
    rw [ha] at ea
    cases ea
    rw [rl_int.mp rk]
    unfold cSet
    dsimp only
    rw [f5]
    dsimp only
    rw [f7.length, hn]
    dsimp only
    exact q _ (s.chg hi hd ha (by rw [List.length_set]; exact f6) (f7.set n rd))
  · cases e
theorem sc_mono {Hs Hs' : Hp} {k : D} {kv : V} (hsc : scD k = true) (rk : Rl g Hs k kv) : Rl g Hs' k kv := by
  cases k with
  | non => exact rl_non.mpr (rl_non.mp rk)
  | bl b => exact rl_bl.mpr (rl_bl.mp rk)
  | int b => exact rl_int.mpr (rl_int.mp rk)
  | str b => exact rl_str.mpr (rl_str.mp rk)
  | _ => cases hsc
theorem slot_of {st : PSt} {σ : St} {Hs H : Hp} {c : Cu} {ds : List D} (s : SiS g fx Hs0 H0 ow Hs H c st σ) (hi : i ∈ ow) (hd : st[i]? = some (some (.lst ds))) : ∃ a, σ[i]? = some (some (.ref a)) := by
  obtain ⟨a', vs, ea, _⟩ := s.lst hi hd
  exact ⟨a', ea⟩
/-- a scalar expression between, the state as it was -/
theorem scal_of {st : PSt} {σ : St} {Hs H : Hp} {c : Cu} {Dn : Ends} {ow3 : List Nat} {k : D → Cu → R Fl} {Q : VK} (s : SiS g fx Hs0 H0 ow Hs H c st σ) (hw : ∀ k ∈ ow1, k ∈ ow) (p : PostS g E fx Hs0 H0 ow3 Dn ((scalD m st c).bind k))
    (h : ∀ d c1 H1 v, scD d = true → SiS g fx Hs0 H0 ow Hs H1 c1 st σ → (∀ b o, Off g.pc b → Nt o → H b = some o → H1 b = some o) → Rl g Hs d v → PostS g E fx Hs0 H0 ow3 Dn (k d c1) → Q v H1) : tE g E ow1 m σ H Q := by
  obtain ⟨Hs1, e1, s1⟩ := s.weak hw
  refine s1.toE ?_
  unfold scalD at p
  cases ek : m st c with
  | no => rw [ek] at p; exact p.elim
  | er x c' => rw [ek] at p; exact fun cls dx Hs' H' F x => p cls dx Hs' H' (s1.fn.trans F) x
  | ok d c' =>
    rw [ek, R.ok_bind] at p
    by_cases hsc : scD d = true
    · rw [if_pos hsc, R.ok_bind] at p
      exact fun Hs4 H4 F4 v r => h d c' H4 v hsc (s.back e1 F4) F4.bt (sc_mono hsc r) p
    · rw [if_neg hsc] at p
      exact p.elim
/-- x[k] = e -/
theorem s_setI (h : PS X s (tAsg (tE g E ow1 me) (gSub (tVar i) (tE g E ow2 mk) cSet))) (hi : i ∈ ow1 := by decide) (hw : ∀ k ∈ ow1, k ∈ ow := by decide) (hw2 : ∀ k ∈ ow2, k ∈ ow1 := by decide) : DS X g E fx Hs0 H0 ow ow1 s (setIS i mk me) := by
  refine PS_imp h fun D σ H ⟨st, c, Hs, s, p⟩ => ?_
  obtain ⟨Hs1, e1, s1⟩ := s.weak hw
  unfold setIS at p
  split at p
  · rename_i ds hd
    obtain ⟨a, ha⟩ := slot_of s1 hi hd
    refine s1.toE (ps_er s1 p fun d c2 Hs2 H2 _ F q v r => ?_)
    have s2 := s1.on F
    refine ⟨.ref a, ha, scal_of s2 hw2 q fun k c3 H3 kv hsc s3 _ rk q3 => ?_⟩
    cases ep : putF1 i k d st with
    | none => rw [ep] at q3; exact q3.elim
    | some st' =>
      rw [ep] at q3
      exact put_of s3 hi ha rk r ep fun H' s' => q3 σ Hs2 H' s'
  · exact p.elim
/-- x[k] = e, e a scalar -/
theorem s_setIs (h : PS X s (tAsg (tE g E ow1 me) (gSub (tVar i) (tE g E ow2 mk) cSet))) (hi : i ∈ ow := by decide) (hw : ∀ k ∈ ow1, k ∈ ow := by decide) (hw2 : ∀ k ∈ ow2, k ∈ ow := by decide) : DS X g E fx Hs0 H0 ow ow s (setISs i mk me) := by
  refine PS_imp h fun D σ H ⟨st, c, Hs, s, p⟩ => ?_
  unfold setISs setIS at p
  split at p
  · rename_i ds hd
    obtain ⟨a, ha⟩ := slot_of s hi hd
    refine scal_of s hw p fun d c2 H2 v hsd s2 _ r q => ⟨.ref a, ha, scal_of s2 hw2 q fun k c3 H3 kv hsc s3 _ rk q3 => ?_⟩
    cases ep : putF1 i k d st with
    | none => rw [ep] at q3; exact q3.elim
    | some st' =>
      rw [ep] at q3
      exact put_of s3 hi ha rk r ep fun H' s' => q3 σ Hs H' s'
  · exact p.elim
/-- x[k] of a list, from the left -/
def cGet : V → V → Hp → VK → Prop := fun o i H Q => ∃ (p : Addr) (xs : List V) (k : Int) (v : V), o = .ref p ∧ i = .int k ∧ H p = some (.lst xs) ∧ 0 ≤ k ∧ k < xs.length ∧ xs[k.toNat]? = some v ∧ Q v H
theorem get_c : PGet X cGet := by
  rintro pins s σ H o i ov iv Q I r1 r2 ⟨p, xs, k, v, rfl, rfl, hp, h0, h1, hv, q⟩
  cases (show ov = Value.ref p from r1)
  obtain ⟨t, rfl⟩ := r2
  obtain ⟨its, rv, pl, hz⟩ := I.list (Or.inl (Or.inl hp))
  obtain ⟨u, hu, ru⟩ := rv.get hv
  have hl := rv.length
  have hn := line63
  have hs := sizeLine_eq
  exact wpAny_getItem_list pl.isList h0 (by omega) (by simpa using hu) ⟨v, H, I, ru, q⟩
theorem ixN_nn {n : Nat} {k : Int} {j : Nat} (h : ixN n k = some j) (h0 : 0 ≤ k) : k < n ∧ j = k.toNat := by
  unfold ixN at h
  rw [if_pos h0] at h
  split at h
  · rename_i h1
    cases h
    exact ⟨h1, rfl⟩
  · cases h
/-- x[k] op= e, scalars, k from the left -/
theorem s_augI {op : Operator} {fo : D → D → Option D} (ho : OpD X g (inplaceOp op) fo) (h : ∀ r, OpR X (inplaceOp op) r → PS X s (tAugS (tVar i) (tE g E ow1 mk) (tE g E ow2 me) cGet r cSet)) (hi : i ∈ ow := by decide) (hw : ∀ k ∈ ow1, k ∈ ow := by decide) (hw2 : ∀ k ∈ ow2, k ∈ ow := by decide) : DS X g E fx Hs0 H0 ow ow s (augIS i fo mk me) := by
  obtain ⟨r, ho, hr⟩ := ho
  refine PS_imp (h r ho) fun D σ H ⟨st, c, Hs, s, p⟩ => ?_
  unfold augIS at p
  split at p
  · rename_i ds hd
    obtain ⟨a, ha⟩ := slot_of s hi hd
    refine ⟨.ref a, ha, scal_of s hw p fun k c2 H2 kv hsc s2 _ rk q => ?_⟩
    obtain ⟨a', vs, ea, f5, f6, f7⟩ := s2.lst hi hd
    rw [ha] at ea
    cases ea
    cases ex : ixL ds k with
    | none => rw [ex] at q; exact q.elim
    | some x =>
      rw [ex, ofO_some, R.ok_bind] at q
      by_cases hsx : scD x = true
      · rw [if_pos hsx] at q
        cases k <;> simp only [ixL, Option.ite_none_right_eq_some, reduceCtorEq] at ex
        rename_i j
        obtain ⟨h0, ex2⟩ := ex
        have h1 := (List.getElem?_eq_some_iff.mp ex2).1
        obtain ⟨xv, e1, rx⟩ := f7.get ex2
        have l1 := f7.length
        refine ⟨a, vs, j, xv, rfl, rl_int.mp rk, f5, h0, by omega, e1, scal_of s2 hw2 q fun y c3 H3 yv hsy s3 _ ry q3 => ?_⟩
        cases ef : fo x y with
        | none => rw [ef] at q3; exact q3.elim
        | some z =>
          rw [ef, ofO_some, R.ok_bind] at q3
          cases ep : putF1 i (.int j) z st with
          | none => rw [ep] at q3; exact q3.elim
          | some st' =>
            rw [ep] at q3
            refine hr Hs H3 c3 x y xv yv z _ s3.fn.sm s3.fn.cu rx ry ef fun Hs4 H4 zv F4 rz => ?_
            exact put_of (s3.on F4) hi ha (rl_int.mpr (rl_int.mp rk)) rz ep fun H' s' => q3 σ Hs4 H' s'
      · rw [if_neg hsx] at q
        exact q.elim
  · exact p.elim
/-- name op= e -/
theorem s_aug {op : Operator} {fo : D → D → Option D} (ho : OpD X g (inplaceOp op) fo) (h : ∀ r, OpR X (inplaceOp op) r → PS X s (tAug i (tE g E ow1 m) r)) (hw : ∀ k ∈ ow1, k ∈ ow := by decide) (hi : i ∉ ow := by decide) : DS X g E fx Hs0 H0 ow ow1 s (augS i fo m) := by
  obtain ⟨r, ho, hr⟩ := ho
  refine PS_imp (h r ho) fun D σ H ⟨st, c, Hs, s, p⟩ => ?_
  obtain ⟨Hs1, e1, s1⟩ := s.weak hw
  unfold augS at p
  split at p
  · rename_i x hd
    have hi1 : i ∉ ow1 := fun z => hi (hw i z)
    obtain ⟨xv, hx, rx⟩ := s1.sl.2 i x hi1 hd
    refine ⟨xv, hx, s1.toE (ps_er s1 p fun y c2 Hs2 H2 _ F q yv ry => ?_)⟩
    cases ef : fo x y with
    | none => rw [ef] at q; exact q.elim
    | some z =>
      rw [ef, ofO_some, R.ok_bind] at q
      refine hr Hs2 H2 c2 x y xv yv z _ F.sm F.cu (Rl.mono F.ss x xv rx) ry ef fun Hs4 H4 zv F4 rz => ?_
      exact q _ Hs4 H4 ((s1.on (F.trans F4)).asg (asg_nm s1.sl.1 rz) (by simpa using hi1))
  · exact p.elim
/-- a, b = x, y -/
theorem s_par {ms : List (PM D)} (h : PS X s (tPar i j (tA g E ow1 (aD ms)))) (hw : ∀ k ∈ ow1, k ∈ ow := by decide) (hi : i ∉ ow1 := by decide) (hj : j ∉ ow1 := by decide) : DS X g E fx Hs0 H0 ow ow1 s (parS i j ms) := by
  refine PS_imp h fun D σ H ⟨st, c, Hs, s, p⟩ => ?_
  obtain ⟨Hs1, e1, s1⟩ := s.weak hw
  refine ⟨st, c, Hs1, s1.sl, s1.fn.sm, s1.fn.cu, ps_er s1 p fun ds c2 Hs2 H2 _ F q vs rs => ?_⟩
  match ds, rs, q with
  | [x, y], rs, q =>
    obtain ⟨v, u, rfl, r1, r2⟩ := two_of rs
    refine ⟨v, u, rfl, q _ Hs2 H2 (((s1.on F).asg (asg_nm s1.sl.1 r1) (by simpa using hi)).asg (asg_nm (by rw [List.length_set, List.length_set]; exact s1.sl.1) r2) (by simpa using hj))⟩
  | [], rs, q => exact q.elim
  | [_], rs, q => exact q.elim
  | _ :: _ :: _ :: _, rs, q => exact q.elim
theorem s_wh {t : PM Bool} {tst : Expr} (n : Nat) (hp : PassesOwn (model X.prog X.w) X.A X.env X.xe) (ht : DT X g E ow1 tst t) (hb : DB X g E fx Hs0 H0 ow ow b f) (hw : ∀ k ∈ ow1, k ∈ ow := by decide) : DS X g E fx Hs0 H0 ow ow (.While tst b [] pos) (whS t f n) := by
  refine PS_imp (ps_while hp ht hb) fun D σ H ⟨st, c, Hs, s, p⟩ => ?_
  refine ⟨fun k σ' H' => ∃ st' c' Hs', SiS g fx Hs0 H0 ow Hs' H' c' st' σ' ∧ PostS g E fx Hs0 H0 ow D (whS t f k st' c'), ⟨n, st, c, Hs, s, p⟩, ?_⟩
  rintro k σ' H' ⟨st', c', Hs', s', p'⟩
  cases k with
  | zero => exact p'.elim
  | succ k =>
    obtain ⟨Hs1, e1, s1⟩ := s'.weak hw
    refine ⟨st', c', Hs1, s1.sl, s1.fn.sm, s1.fn.cu, ps_er s1 p' fun b c2 Hs2 H2 _ F q => ?_⟩
    have s2 := s'.back e1 F
    cases b with
    | false =>
      rw [if_neg (by decide)] at q
      show if false = true then _ else _
      rw [if_neg (by decide)]
      exact q σ' Hs' H2 s2
    | true =>
      rw [if_pos rfl] at q
      show if true = true then _ else _
      rw [if_pos rfl]
      refine ⟨fun σ3 H3 => ∃ st3 c3 Hs3, SiS g fx Hs0 H0 ow Hs3 H3 c3 st3 σ3 ∧ PostS g E fx Hs0 H0 ow D (whS t f k st3 c3), fun σ3 H3 h3 => ⟨k, Nat.lt_succ_self k, h3⟩, st', c2, Hs', s2, ?_⟩
      cases ef : f st' c2 with
      | no => rw [ef] at q; exact q
      | er x c4 => rw [ef] at q; exact q
      | ok fl c4 =>
        rw [ef, R.ok_bind] at q
        cases fl with
        | nx st4 => exact fun σ4 Hs4 H4 s4 => ⟨st4, c4, Hs4, s4, q⟩
        | rt d => exact q
/-- raise C(e), the error's one field -/
theorem s_ra {C : Addr} {cls fld : Str} {ms : List (PM D)} (h : PS X s (fun _ σ H => tErr C fld (tA g E ow1 (aD ms)) σ H fun cls d H' => E cls d H')) (hC : g.cm cls = C) (hms : ms.length = 1 := by rfl) (hw : ∀ k ∈ ow1, k ∈ ow := by decide) : DS X g E fx Hs0 H0 ow ow' s (raS cls [fld] ms) := by
  refine PS_imp h fun D σ H ⟨st, c, Hs, s, p⟩ => ?_
  obtain ⟨Hs1, e1, s1⟩ := s.weak hw
  refine ⟨st, c, Hs1, s1.sl, s1.fn.sm, s1.fn.cu, ps_er s1 p fun ds c2 Hs2 H2 e F q vs rs => ?_⟩
  have hl := aD_len e
  rw [hms] at hl
  match ds, hl, rs, q with
  | [x], _, rs, q =>
    obtain ⟨v, rfl, r⟩ := one_of rs
    refine ⟨v, rfl, fun d hd => q _ _ (upd Hs2 d (.xd [(fld, v)])) _ (s1.fn.trans (F.trans (Fn.new F.sm F.cu hd))) ⟨by rw [hC], d, _, rfl, upd_same, rfl, ?_⟩⟩
    exact rll_cons.mpr ⟨v, [], rfl, Rl.mono (same_new (F.sm.free hd)) x v r, rll_nil.mpr rfl⟩
end
end L2.G
set_option Elab.async false
set_option linter.all false
set_option maxRecDepth 100000
set_option maxHeartbeats 2000000
namespace L2.G
open PySem PySem.Spec PyProof.Rows L2H
/-! defs by data -/
abbrev Fd := List D → Cu → R D
def fnD (k n : Nat) (f : PM Fl) : Fd := fun ds c => if ds.length = k then (f (ds.map some ++ List.replicate (n - k) none) c).bind fun fl c => match fl with
    | .rt d => .ok d c
    | .nx _ => .ok .non c
  else .no
/-- a def that lets no error out -/
def noE (m : Fd) : Fd := fun ds c => match m ds c with
  | .er _ _ => .no
  | r => r
def NoEr (m : Fd) : Prop := ∀ ds c x c', m ds c ≠ .er x c'
theorem noE_no (m : Fd) : NoEr (noE m) := by
  intro ds c x c' h
  unfold noE at h
  split at h
  · cases h
  · rename_i r hr
    exact hr x c' h
def spD (K : PySem.W.Frag) (cm : Str → Addr) (cs : List Str) (m : Fd) : Sp := fun vs H Q E => ∃ (pc : Pc) (Hs : Hp) (ds : List D) (c : Cu), Same Hs H ∧ CupAt pc Hs H c ∧ RlL ⟨K, cm, cs, pc⟩ Hs ds vs ∧ Post ⟨K, cm, cs, pc⟩ E Hs H (m ds c) fun d _ Hs' H' => ∀ v, Rl ⟨K, cm, cs, pc⟩ Hs' d v → Q v H'
/-- the same for a def of the law: the tables are told -/
def spL (K : PySem.W.Frag) (cm : Str → Addr) (cs : List Str) (T : List (Addr × Str)) (m : Fd) : Sp := fun vs H Q E => ∃ (cup : Option Addr) (Hs : Hp) (ds : List D) (c : Cu), Same Hs H ∧ CupAt ⟨cup, T⟩ Hs H c ∧ RlL ⟨K, cm, cs, ⟨cup, T⟩⟩ Hs ds vs ∧ Post ⟨K, cm, cs, ⟨cup, T⟩⟩ E Hs H (m ds c) fun d _ Hs' H' => ∀ v, Rl ⟨K, cm, cs, ⟨cup, T⟩⟩ Hs' d v → Q v H'
theorem spL_spD {K : PySem.W.Frag} {cm : Str → Addr} {cs : List Str} {T : List (Addr × Str)} {m : Fd} : ∀ vs H Q E, spL K cm cs T m vs H Q E → spD K cm cs m vs H Q E := fun vs H Q E ⟨cup, Hs, ds, c, h⟩ => ⟨⟨cup, T⟩, Hs, ds, c, h⟩
theorem spD_len {K : PySem.W.Frag} {cm : Str → Addr} {cs : List Str} {k n : Nat} {f : PM Fl} : ∀ vs H Q E, spD K cm cs (fnD k n f) vs H Q E → vs.length = k := by
  rintro vs H Q E ⟨pc, Hs, ds, c, _, _, r, p⟩
  rw [r.length]
  unfold fnD at p
  by_cases h : ds.length = k
  · exact h
  · rw [if_neg h] at p
    exact p.elim
theorem spD_lenN {K : PySem.W.Frag} {cm : Str → Addr} {cs : List Str} {k n : Nat} {f : PM Fl} : ∀ vs H Q E, spD K cm cs (noE (fnD k n f)) vs H Q E → vs.length = k := by
  rintro vs H Q E ⟨pc, Hs, ds, c, _, _, r, p⟩
  rw [r.length]
  unfold noE fnD at p
  by_cases h : ds.length = k
  · exact h
  · rw [if_neg h] at p
    exact p.elim
theorem start_len {N : List Str} {vs : List V} : (start N vs).length = vs.length + (N.length - vs.length) := by
  unfold start
  rw [List.length_append, List.length_map, List.length_replicate]
theorem sis_start {g : Ga} {Hs H : Hp} {c : Cu} {ds : List D} {vs : List V} {N : List Str} {k : Nat} (sm : Same Hs H) (cu : CupAt g.pc Hs H c) (r : RlL g Hs ds vs) (hk : ds.length = k) : SiS g [] Hs H [] Hs H c (ds.map some ++ List.replicate (N.length - k) none) (start N vs) := by
  have l := r.length
  refine ⟨Fn.refl sm cu, ⟨?_, fun i d _ e => ?_⟩, fun i hi => absurd hi (by simp), fun i hi => absurd hi (by simp), fun i hi => absurd hi (by simp)⟩
  · rw [start_len, List.length_append, List.length_map, List.length_replicate, l, hk]
  · by_cases hi : i < ds.length
    · rw [List.getElem?_append_left (by rw [List.length_map]; exact hi), List.getElem?_map] at e
      cases hd : ds[i]? with
      | none => rw [hd] at e; cases e
      | some d' =>
        rw [hd] at e
        cases e
        obtain ⟨v, h1, h2⟩ := r.get hd
        refine ⟨v, ?_, h2⟩
        unfold start
        rw [List.getElem?_append_left (by rw [List.length_map]; omega), List.getElem?_map, h1]
        rfl
    · rw [List.getElem?_append_right (by rw [List.length_map]; omega)] at e
      have := List.mem_of_getElem? e
      rw [List.mem_replicate] at this
      cases this.2
theorem post_fn {g : Ga} {E : XK} {Hs H : Hp} {Q : VK} {r : R Fl} {ow : List Nat} (p : Post g E Hs H (r.bind fun fl c => match fl with
    | .rt d => .ok d c
    | .nx _ => .ok .non c) fun d _ Hs' H' => ∀ v, Rl g Hs' d v → Q v H') : PostS g E [] Hs H ow { nx := fun _ H' => Q .non H', rt := Q } r := by
  cases r with
  | no => exact p
  | er x c => exact p
  | ok fl c =>
    cases fl with
    | nx st => exact fun σ' Hs' H' s => p Hs' H' s.fn .non (rl_non.mpr rfl)
    | rt d => exact fun v Hs' H' F r => p Hs' H' F v r
section
variable {P : Program} {w : World} {K : PySem.W.Frag} {mg : Str → Option Value} {base : Heap} {k : Nat} {f : Addr} {fd : FuncData} {ps N : List Str} {cm : Str → Addr} {cs : List Str} {ow : List Nat} {fb : PM Fl} {x qual : Str} {st : Stmt}
/-- a def of the program -/
theorem _root_.L2.Fun.okD (F : Fun K x qual st f fd) (S : FnScope N ps (defScope st))
    (hb : ∀ (cdv : Value) (A : Around) (outer : List Env) (s : Shared) (H Hs : Hp) (E : XK) (pc : Pc), Room k (A.deeper (envOfC qual (defScope st) s.heap.objs.size f cdv)) →
      DB (cxOf (CN P w) P w K mg base N qual (defScope st) f cdv A outer s H E) ⟨K, cm, cs, pc⟩ E [] Hs H [] ow (defBody st) fb) : FnOk P w K mg base (CN P w) (k + 1) f fd ps (spD K cm cs (fnD ps.length N.length fb)) := by
  refine F.okN S spD_len fun cdv A outer s H vs Q E hr h => ?_
  obtain ⟨pc, Hs, ds, c, sm, cu, r, p⟩ := h
  unfold fnD at p
  by_cases hl : ds.length = ps.length
  · rw [if_pos hl] at p
    exact ⟨_, hb cdv A outer s H Hs E pc hr, _, c, Hs, sis_start sm cu r hl, post_fn p⟩
  · rw [if_neg hl] at p
    exact p.elim
/-- a def by its body, its code told -/
theorem _root_.L2.Fun.okGC {sp : Sp} {cdv : Value} (F : Fun K x qual st f fd) (hc : fd.code = cdv) (S : FnScope N ps (defScope st)) (len : ∀ vs H Q E, sp vs H Q E → vs.length = ps.length)
    (hbody : ∀ (A : Around) (outer : List Env) (s : Shared) (H : Hp) (vs : List V) (Q : VK) (E : XK), Quiet (A.deeper (envOfC qual (defScope st) s.heap.objs.size f cdv)) → Room k (A.deeper (envOfC qual (defScope st) s.heap.objs.size f cdv)) → sp vs H Q E →
      ∃ t, PSs (cxOf CX0 P w K mg base N qual (defScope st) f cdv A outer s H E).nox (defBody st) t ∧ t { nx := fun _ H' => Q .non H', rt := Q } (start N vs) H) : FnOkG P w K mg base CX0 (k + 1) f fd ps sp := by
  obtain ⟨oc, od, kV, doc, pm, an, cdv', ct, osl, e, lk, hcd⟩ := F.ex
  subst e
  have e : cdv' = cdv := hc
  subst e
  refine fn_ofG lk hcd S len fun A outer s H vs Q E qt hr hs => ?_
  obtain ⟨t, h, q⟩ := hbody A outer s H vs Q E qt hr hs
  exact ⟨t, h.nox, q⟩
theorem spL_lenN {K : PySem.W.Frag} {cm : Str → Addr} {cs : List Str} {T : List (Addr × Str)} {k n : Nat} {f : PM Fl} : ∀ vs H Q E, spL K cm cs T (noE (fnD k n f)) vs H Q E → vs.length = k := fun vs H Q E h => spD_lenN vs H Q E (spL_spD vs H Q E h)
/-- a def of the law -/
theorem _root_.L2.Fun.okL {T : List (Addr × Str)} {cdv : Value} (F : Fun K x qual st f fd) (hc : fd.code = cdv) (S : FnScope N ps (defScope st))
    (hb : ∀ (A : Around) (outer : List Env) (s : Shared) (H Hs : Hp) (E : XK) (cup : Option Addr), Quiet (A.deeper (envOfC qual (defScope st) s.heap.objs.size f cdv)) → Room k (A.deeper (envOfC qual (defScope st) s.heap.objs.size f cdv)) →
      DB (cxOf CX0 P w K mg base N qual (defScope st) f cdv A outer s H E).nox ⟨K, cm, cs, ⟨cup, T⟩⟩ EF [] Hs H [] ow (defBody st) fb) : FnOkG P w K mg base CX0 (k + 1) f fd ps (spL K cm cs T (noE (fnD ps.length N.length fb))) := by
  refine F.okGC hc S spL_lenN fun A outer s H vs Q E qt hr h => ?_
  obtain ⟨cup, Hs, ds, c, sm, cu, r, p⟩ := h
  unfold noE fnD at p
  by_cases hl : ds.length = ps.length
  · rw [if_pos hl] at p
    refine ⟨_, hb A outer s H Hs E cup qt hr, _, c, Hs, sis_start (g := ⟨K, cm, cs, ⟨cup, T⟩⟩) sm cu r hl, post_fn ?_⟩
    revert p
    cases (fb (ds.map some ++ List.replicate (N.length - ps.length) none) c).bind fun fl c => match fl with
      | .rt d => R.ok d c
      | .nx _ => .ok .non c with
    | no => exact fun z => z
    | ok d c => exact fun z => z
    | er x c => exact fun z => z.elim
  · rw [if_neg hl] at p
    exact p.elim
end
section
variable {X : Cx} {g : Ga} {E : XK} {hid : List Nat} {ms : List (PM D)} {mo : PM D} {m : Fd} {x name C : Str} {k j : Nat} {p pos apos : Pos} {e o : Expr} {es : List Expr}
theorem call_of {H : Hp} {Hs : Hp} {c : Cu} {ds : List D} {vs : List V} {Q : VK} (sm : Same Hs H) (cu : CupAt g.pc Hs H c) (r : RlL g Hs ds vs) (p : Post g E Hs H (m ds c) fun d _ Hs' H' => ∀ v, Rl g Hs' d v → Q v H') : spD g.K g.cm g.cs m vs H Q E := ⟨g.pc, Hs, ds, c, sm, cu, r, p⟩
/-- f(e, ..), f of the program -/
theorem d_ca (c : CalN X.prog X.w X.K X.mg X.base k x (spD g.K g.cm g.cs m)) (hx : Passes (CN X.prog X.w) X E) (hr : Room j X.A) (hk : k ≤ j) (hg : Gl X x) (ha : DA X g E hid (e :: es) (aD ms))
    (hdb : (x == ("__debug__" : Str)) = false := by decide) (he : starEach (e :: es) X.env = (false, eval e X.env) :: starEach es X.env := by rfl) (hpl : (backTo pos (starEach es X.env)).any (·.1) = false := by rfl) :
    DE X g E hid (.Call (.Name x p) (e :: es) [] pos) (caD m ms) :=
  PE_imp (pe_cN c hx hr hk hg ha hdb he hpl) fun σ H Q ⟨st, c, Hs, sl, sm, cu, p⟩ => ⟨st, c, Hs, sl, sm, cu, (Post.bind p).mono fun ds c1 Hs1 H1 _ F1 q vs rs => by
    show spD g.K g.cm g.cs m (vs ++ []) H1 Q E
    rw [List.append_nil]
    exact call_of F1.sm F1.cu rs q⟩
/-- f(e, ..), f of the law -/
theorem d_cl (c : CalG X.prog X.w X.K X.mg X.base k x (spL g.K g.cm g.cs g.pc.tabs m)) (hm : NoEr m) (qt : Quiet X.A) (hr : Room j X.A) (hk : k ≤ j) (hg : Gl X x) (ha : DA X g E hid (e :: es) (aD ms))
    (hdb : (x == ("__debug__" : Str)) = false := by decide) (he : starEach (e :: es) X.env = (false, eval e X.env) :: starEach es X.env := by rfl) (hpl : (backTo pos (starEach es X.env)).any (·.1) = false := by rfl) :
    DE X g E hid (.Call (.Name x p) (e :: es) [] pos) (caD m ms) := by
  refine PE_imp (pe_cG c qt hr hk hg ha hdb he hpl) fun σ H Q ⟨st, c, Hs, sl, sm, cu, p⟩ => ⟨st, c, Hs, sl, sm, cu, (Post.bind p).mono fun ds c1 Hs1 H1 _ F1 q vs rs => ?_⟩
  show spL g.K g.cm g.cs g.pc.tabs m (vs ++ []) H1 Q E0
  rw [List.append_nil]
  refine ⟨g.pc.cup, Hs1, ds, c1, F1.sm, F1.cu, rs, ?_⟩
  cases er : m ds c1 with
  | no => rw [er] at q; exact q
  | ok d c => rw [er] at q; exact q
  | er y c => exact absurd er (hm ds c1 y c)
/-! methods, properties, fields -/
def meD (C name : Str) (m : Fd) (mo : PM D) (ms : List (PM D)) : PM D := fun st c => (mo st c).bind fun o c => match o with
  | .ins C' ns _ => if C' = C ∧ name ∉ ns then (aD ms st c).bind fun xs c => m (o :: xs) c else .no
  | _ => .no
def prD (C : Str) (m : Fd) (mo : PM D) : PM D := fun st c => (mo st c).bind fun o c => match o with
  | .ins C' _ _ => if C' = C then m [o] c else .no
  | _ => .no
def fldF (C f : Str) : D → Option D
  | .ins C' ns ds => if C' = C then (ns.zip ds).lookup f else none
  | _ => none
theorem lookup_of {g : Ga} {Hs : Hp} {name : Str} : ∀ {gs : List (Str × V)} {ns : List Str} {ds : List D}, gs.map (·.1) = ns → RlL g Hs ds (gs.map (·.2)) →
    (name ∉ ns → gs.lookup name = none) ∧ ∀ d, (ns.zip ds).lookup name = some d → ∃ v, gs.lookup name = some v ∧ Rl g Hs d v
  | [], ns, ds, h, r => by
    subst h
    exact ⟨fun _ => rfl, fun d e => by simp at e⟩
  | (n, v) :: gs, ns, ds, h, r => by
    subst h
    cases ds with
    | nil =>
      have := r.length
      simp at this
    | cons d ds =>
      obtain ⟨v', r', e, h1, h2⟩ := rll_cons.mp r
      simp only [List.map_cons, List.cons.injEq] at e
      obtain ⟨rfl, rfl⟩ := e
      obtain ⟨i1, i2⟩ := lookup_of (name := name) rfl h2
      constructor
      · intro hn
        simp only [List.map_cons, List.mem_cons, not_or] at hn
        rw [List.lookup_cons]
        have : (name == n) = false := by simpa using hn.1
        rw [this]
        exact i1 hn.2
      · intro d' e
        rw [List.map_cons, List.zip_cons_cons, List.lookup_cons] at e
        rw [List.lookup_cons]
        by_cases z : name = n
        · subst z
          simp only [beq_self_eq_true, cond_true] at e ⊢
          cases e
          exact ⟨v, rfl, h1⟩
        · have : (name == n) = false := by simpa using z
          rw [this] at e ⊢
          exact i2 d' e
structure PrpN (P : Program) (w : World) (K : PySem.W.Frag) (mg : Str → Option Value) (base : Heap) (k : Nat) (C : Addr) (m : Str) (sp : Sp) : Prop where
  ex : ∃ (p f : Addr) (fd : FuncData) (ps : List Str), Cls K C ∧ PropOf K C m p f ∧ FnOk P w K mg base (CN P w) k f fd ps sp ∧ Binds K fd ps []
/-- o.m(e, ..) -/
theorem d_me {pl : Sem Bool} (c : MetN X.prog X.w X.K X.mg X.base k (g.cm C) name (spD g.K g.cm g.cs m)) (hx : Passes (CN X.prog X.w) X E) (hr : Room j X.A) (hk : k ≤ j) (ho : DE X g E hid o mo) (ha : DA X g E hid (e :: es) (aD ms))
    (hst : starEach (e :: es) X.env = (false, eval e X.env) :: starEach es X.env := by rfl) (hpl : (backTo pos (starEach es X.env)).any (·.1) = false := by rfl)
    (ht : eval (.Call (.Attribute o name apos) (e :: es) [] pos) X.env = (do
      let ov ← eval o X.env
      standAt apos.atName
      let (f, first) ← holding [ov] (getMethod ov name pl)
      callWith pos f first (backTo pos (starEach (e :: es) X.env)) (backToKw pos (keywordEach [] X.env))) := by rfl) :
    DE X g E hid (.Call (.Attribute o name apos) (e :: es) [] pos) (meD C name m mo ms) := by
  refine PE_imp (pe_mtN (pl := pl) c hx hr hk ho ha hst hpl ht) fun σ H Q ⟨st, c, Hs, sl, sm, cu, p⟩ => ⟨st, c, Hs, sl, sm, cu, (Post.bind p).mono fun x c1 Hs1 H1 _ F1 q v1 r1 => ?_⟩
  cases x with
  | ins C' ns ds =>
    dsimp only at q
    split at q
    · rename_i h
      obtain ⟨rfl, hn⟩ := h
      obtain ⟨hC, a, dx, gs, rfl, ha, h1, h2⟩ := rl_ins.mp r1
      refine ⟨a, dx, gs, rfl, F1.sm _ _ ha, (lookup_of h1 h2).1 hn, st, c1, Hs1, sl.mono F1.ss, F1.sm, F1.cu, (Post.bind q).mono fun xs c2 Hs2 H2 _ F2 q2 vs rs => ?_⟩
      show spD g.K g.cm g.cs m (_ :: (vs ++ [])) H2 Q E
      rw [List.append_nil]
      exact call_of F2.sm F2.cu (rll_cons.mpr ⟨_, _, rfl, Rl.mono F2.ss _ _ r1, rs⟩) q2
    · exact q.elim
  | _ => exact q.elim
/-- o.f, f a property -/
theorem d_pr (c : PrpN X.prog X.w X.K X.mg X.base k (g.cm C) name (spD g.K g.cm g.cs (noE m))) (hr : Room j X.A) (hk : k + 1 ≤ j) (ho : DE X g E hid o mo) (hab : attributeBase o name X.env (eval o X.env) = eval o X.env := by rfl) :
    DE X g E hid (.Attribute o name pos) (prD C (noE m) mo) := by
  obtain ⟨p, f, fd, ps, cl, hp, F, b⟩ := c.ex
  refine PE_imp (pe_prop ho cl hp F (hr.mono hk) b .nil (ps0 (X := X.nox)) hab) fun σ H Q ⟨st, c, Hs, sl, sm, cu, p⟩ => ⟨st, c, Hs, sl, sm, cu, (Post.bind p).mono fun x c1 Hs1 H1 _ F1 q v1 r1 => ?_⟩
  cases x with
  | ins C' ns ds =>
    dsimp only at q
    split at q
    · rename_i h
      obtain ⟨hC, a, dx, gs, rfl, ha, h1, h2⟩ := rl_ins.mp r1
      rw [h] at ha
      refine ⟨a, dx, gs, rfl, F1.sm _ _ ha, call_of F1.sm F1.cu (rll_cons.mpr ⟨_, _, rfl, r1, rll_nil.mpr rfl⟩) ?_⟩
      cases er : noE m [D.ins C' ns ds] c1 with
      | no => rw [er] at q; exact q
      | ok d c => rw [er] at q; exact q
      | er y c => exact absurd er (noE_no m _ c1 y c)
    · exact q.elim
  | _ => exact q.elim
/-- o.f, a field -/
theorem d_fl (cl : Cls X.K (g.cm C)) (n : NoAttr X.K (g.cm C) name) (ho : DE X g E hid o mo) (hab : attributeBase o name X.env (eval o X.env) = eval o X.env := by rfl) : DE X g E hid (.Attribute o name pos) (unD (fldF C name) mo) := by
  refine PE_imp (pe_fld ho hab) fun σ H Q ⟨st, c, Hs, sl, sm, cu, p⟩ => ⟨st, c, Hs, sl, sm, cu, (Post.bind p).mono fun x c1 Hs1 H1 _ F1 q v1 r1 => ?_⟩
  cases x with
  | ins C' ns ds =>
    unfold fldF at q
    dsimp only at q
    split at q
    · rename_i h
      subst h
      obtain ⟨hC, a, dx, gs, rfl, ha, h1, h2⟩ := rl_ins.mp r1
      cases el : (ns.zip ds).lookup name with
      | none => rw [el] at q; exact q.elim
      | some d =>
        rw [el] at q
        obtain ⟨v, e1, e2⟩ := (lookup_of h1 h2).2 d el
        exact ⟨a, _, dx, gs, v, rfl, F1.sm _ _ ha, cl, n, e1, q Hs1 H1 (Fn.refl F1.sm F1.cu) v e2⟩
    · exact q.elim
  | _ => exact q.elim
end
end L2.G
set_option Elab.async false
set_option linter.all false
set_option maxRecDepth 100000
set_option maxHeartbeats 2000000
namespace L2.G
open PySem PySem.Spec PyProof.Rows L2H
def mulI : D → D → Option D
  | .int i, .int j => if (-(2 ^ 64) < i ∧ i < 2 ^ 64) ∨ (-(2 ^ 64) < j ∧ j < 2 ^ 64) then some (.int (i * j)) else none
  | _, _ => none
def addI : D → D → Option D
  | .int i, .int j => some (.int (i + j))
  | .str a, .str b => if a.length + b.length ≤ sizeLine then some (.str (a ++ b)) else none
  | _, _ => none
section
variable {X : Cx} {g : Ga} {E : XK} {hid ow ow' ow1 : List Nat} {fx : List (Nat × V)} {Hs0 H0 : Hp} {s : Stmt} {i : Nat} {pos : Pos}
theorem io_mul : OpD X g (inplaceOp .Mult) mulI := ⟨_, iop_mul, rd_int fun x y d e => by
  cases x <;> cases y <;> simp only [mulI, Option.ite_none_right_eq_some, Option.some.injEq, reduceCtorEq] at e
  exact ⟨_, _, rfl, rfl, e.1, e.2.symm⟩⟩
theorem io_add : OpD X g (inplaceOp .Add) addI := by
  refine ⟨_, iop_add.or iop_add_str, ?_⟩
  intro Hs H c x y v u d Q sm cu rx ry e q
  cases x with
  | int i =>
    cases y <;> simp only [addI, Option.some.injEq, reduceCtorEq] at e
    subst e
    exact .inl ⟨_, _, rl_int.mp rx, rl_int.mp ry, q Hs H _ (Fn.refl sm cu) (rl_int.mpr rfl)⟩
  | str a =>
    cases y <;> simp only [addI, Option.ite_none_right_eq_some, Option.some.injEq, reduceCtorEq] at e
    obtain ⟨h, rfl⟩ := e
    obtain ⟨rfl, h1⟩ := rl_str.mp rx
    obtain ⟨rfl, h2⟩ := rl_str.mp ry
    exact .inr ⟨_, _, rfl, rfl, h, q Hs H _ (Fn.refl sm cu) (rl_str.mpr ⟨rfl, txtOk_app h1 h2 h⟩)⟩
  | _ => simp [addI] at e
def neS : PM Fl := fun _ _ => .no
theorem s_never : DS X g E fx Hs0 H0 ow ow' s neS := PS_imp ps_never fun D σ H ⟨st, c, Hs, s, p⟩ => p
theorem s_retN : DS X g E fx Hs0 H0 ow ow' (.Return none pos) (retS (cD .non)) := PS_imp ps_retN fun D σ H ⟨st, c, Hs, s, p⟩ => p .non Hs H s.fn (rl_non.mpr rfl)
/-- name = [..] -/
theorem ps_lco {t : Tg} {ws : List Nat} {it : PM (List D)} {test : PM Bool} {me : PM D} (hw : ∀ i ∈ tgS t, i ∈ ws) (h : PS X s (tAsg (tLc (tI g E hid it) (gOf g.K t) (tT g EF hid test) (tE g EF hid me) ws) (gName i))) : PS X s (tAsg (tE g E hid (lcD t ws it test me)) (gName i)) :=
  PS_imp h fun D σ H q => lc_of hw (own_of q)
theorem ps_lcw {t : Tg} {ws : List Nat} {it : PM (List D)} {test : PM Bool} {me : PM D} (hw : ∀ i ∈ tgS t, i ∈ ws) (h : PS X s (tAsg (tLc (tI g E hid it) (gOf g.K t) (tT g EF hid test) (tE g EF hid me) ws) (gName i))) : PS X s (tAsg (tEo g E hid (lcD t ws it test me)) (gName i)) :=
  PS_imp h fun D σ H q => lc_of hw q
end
theorem owN {P : Program} {w : World} {K : PySem.W.Frag} {mg : Str → Option Value} {base : Heap} {N : List Str} {qual : Str} {sc : Scope} {f : Addr} {cdv : Value} {A : Around} {outer : List Env} {s : Shared} {H : Hp} {E : XK} :
    PassesOwn (model P w) (cxOf (CN P w) P w K mg base N qual sc f cdv A outer s H E).A (cxOf (CN P w) P w K mg base N qual sc f cdv A outer s H E).env (cxOf (CN P w) P w K mg base N qual sc f cdv A outer s H E).xe := passes_of rfl
theorem fnok_imp {P : Program} {w : World} {K : PySem.W.Frag} {mg : Str → Option Value} {base : Heap} {CX : CXT} {k : Nat} {f : Addr} {fd : FuncData} {ps : List Str} {sp sp' : Sp} (F : FnOk P w K mg base CX k f fd ps sp) (h : ∀ vs H Q E, sp' vs H Q E → sp vs H Q E) : FnOk P w K mg base CX k f fd ps sp' :=
  ⟨fun vs H Q E q => F.len vs H Q E (h vs H Q E q), fun A outer s H args us vs Q E hr e0 b r q => F.run A outer s H args us vs Q E hr e0 b r (h vs H Q E q)⟩
theorem spD_noE {K : PySem.W.Frag} {cm : Str → Addr} {cs : List Str} {m : Fd} : ∀ vs H Q E, spD K cm cs (noE m) vs H Q E → spD K cm cs m vs H Q E := by
  rintro vs H Q E ⟨pc, Hs, ds, c, h1, h2, h3, p⟩
  refine ⟨pc, Hs, ds, c, h1, h2, h3, ?_⟩
  unfold noE at p
  cases e : m ds c with
  | no => rw [e] at p; exact p
  | ok a c => rw [e] at p; exact p
  | er x c => rw [e] at p; exact p.elim
end L2.G
set_option Elab.async false
set_option linter.all false
set_option maxRecDepth 100000
set_option maxHeartbeats 2000000
namespace L2.G
open PySem PySem.Spec PyProof.Rows L2H
open Sem (wp)
/-! enumerate(v), zip(v, u) of anything that begins -/
set_option maxHeartbeats 4000000 in
theorem en1_new {v : Value} {ob : Obj} {HH : Heap → Prop} (B : Begins v ob HH) : Meets (Builtin.«enumerate.__new__» ⟨[.type "enumerate", v], []⟩) (fun _ Rs s0 => HH s0.heap ∧
    Rs (.ok (.ret (.ref (s0.heap.push ob).objs.size))) { s0 with heap := (s0.heap.push ob).push { cls := .type "enumerate", data := .fields #[.none, .bool false, .ref s0.heap.objs.size, rawInt 0, .none, .none] } }) :=
  .of_wp fun pr wo Ar Rs s0 hyp => by
    obtain ⟨hp0, g0, d0, tk0, os0⟩ := s0
    obtain ⟨hyp1, hyp⟩ := hyp
    have hsub := sub_enumerate
    have go1 : ∀ {A1 : Around} {E1 : Value → Shared → Prop} {Q1 : Value → Shared → Prop}, Q1 (.ref hp0.objs.size) ⟨hp0.push ob, g0, d0, tk0, os0⟩ → wpAny (model pr wo) A1 (pyIter v) Q1 E1 ⟨hp0, g0, d0, tk0, os0⟩ :=
      fun q => B.iter pr wo _ _ ⟨hp0, g0, d0, tk0, os0⟩ _ hyp1 q
    wp_walk using go1
    refine wpAny_stack_any fun stk => wpAny_pure ?_
    split
    · rename_i cc _ _ _ _ _
      rcases (cc == Value.type "enumerate") <;> (wp_walk using go1; exact ⟨_, rfl, hyp⟩)
    · wp_walk using go1
      exact ⟨_, rfl, hyp⟩
theorem en1_call {pr : Program} {wo : World} {Ar : Around} {E1 : Value → Shared → Prop} {s0 : Shared} {v : Value} {ob : Obj} {HH : Heap → Prop} {Q1 : Value → Shared → Prop} (B : Begins v ob HH) (hyp1 : HH s0.heap)
    (hyp : ∀ hp, IsEnum hp (s0.heap.objs.size + 1) s0.heap.objs.size 0 .none → hp.get? s0.heap.objs.size = some ob → hp.objs.size = s0.heap.objs.size + 2 → (∀ b o, s0.heap.get? b = some o → hp.get? b = some o) → Q1 (.ref (s0.heap.objs.size + 1)) { s0 with heap := hp }) :
    wpAny (model pr wo) Ar (call (.type "enumerate") [v]) Q1 E1 s0 := by
  refine callType_new F.called_enumerate (by decide) (F.typeCall_enumerate_1 _) (F.newCall_enumerate_1 _) (fun obj => F.args_object_init_2 obj _) F.entry_enumerate_new (en1_new B) ⟨hyp1, ?_⟩
  have size1 : (s0.heap.push ob).objs.size = s0.heap.objs.size + 1 := Heap.size_push ..
  show _ ∧ _
  rw [size1]
  have isE : IsEnum ((s0.heap.push ob).push { cls := .type "enumerate", data := .fields #[.none, .bool false, .ref s0.heap.objs.size, rawInt 0, .none, .none] }) (s0.heap.objs.size + 1) s0.heap.objs.size 0 .none := by
    have at1 := Heap.get?_push_size (s0.heap.push ob) (o := { cls := .type "enumerate", data := .fields #[.none, .bool false, .ref s0.heap.objs.size, rawInt 0, .none, .none] }) rfl
    rw [size1] at at1
    exact at1
  exact ⟨⟨_, isE, rfl⟩, hyp _ isE (Heap.get?_push_of_some _ (Heap.get?_push_size _ B.free)) (by rw [Heap.size_push, size1]) fun b o x => Heap.get?_push_of_some _ (Heap.get?_push_of_some _ x)⟩
/-- the iterator at it over the values xs, while G stands -/
structure Inr (K : PySem.W.Frag) (it : Addr) (G : Hp → Prop) (xs : List V) (tn : Nat → Heap → Prop) : Prop where
  obj : ∀ i h, tn i h → ∃ o, h.get? it = some o ∧ ∀ v, o.data ≠ .cell v
  keep : ∀ i h h', tn i h → (∀ o, h.get? it = some o → h'.get? it = some o) → tn i h'
  dr : ∀ (X : Cx) (pins : List (Addr × Obj)) (s : Shared) (σ : St) (H : Hp), Inv X pins σ H s → X.K = K → X.calm = true → G H → ∃ fp P St, Draws X.prog X.w X.A.in1 it fp xs.length P St ∧
    it ∈ fp ∧ (∀ b ∈ fp, b = it ∨ ∃ o, s.heap.get? b = some o ∧ o.cls = .type "tuple" ∧ (H b ≠ none ∨ ∃ o', X.K.lookup b = some o')) ∧ (∀ i, tn i s.heap → St i s.heap) ∧ (∀ i h, St i h → tn i h) ∧ ∀ i v, P i v → ∃ x, xs[i]? = some x ∧ RelV x v
/-- each with its number in a new pair -/
def ItE2 (G : Hp → Prop) (xs : List V) : It := ⟨fun i H => G H ∧ i < xs.length, fun i H v H' => ∃ T x, v = .ref T ∧ H T = none ∧ H' = upd H T (.tup [.int (i : Nat), x]) ∧ xs[i]? = some x, fun i H => G H ∧ i = xs.length⟩
theorem turn_en2 {P : Program} {w : World} {K : PySem.W.Frag} {elts : List Expr} {kk : Nat} {tpos : Pos} {G : Hp → Prop} {xs : List V} {tn : Nat → Heap → Prop} (en it : Addr) (R : Inr K it G xs tn) :
    Turn P w K (.Tuple elts kk tpos) (ItE2 G xs) [en, it] en (fun i h => (∃ old, IsEnum h en it ((i : Nat) : Int) old) ∧ tn i h ∧ en ≠ it) where
  mem := by simp
  obj := by
    rintro i h ⟨⟨old, he⟩, ti, _⟩ b hb
    rcases (show b = en ∨ b = it by simpa using hb) with z | z
    · refine ⟨_, by rw [z]; exact he, fun v q => ?_⟩
      cases q
    · rw [z]
      exact R.obj i h ti
  keep := by
    rintro i h h' ⟨⟨old, he⟩, ti, ne⟩ kp
    exact ⟨⟨old, kp en (by simp) _ he⟩, R.keep i h h' ti fun o q => kp it (by simp) o q, ne⟩
  item := by
    rintro X hP hw hK hc i pins s σ H E I hf ⟨⟨old, he⟩, ti, ne⟩ ⟨hG, hi⟩
    subst hP hw
    obtain ⟨fp, Pv, Sv, D, mem, out, to, back, val⟩ := R.dr X pins s σ H I hK hc hG
    have enf : en ∉ fp := fun z => by
      rcases out en z with z | ⟨o, ho, hcl, _⟩
      · exact ne z
      · rw [show s.heap.get? en = _ from he] at ho
        have e2 := congrArg Obj.cls (Option.some.inj ho)
        rw [hcl] at e2
        exact absurd e2 (by simp)
    have lt1 : en < s.heap.objs.size := Heap.lt_size he
    have lt2 : it < s.heap.objs.size := by
      obtain ⟨o, ho, _⟩ := R.obj i _ ti
      exact Heap.lt_size ho
    refine wpAny_pyNext_enum_itemD D he (to i ti) hi ne enf fun u h1 tk hu out1 st1 at1 sz1 kp1 => ?_
    obtain ⟨x, hx, rx⟩ := val i u hu
    refine ⟨_, rfl, wpAny_letOwnedTupleGo_enum (s := { s with heap := h1, toks := tk + 1 }) out1 fun h2 he2 sb => ?_⟩
    have at2 : h2.get? s.heap.objs.size = some { cls := .type "tuple", data := .seq #[.int i tk, u] } := (sb.2 _ (Nat.ne_of_gt lt1)).trans at1
    have nw : ObjOk X.prog X.w (upd H s.heap.objs.size (.tup [.int (i : Nat), x])) h2 s.heap.objs.size (.tup [.int (i : Nat), x]) :=
      ⟨by show 2 ≤ sizeLine; decide, [.int i tk, u], .cons ⟨_, rfl⟩ (.cons rx .nil), ⟨_, at2, rfl, _, rfl⟩⟩
    have J : Inv X pins σ (upd H s.heap.objs.size (.tup [.int (i : Nat), x])) { s with heap := h2, toks := tk + 1 } :=
      I.turnedNew (ch := [en, it]) (fun b o hb q => (sb.2 b (fun z => hb (by simp [z]))).trans (kp1 b o (fun z => hb (by simp [z])) (fun z => hb (by simp [z])) q)) hf (Nat.le_refl _) nw
    refine ⟨.ref s.heap.objs.size, _, J, rfl, ⟨_, x, rfl, I.hok.fresh (Nat.le_refl _), rfl, hx⟩, ⟨⟨u, ?_⟩, R.keep _ _ _ (back _ _ st1) fun o q => (sb.2 it (Ne.symm ne)).trans q, ne⟩, fun b hb => ?_⟩
    · have e1 : ((i + 1 : Nat) : Int) = (i : Int) + 1 := by omega
      rw [e1]
      exact he2
    · have hb2 : b < s.heap.objs.size := by
        rcases (show b = en ∨ b = it by simpa using hb) with z | z
        · rw [z]; exact lt1
        · rw [z]; exact lt2
      rw [upd_ne (Nat.ne_of_lt hb2)]
      exact (hf b hb).1
  done := by
    rintro X hP hw hK hc i pins s σ H E I hf ⟨⟨old, he⟩, ti, ne⟩ ⟨hG, rfl⟩
    subst hP hw
    obtain ⟨fp, Pv, Sv, D, mem, out, to, back, val⟩ := R.dr X pins s σ H I hK hc hG
    obtain ⟨f0, f1, f2, f3, f4, f5⟩ := hf it (by simp)
    exact wpAny_pyNext_enum_endD D he (to _ ti) fun h' eb => ⟨rfl, I.turned (t' := s.toks) (fun b o hb q => eb b o hb q) f0 f1 f3 f4 f5⟩
  self := fun A i s Q E st h => by
    obtain ⟨⟨_, he⟩, _⟩ := st
    exact wpAny_pyIter_enum he h
theorem walk_en2 {G : Hp → Prop} {xs : List V} : Walk (ItE2 G xs) xs.length G (YPair (fun i => some (.int (i : Nat))) (fun i => xs[i]?)) := by
  refine ⟨fun i H hi g => ⟨g, hi⟩, fun H g => ⟨g, rfl⟩, fun i H v H' _ g y => ?_⟩
  obtain ⟨T, x, h1, h2, h3, h4⟩ := y
  exact ⟨T, .int (i : Nat), x, h1, h2, h3, rfl, h4⟩
/-- a tuple -/
theorem inr_tup {K : PySem.W.Frag} {it a : Addr} {xs : List V} (ne : a ≠ it) : Inr K it (fun H => SqT K H a xs) xs (fun i h => h.IsTupleIter it a i) where
  obj := fun i h st => by
    obtain ⟨o, e, c, d⟩ := st
    exact ⟨o, e, fun v z => by rw [d] at z; cases z⟩
  keep := fun i h h' st k => st.at fun o e => k o e
  dr := fun X pins s σ H I hK hc g => by
    subst hK
    obtain ⟨its, rv, p, hz⟩ := I.tuple g
    have hl := rv.length
    have D := Draws.tuple (prog := X.prog) (w := X.w) (A := X.A.in1) (I.ok.hd hc) it a ne its.toArray
    rw [List.size_toArray, ← hl] at D
    refine ⟨[it, a], _, _, D, by simp, fun b hb => ?_, fun i ti => ⟨ti, p⟩, fun i h st => st.1, fun i v hv => ?_⟩
    · rcases (show b = it ∨ b = a by simpa using hb) with z | z
      · exact .inl z
      · obtain ⟨o, ho, hcl, _⟩ := p
        refine .inr ⟨o, by rw [z]; exact ho, hcl, ?_⟩
        rcases g with (g | ⟨o', g⟩) | ⟨o', _, _, g, _⟩
        · exact .inl (by rw [z, g]; simp)
        · exact .inl (by rw [z, g]; simp)
        · exact .inr ⟨o', by rw [z]; exact g⟩
    · have hv' : its[i]? = some v := by simpa using hv
      have hi := (List.getElem?_eq_some_iff.mp hv').1
      obtain ⟨u, hu, ru⟩ := rv.get (i := i) (x := xs[i]'(by omega)) (by simp [show i < xs.length by omega])
      rw [hv'] at hu
      cases hu
      exact ⟨_, by simp [show i < xs.length by omega], ru⟩
/-- a text -/
theorem inr_str {K : PySem.W.Frag} {it : Addr} {z : Str} {tk : Tok} : Inr K it (fun _ => True) (z.cps.toList.map fun c => V.str ⟨#[c]⟩) (fun i h => h.IsStrIter it (strIterType z) z tk i) where
  obj := fun i h st => by
    obtain ⟨o, e, c, d⟩ := st
    exact ⟨o, e, fun v z => by rw [d] at z; cases z⟩
  keep := fun i h h' st k => by
    obtain ⟨o, ho, r⟩ := st
    exact ⟨o, k o ho, r⟩
  dr := fun X pins s σ H I hK hc g => by
    have e0 : (z.cps.toList.map fun c => V.str ⟨#[c]⟩).length = z.cps.size := by rw [List.length_map, Array.length_toList]
    rw [e0]
    refine ⟨[it], _, _, Draws.text (prog := X.prog) (w := X.w) (A := X.A.in1) (I.ok.hd hc) it z tk, by simp, fun b hb => .inl (by simpa using hb), fun i ti => ti, fun i h st => st, fun i v hv => ?_⟩
    obtain ⟨c, u, hc, rfl⟩ := hv
    have hk' : z.cps.toList[i]? = some c := by rw [Array.getElem?_toList]; exact hc
    exact ⟨.str ⟨#[c]⟩, by rw [List.getElem?_map, hk']; rfl, ⟨u, rfl⟩⟩
/-- pairs of two walks -/
def ItZ2 (G : Hp → Prop) (xs ys : List V) : It := ⟨fun i H => G H ∧ i < xs.length ∧ i < ys.length, fun i H v H' => ∃ T x y, v = .ref T ∧ H T = none ∧ H' = upd H T (.tup [x, y]) ∧ xs[i]? = some x ∧ ys[i]? = some y, fun i H => G H ∧ i = min xs.length ys.length⟩
theorem turn_zp2 {P : Program} {w : World} {K : PySem.W.Frag} {elts : List Expr} {kk : Nat} {tpos : Pos} {xs ys : List V} {t1 t2 : Nat → Heap → Prop} {z TI TO i1 i2 : Addr}
    (R1 : Inr K i1 (fun _ => True) xs t1) (R2 : Inr K i2 (fun _ => True) ys t2) (S : ZipSep2 z TI TO i1 i2 [i1] [i2]) (f1 : ∀ (X : Cx) (pins : List (Addr × Obj)) (s : Shared) (σ : St) (H : Hp), Inv X pins σ H s → X.K = K → X.calm = true → ∃ Pv, Draws X.prog X.w X.A.in1 i1 [i1] xs.length Pv t1 ∧ ∀ i v, Pv i v → ∃ x, xs[i]? = some x ∧ RelV x v)
    (f2 : ∀ (X : Cx) (pins : List (Addr × Obj)) (s : Shared) (σ : St) (H : Hp), Inv X pins σ H s → X.K = K → X.calm = true → ∃ Pv, Draws X.prog X.w X.A.in1 i2 [i2] ys.length Pv t2 ∧ ∀ i v, Pv i v → ∃ x, ys[i]? = some x ∧ RelV x v) :
    Turn P w K (.Tuple elts kk tpos) (ItZ2 (fun _ => True) xs ys) [z, TI, TO, i1, i2] z (fun i h => IsZip h z TI TO .none ∧ IsTupOf2 h TI (.ref i1) (.ref i2) ∧ (∃ a1 a2, IsTupOf2 h TO a1 a2) ∧ t1 i h ∧ t2 i h) where
  mem := by simp
  obj := by
    rintro i h ⟨hz, hT, ⟨a1, a2, hO⟩, h1, h2⟩ b hb
    rcases (show b = z ∨ b = TI ∨ b = TO ∨ b = i1 ∨ b = i2 by simpa using hb) with q | q | q | q | q
    · refine ⟨_, by rw [q]; exact hz, fun v r => ?_⟩
      cases r
    · refine ⟨_, by rw [q]; exact hT, fun v r => ?_⟩
      cases r
    · refine ⟨_, by rw [q]; exact hO, fun v r => ?_⟩
      cases r
    · rw [q]; exact R1.obj i h h1
    · rw [q]; exact R2.obj i h h2
  keep := by
    rintro i h h' ⟨hz, hT, ⟨a1, a2, hO⟩, h1, h2⟩ kp
    exact ⟨kp z (by simp) _ hz, kp TI (by simp) _ hT, ⟨a1, a2, kp TO (by simp) _ hO⟩, R1.keep i h h' h1 fun o q => kp i1 (by simp) o q, R2.keep i h h' h2 fun o q => kp i2 (by simp) o q⟩
  item := by
    rintro X hP hw hK hc i pins s σ H E I hf ⟨hz, hT, ⟨a1, a2, hO⟩, h1, h2⟩ ⟨_, l1, l2⟩
    subst hP hw
    obtain ⟨P1, D1, v1⟩ := f1 X pins s σ H I hK hc
    obtain ⟨P2, D2, v2⟩ := f2 X pins s σ H I hK hc
    have zl : z < s.heap.objs.size := Heap.lt_size hz
    refine wpAny_pyNext_zipD2_item S D1 D2 hz hT hO h1 h2 l1 l2 fun u1 u2 hp tk p1 p2 z1 O1 n1 n2 at1 sz kp => ?_
    obtain ⟨x, hx, rx⟩ := v1 i u1 p1
    obtain ⟨y, hy, ry⟩ := v2 i u2 p2
    refine ⟨_, rfl, wpAny_letOwnedTupleGo_zip (s := { s with heap := hp, toks := tk }) z1 fun h3 z3 sb => ?_⟩
    have at3 : h3.get? s.heap.objs.size = some { cls := .type "tuple", data := .seq #[u1, u2] } := (sb.2 _ (Nat.ne_of_gt zl)).trans at1
    have nw : ObjOk X.prog X.w (upd H s.heap.objs.size (.tup [x, y])) h3 s.heap.objs.size (.tup [x, y]) :=
      ⟨by show 2 ≤ sizeLine; decide, [u1, u2], .cons rx (.cons ry .nil), ⟨_, at3, rfl, _, rfl⟩⟩
    have J : Inv X pins σ (upd H s.heap.objs.size (.tup [x, y])) { s with heap := h3, toks := tk } :=
      I.turnedNew (ch := [z, TI, TO, i1, i2]) (fun c o hb q => (sb.2 c (fun r => hb (by simp [r]))).trans (kp c o (fun r => hb (by simp [r])) (fun r => hb (by simp [r])) (fun r => hb (by simp [r])) (fun r => hb (by simp [r])) q)) hf (Nat.le_refl _) nw
    refine ⟨.ref s.heap.objs.size, _, J, rfl, ⟨_, x, y, rfl, I.hok.fresh (Nat.le_refl _), rfl, hx, hy⟩, ⟨z3, ?_, ⟨u1, u2, ?_⟩, ?_, ?_⟩, fun c hcm => ?_⟩
    · exact (sb.2 _ S.TIz).trans (kp _ _ S.TIz S.TITO S.TIi1 S.TIi2 hT)
    · exact (sb.2 _ S.TOz).trans O1
    · exact R1.keep _ _ _ n1 fun o q => (sb.2 _ (Ne.symm S.zi1)).trans q
    · exact R2.keep _ _ _ n2 fun o q => (sb.2 _ (Ne.symm S.zi2)).trans q
    · have hlt : c < s.heap.objs.size := by
        rcases (show c = z ∨ c = TI ∨ c = TO ∨ c = i1 ∨ c = i2 by simpa using hcm) with q | q | q | q | q
        · rw [q]; exact zl
        · rw [q]; exact Heap.lt_size hT
        · rw [q]; exact Heap.lt_size hO
        · rw [q]
          obtain ⟨o, e1, _⟩ := R1.obj i _ h1
          exact Heap.lt_size e1
        · rw [q]
          obtain ⟨o, e1, _⟩ := R2.obj i _ h2
          exact Heap.lt_size e1
      rw [upd_ne (Nat.ne_of_lt hlt)]
      exact (hf c hcm).1
  done := by
    rintro X hP hw hK hc i pins s σ H E I hf ⟨hz, hT, ⟨a1, a2, hO⟩, h1, h2⟩ ⟨_, rfl⟩
    subst hP hw
    obtain ⟨P1, D1, v1⟩ := f1 X pins s σ H I hK hc
    obtain ⟨P2, D2, v2⟩ := f2 X pins s σ H I hK hc
    exact wpAny_pyNext_zipD2_end S D1 D2 hz hT hO h1 h2 (by omega) (by omega) (by omega) fun hp tk kp => ⟨rfl, I.turnedL (t' := tk) (ch := [z, TI, TO, i1, i2]) (fun c o hb q =>
      kp c o (fun r => hb (by simp [r])) (fun r => hb (by simp [r])) (fun r => hb (by simp [r])) (fun r => hb (by simp [r])) q) hf⟩
  self := fun A i s Q E st h => wpAny_pyIter_zip st.1 h
theorem walk_zp2 {G : Hp → Prop} {xs ys : List V} : Walk (ItZ2 G xs ys) (min xs.length ys.length) G (YPair (fun i => xs[i]?) (fun i => ys[i]?)) := by
  refine ⟨fun i H hi g => ⟨g, by omega, by omega⟩, fun H g => ⟨g, rfl⟩, fun i H v H' _ g y => ?_⟩
  obtain ⟨T, x, y, h1, h2, h3, h4, h5⟩ := y
  exact ⟨T, x, y, h1, h2, h3, h4, h5⟩
end L2.G
set_option Elab.async false
set_option linter.all false
set_option maxRecDepth 100000
set_option maxHeartbeats 2000000
namespace L2.G
open PySem PySem.Spec PyProof.Rows L2H
section
variable {X : Cx} {g : Ga} {E : XK} {hid : List Nat} {m m' : PM D} {e e2 : Expr} {p pos tpos : Pos} {elts : List Expr} {kk : Nat} {ta : TA}
def iEnT (K : PySem.W.Frag) (ta : TA) : TI := fun σ H R => ta σ H fun vs H1 => ∃ a xs, vs = [.ref a] ∧ SqT K H1 a xs ∧ R (ItE2 (fun H => SqT K H a xs) xs) H1
def iEnS (ta : TA) : TI := fun σ H R => ta σ H fun vs H1 => ∃ z : Str, vs = [.str z] ∧ R (ItE2 (fun _ => True) (z.cps.toList.map fun c => V.str ⟨#[c]⟩)) H1
def iZpS (ta : TA) : TI := fun σ H R => ta σ H fun vs H1 => ∃ z y : Str, vs = [.str z, .str y] ∧ R (ItZ2 (fun _ => True) (z.cps.toList.map fun c => V.str ⟨#[c]⟩) (y.cps.toList.map fun c => V.str ⟨#[c]⟩)) H1
theorem pie_en {pins : List (Addr × Obj)} {σ : St} {H1 : Hp} {s1 : Shared} {R : It → Hp → Prop} {hp : Heap} {G : Hp → Prop} {xs : List V} {tn : Nat → Heap → Prop} (I1 : Inv X pins σ H1 s1) (Rn : Inr X.K s1.heap.objs.size G xs tn)
    (isE : IsEnum hp (s1.heap.objs.size + 1) s1.heap.objs.size 0 .none) (t0 : tn 0 hp) (kp : ∀ b o, s1.heap.get? b = some o → hp.get? b = some o) (q : R (ItE2 G xs) H1) : PIE X pins σ (.Tuple elts kk tpos) R (.ref (s1.heap.objs.size + 1)) { s1 with heap := hp } := by
  refine ⟨s1.heap.objs.size + 1, [s1.heap.objs.size + 1, s1.heap.objs.size], _, _, H1, rfl, I1.kept (t' := s1.toks) kp, turn_en2 _ _ Rn, ⟨⟨.none, isE⟩, t0, Nat.succ_ne_self _⟩, fun b hb => ?_, q⟩
  have hle : s1.heap.objs.size ≤ b := by
    rcases (show b = s1.heap.objs.size + 1 ∨ b = s1.heap.objs.size by simpa using hb) with z | z
    · rw [z]; exact Nat.le_succ _
    · rw [z]; exact Nat.le_refl _
  exact I1.fpOk hle (I1.hok.fresh hle)
theorem pi_enT (hg : Gl X "enumerate") (hm : X.mg "enumerate" = none) (ha : PA X [e] ta) (hs : starEach [e] X.env = [(false, eval e X.env)] := by rfl) : PI X (.Tuple elts kk tpos) (.Call (.Name "enumerate" p) [e] [] pos) (iEnT X.K ta) := by
  refine ⟨fun pins s σ H R I h => Call_ (ld_blt I hg hm boot_enumerate (PyProof.Rows.callWith_type1 (thn (ha.run pos pins s σ H _ I h) ?_) hs rfl))⟩
  rintro us s1 ⟨vs, H1, I1, r1, a, xs, rfl, hq, q⟩
  obtain ⟨u, rfl, ru⟩ := vals1 r1
  cases (show u = Value.ref a from ru)
  obtain ⟨its, rv, pt, hz⟩ := I1.tuple hq
  have ne : a ≠ s1.heap.objs.size := Nat.ne_of_lt pt.lt
  refine en1_call (begins_tuple a its.toArray) pt fun hp isE at0 sz kp => wpAny_pyIter_enum isE (pie_en I1 (inr_tup ne) isE ⟨_, at0, rfl, rfl⟩ kp q)
theorem pi_enS (hg : Gl X "enumerate") (hm : X.mg "enumerate" = none) (ha : PA X [e] ta) (hs : starEach [e] X.env = [(false, eval e X.env)] := by rfl) : PI X (.Tuple elts kk tpos) (.Call (.Name "enumerate" p) [e] [] pos) (iEnS ta) := by
  refine ⟨fun pins s σ H R I h => Call_ (ld_blt I hg hm boot_enumerate (PyProof.Rows.callWith_type1 (thn (ha.run pos pins s σ H _ I h) ?_) hs rfl))⟩
  rintro us s1 ⟨vs, H1, I1, r1, z, rfl, q⟩
  obtain ⟨u, rfl, tk, rfl⟩ := vals1 r1
  refine en1_call (begins_text z tk) trivial fun hp isE at0 sz kp => wpAny_pyIter_enum isE (pie_en I1 (inr_str (tk := tk)) isE ⟨_, at0, rfl, rfl⟩ kp q)
theorem dr_str {K : PySem.W.Frag} {it : Addr} {z : Str} {tk : Tok} (X : Cx) (pins : List (Addr × Obj)) (s : Shared) (σ : St) (H : Hp) (I : Inv X pins σ H s) (hK : X.K = K) (hc : X.calm = true) :
    ∃ Pv, Draws X.prog X.w X.A.in1 it [it] (z.cps.toList.map fun c => V.str ⟨#[c]⟩).length Pv (fun i h => h.IsStrIter it (strIterType z) z tk i) ∧ ∀ i v, Pv i v → ∃ x, (z.cps.toList.map fun c => V.str ⟨#[c]⟩)[i]? = some x ∧ RelV x v := by
  have e0 : (z.cps.toList.map fun c => V.str ⟨#[c]⟩).length = z.cps.size := by rw [List.length_map, Array.length_toList]
  rw [e0]
  refine ⟨_, Draws.text (prog := X.prog) (w := X.w) (A := X.A.in1) (I.ok.hd hc) it z tk, fun i v hv => ?_⟩
  obtain ⟨c, u, hc, rfl⟩ := hv
  have hk' : z.cps.toList[i]? = some c := by rw [Array.getElem?_toList]; exact hc
  exact ⟨.str ⟨#[c]⟩, by rw [List.getElem?_map, hk']; rfl, ⟨u, rfl⟩⟩
theorem pi_zpS (hg : Gl X "zip") (hm : X.mg "zip" = none) (ha : PA X [e, e2] ta) (hs : starEach [e, e2] X.env = (false, eval e X.env) :: starEach [e2] X.env := by rfl) (hpl : (backTo pos (starEach [e2] X.env)).any (·.1) = false := by rfl) :
    PI X (.Tuple elts kk tpos) (.Call (.Name "zip" p) [e, e2] [] pos) (iZpS ta) := by
  refine ⟨fun pins s σ H R I h => Call_ (ld_blt I hg hm PyProof.Rows.boot_zip (PyProof.Rows.callWith_type1 (thn (ha.run pos pins s σ H _ I h) ?_) hs hpl))⟩
  rintro us s1 ⟨vs, H1, I1, r1, z, y, rfl, q⟩
  obtain ⟨u1, u2, rfl, ⟨tk1, rfl⟩, ⟨tk2, rfl⟩⟩ := vals2 r1
  refine zip_begins2 (begins_text z tk1) (begins_text y tk2) trivial trivial fun hp hz hT hO at1 at2 sz kp => wpAny_pyIter_zip hz ?_
  have sep := zip_sep2 (N := s1.heap.objs.size) (fp1 := []) (fp2 := []) (by simp) (by simp)
  refine ⟨s1.heap.objs.size + 4, [s1.heap.objs.size + 4, s1.heap.objs.size + 2, s1.heap.objs.size + 3, s1.heap.objs.size, s1.heap.objs.size + 1], _, _, H1, rfl, I1.kept (t' := s1.toks) kp,
    turn_zp2 (inr_str (tk := tk1)) (inr_str (tk := tk2)) sep dr_str dr_str, ⟨hz, hT, ⟨_, _, hO⟩, ⟨_, at1, rfl, rfl⟩, ⟨_, at2, rfl, rfl⟩⟩, fun c hcm => ?_, q⟩
  have hle : s1.heap.objs.size ≤ c := by
    rcases (show c = s1.heap.objs.size + 4 ∨ c = s1.heap.objs.size + 2 ∨ c = s1.heap.objs.size + 3 ∨ c = s1.heap.objs.size ∨ c = s1.heap.objs.size + 1 by simpa using hcm) with z | z | z | z | z <;> rw [z]
    · exact Nat.le_add_right _ _
    · exact Nat.le_add_right _ _
    · exact Nat.le_add_right _ _
    · exact Nat.le_refl _
    · exact Nat.le_add_right _ _
  exact I1.fpOk hle (I1.hok.fresh hle)
theorem di_enT (he : DE X g E hid e m) (hm : X.mg "enumerate" = none) (hK : X.K = g.K := by rfl) (hg : Gl X "enumerate" := by rfl) (hs : starEach [e] X.env = [(false, eval e X.env)] := by rfl) :
    DI X g E hid (.Tuple elts kk tpos) (.Call (.Name "enumerate" p) [e] [] pos) (itE (itT m)) := by
  refine PI_imp (pi_enT hg hm (pa_cons he pa_nil hs) hs) fun σ H R ⟨st, c, Hs, sl, sm, cu, p⟩ => ⟨st, c, Hs, sl, sm, cu, (Post.bind (Post.bind p)).mono fun x c1 Hs1 H1 _ F1 q v1 r1 => ?_⟩
  cases x with
  | tup ds =>
    obtain ⟨a, vs, rfl, hs, hl, hr⟩ := rl_tup.mp r1
    rw [hK]
    have q' := q Hs1 H1 (Fn.refl F1.sm F1.cu)
    refine ⟨a, vs, rfl, seqT_mono F1.sm hs, q' Hs1 H1 (Fn.refl F1.sm F1.cu) (by rw [enD_len]; exact hl) _ ?_⟩
    have w := walk_en2 (G := fun H => SqT g.K H a vs) (xs := vs)
    rw [hr.length, ← enD_len ds 0] at w
    refine w.mono (fun H h => seqT_mono h hs) fun i H x H' hi _ y => ?_
    obtain ⟨T, x1, y1, rfl, hT, rfl, e1, e2⟩ := y
    cases e1
    obtain ⟨d, e3, e4⟩ := hr.getV e2
    refine ⟨_, enD_get ds 0 i d e3, .inr ⟨T, _, _, rfl, rfl, hT, rfl, by rw [sizeLine_eq]; simp, ?_⟩⟩
    exact rll_cons.mpr ⟨_, _, rfl, rl_int.mpr (by simp), rll_cons.mpr ⟨_, _, rfl, e4, rll_nil.mpr rfl⟩⟩
  | _ => exact q.elim
theorem strV_get {z : Str} {Hs : Hp} {i : Nat} {v : V} (hz : txtOk z = true) (e : (z.cps.toList.map fun c => V.str ⟨#[c]⟩)[i]? = some v) : ∃ d, (z.cps.toList.map chS)[i]? = some d ∧ Rl g Hs d v := by
  rw [List.getElem?_map] at e
  cases q : z.cps.toList[i]? with
  | none => rw [q] at e; cases e
  | some c =>
    rw [q] at e
    cases e
    exact ⟨chS c, by rw [List.getElem?_map, q]; rfl, rl_str.mpr ⟨rfl, txtOk_ch hz (List.mem_of_getElem? q)⟩⟩
theorem di_enS (he : DE X g E hid e m) (hm : X.mg "enumerate" = none) (hg : Gl X "enumerate" := by rfl) (hs : starEach [e] X.env = [(false, eval e X.env)] := by rfl) :
    DI X g E hid (.Tuple elts kk tpos) (.Call (.Name "enumerate" p) [e] [] pos) (itE (itS m)) := by
  refine PI_imp (pi_enS hg hm (pa_cons he pa_nil hs) hs) fun σ H R ⟨st, c, Hs, sl, sm, cu, p⟩ => ⟨st, c, Hs, sl, sm, cu, (Post.bind (Post.bind p)).mono fun x c1 Hs1 H1 _ F1 q v1 r1 => ?_⟩
  cases x with
  | str z =>
    obtain ⟨rfl, hz⟩ := rl_str.mp r1
    have q' := q Hs1 H1 (Fn.refl F1.sm F1.cu)
    refine ⟨z, rfl, q' Hs1 H1 (Fn.refl F1.sm F1.cu) (by rw [enD_len, List.length_map, Array.length_toList]; exact txtOk_len hz) _ ?_⟩
    have w := walk_en2 (G := fun _ => True) (xs := z.cps.toList.map fun c => V.str ⟨#[c]⟩)
    have e0 : (z.cps.toList.map fun c => V.str ⟨#[c]⟩).length = (enD 0 (z.cps.toList.map chS)).length := by rw [enD_len, List.length_map, List.length_map]
    rw [e0] at w
    refine w.mono (fun H h => trivial) fun i H x H' hi _ y => ?_
    obtain ⟨T, x1, y1, rfl, hT, rfl, e1, e2⟩ := y
    cases e1
    obtain ⟨d, e3, e4⟩ := strV_get (g := g) (Hs := Hs1) hz e2
    refine ⟨_, enD_get _ 0 i d e3, .inr ⟨T, _, _, rfl, rfl, hT, rfl, by rw [sizeLine_eq]; simp, ?_⟩⟩
    exact rll_cons.mpr ⟨_, _, rfl, rl_int.mpr (by simp), rll_cons.mpr ⟨_, _, rfl, e4, rll_nil.mpr rfl⟩⟩
  | _ => exact q.elim
theorem di_zpS (he : DE X g E hid e m) (he2 : DE X g E hid e2 m') (hm : X.mg "zip" = none) (hg : Gl X "zip" := by rfl)
    (hs : starEach [e, e2] X.env = (false, eval e X.env) :: starEach [e2] X.env := by rfl) (hpl : (backTo pos (starEach [e2] X.env)).any (·.1) = false := by rfl) (hs2 : starEach [e2] X.env = (false, eval e2 X.env) :: starEach [] X.env := by rfl) :
    DI X g E hid (.Tuple elts kk tpos) (.Call (.Name "zip" p) [e, e2] [] pos) (itZ (itS m) (itS m')) := by
  refine PI_imp (pi_zpS hg hm (pa_cons he (pa_cons he2 pa_nil hs2) hs) hs hpl) fun σ H R ⟨st, c, Hs, sl, sm, cu, p⟩ => ⟨st, c, Hs, sl, sm, cu, (Post.bind (Post.bind p)).mono fun x c1 Hs1 H1 _ F1 q v1 r1 => ?_⟩
  cases x with
  | str z =>
    have q' := q Hs1 H1 (Fn.refl F1.sm F1.cu)
    refine ⟨st, c1, Hs1, sl.mono F1.ss, F1.sm, F1.cu, (Post.bind (Post.bind q')).mono fun y c2 Hs2 H2 _ F2 q2 v2 r2 => ?_⟩
    cases y with
    | str y =>
      obtain ⟨rfl, hz⟩ := rl_str.mp r1
      obtain ⟨rfl, hy⟩ := rl_str.mp r2
      have q3 := q2 Hs2 H2 (Fn.refl F2.sm F2.cu)
      refine ⟨z, y, rfl, q3 Hs2 H2 (Fn.refl F2.sm F2.cu) (by rw [zpD_len, List.length_map, Array.length_toList]; have := txtOk_len hz; have e0 : z.length = z.cps.size := rfl; omega) _ ?_⟩
      have w := walk_zp2 (G := fun _ => True) (xs := z.cps.toList.map fun c => V.str ⟨#[c]⟩) (ys := y.cps.toList.map fun c => V.str ⟨#[c]⟩)
      have e0 : min (z.cps.toList.map fun c => V.str ⟨#[c]⟩).length (y.cps.toList.map fun c => V.str ⟨#[c]⟩).length = (zpD (z.cps.toList.map chS) (y.cps.toList.map chS)).length := by rw [zpD_len]; simp only [List.length_map]
      rw [e0] at w
      refine w.mono (fun H h => trivial) fun i H x H' hi _ y => ?_
      obtain ⟨T, x1, y1, rfl, hT, rfl, e1, e2⟩ := y
      obtain ⟨d, e3, e4⟩ := strV_get (g := g) (Hs := Hs2) hz e1
      obtain ⟨d', e5, e6⟩ := strV_get (g := g) (Hs := Hs2) hy e2
      refine ⟨_, zpD_get _ _ i d d' e3 e5, .inr ⟨T, _, _, rfl, rfl, hT, rfl, by rw [sizeLine_eq]; simp, ?_⟩⟩
      exact rll_cons.mpr ⟨_, _, rfl, e4, rll_cons.mpr ⟨_, _, rfl, e6, rll_nil.mpr rfl⟩⟩
    | _ => exact q2.elim
  | _ => exact q.elim
end
end L2.G
set_option Elab.async false
set_option linter.all false
set_option maxRecDepth 100000
set_option maxHeartbeats 2000000
namespace L2.G
open PySem PySem.Spec PyProof.Rows L2H
/-! instances: made, their fields stored -/
def putP {α : Type} (f : Str) (v : α) : List (Str × α) → List (Str × α)
  | [] => [(f, v)]
  | (g, x) :: r => if g = f then (g, v) :: r else (g, x) :: putP f v r
def putI (f : Str) (d : D) : D → D
  | .ins C ns ds => .ins C ((putP f d (ns.zip ds)).map (·.1)) ((putP f d (ns.zip ds)).map (·.2))
  | x => x
theorem put_rl {g : Ga} {Hs : Hp} {f : Str} {d : D} {v : V} (rd : Rl g Hs d v) : ∀ {gs : List (Str × V)} {ns : List Str} {ds : List D}, gs.map (·.1) = ns → RlL g Hs ds (gs.map (·.2)) →
    (putF f v gs).map (·.1) = (putP f d (ns.zip ds)).map (·.1) ∧ RlL g Hs ((putP f d (ns.zip ds)).map (·.2)) ((putF f v gs).map (·.2))
  | [], ns, ds, h, r => by
    subst h
    have e : ds = [] := List.length_eq_zero_iff.mp (by have := r.length; simpa using this.symm)
    subst e
    exact ⟨rfl, rll_cons.mpr ⟨v, [], rfl, rd, rll_nil.mpr rfl⟩⟩
  | (n, x) :: gs, ns, ds, h, r => by
    subst h
    cases ds with
    | nil =>
      have := r.length
      simp at this
    | cons d0 ds =>
      obtain ⟨x', r', e, h1, h2⟩ := rll_cons.mp r
      simp only [List.map_cons, List.cons.injEq] at e
      obtain ⟨rfl, rfl⟩ := e
      simp only [List.map_cons, List.zip_cons_cons]
      unfold putF putP
      by_cases z : n = f
      · rw [if_pos z, if_pos z]
        refine ⟨?_, rll_cons.mpr ⟨v, _, rfl, rd, ?_⟩⟩
        · simp only [List.map_cons]
          congr 1
          have l := h2.length
          clear h1 h2 r rd
          induction gs generalizing ds with
          | nil => simp
          | cons p gs ih =>
            cases ds with
            | nil => simp at l
            | cons d1 ds =>
              simp only [List.map_cons, List.zip_cons_cons]
              exact congrArg _ (ih ds (by simpa using l))
        · have l := h2.length
          have e : (List.map (fun x => x.2) ((gs.map (·.1)).zip ds)) = ds := by
            clear h1 h2 r rd
            induction gs generalizing ds with
            | nil =>
              have : ds = [] := List.length_eq_zero_iff.mp (by simpa using l.symm)
              rw [this]
              rfl
            | cons p gs ih =>
              cases ds with
              | nil => rfl
              | cons d1 ds => simp only [List.map_cons, List.zip_cons_cons]; rw [ih (ds := ds) (by simpa using l)]
          rw [e]
          exact h2
      · rw [if_neg z, if_neg z]
        obtain ⟨i1, i2⟩ := put_rl rd (f := f) rfl h2
        exact ⟨by simp only [List.map_cons]; rw [i1], rll_cons.mpr ⟨x, _, rfl, h1, i2⟩⟩
/-- x.f = e, x one's own instance -/
def fldS (C : Str) (i : Nat) (f : Str) (m : PM D) : PM Fl := fun st c => match st[i]? with
  | some (some (.ins C' ns ds)) => if C' = C ∧ ns.length < 1000 then (m st c).bind fun d c => .ok (.nx (st.set i (some (putI f d (.ins C' ns ds))))) c else .no
  | _ => .no
theorem s_fld {X : Cx} {g : Ga} {E : XK} {fx : List (Nat × V)} {Hs0 H0 : Hp} {ow ow1 : List Nat} {m : PM D} {s : Stmt} {i : Nat} {C f : Str} (cl : Cls X.K (g.cm C)) (n : NoAttr X.K (g.cm C) f) (h : PS X s (sFld X.K (tVar i) (tE g E ow1 m) f)) (hi : i ∈ ow1 := by decide) (hw : ∀ k ∈ ow1, k ∈ ow := by decide) :
    DS X g E fx Hs0 H0 ow ow1 s (fldS C i f m) := by
  refine PS_imp h fun D σ H ⟨st, c, Hs, s, p⟩ => ?_
  obtain ⟨Hs1, e1, s1⟩ := s.weak hw
  unfold fldS at p
  split at p
  · rename_i C' ns ds hd
    split at p
    · rename_i hC
      obtain ⟨rfl, hn⟩ := hC
      refine s1.toE (ps_er s1 p fun d c2 Hs2 H2 _ F q v r => ?_)
      have s2 := s1.on F
      obtain ⟨a, e2, e3, e4, e5, e6⟩ := s2.own i hi _ hd
      rcases e6 with ⟨ds1, vs, ed, _⟩ | ⟨C1, ns1, ds1, dx, gs, ed, hcs, ha, h1, h2⟩
      · cases ed
      · cases ed
        have l1 : gs.length = ns.length := by rw [← h1, List.length_map]
        refine ⟨.ref a, e2, a, _, dx, gs, rfl, ha, cl, n, by omega, q σ Hs2 _ (s2.chg0 hi hd e2 (.inr ⟨C', _, _, dx, _, rfl, hcs, upd_same, ?_, ?_⟩))⟩
        · exact (put_rl r h1 h2).1
        · exact (put_rl r h1 h2).2
    · exact p.elim
  · exact p.elim
/-- an __init__ by data -/
def inst0 (st : PSt) : Option D := match (st[0]? : Option (Option D)) with
  | some (some (.ins C ns es)) => some (.ins C ns es)
  | _ => none
theorem inst0_at {st : PSt} {d : D} (h : inst0 st = some d) : st[0]? = some (some d) := by
  unfold inst0 at h
  split at h
  · rename_i C ns es e
    cases h
    exact e
  · cases h
def inD (C : Str) (k n : Nat) (f : PM Fl) : Fd := fun ds c => if ds.length + 1 = k then (f (some (.ins C [] []) :: (ds.map some ++ List.replicate (n - k) none)) c).bind fun fl c => match fl with
    | .nx st => ofO (inst0 st) c
    | .rt _ => .no
  else .no
def spI (K : PySem.W.Frag) (cm : Str → Addr) (cs : List Str) (C : Str) (m : Fd) : Sp := fun vs H Q E => ∃ (pc : Pc) (Hs : Hp) (ds : List D) (c : Cu) (x dx : Addr) (us : List V),
  vs = .ref x :: us ∧ H x = some (.ins (cm C) dx []) ∧ Hs x = none ∧ Off pc x ∧ C ∈ cs ∧ Same Hs H ∧ CupAt pc Hs H c ∧ RlL ⟨K, cm, cs, pc⟩ Hs ds us ∧ match m ds c with
    | .no => False
    | .ok d c' => ∀ Hs' H', Fn pc Hs (del H x) Hs' H' c' → Hs' x = none → Own1 ⟨K, cm, cs, pc⟩ Hs' H' x d → Q .non H'
    | .er e c' => ∀ cls dx' Hs' H', Fn pc Hs (del H x) Hs' H' c' → Xr ⟨K, cm, cs, pc⟩ Hs' e cls dx' → E cls dx' H'
theorem same_del {Hs H : Hp} {x : Addr} (s : Same Hs H) (n : Hs x = none) : Same Hs (del H x) := fun b o e => by rw [del_ne (ne_of_none e n)]; exact s b o e
section
variable {P : Program} {w : World} {K : PySem.W.Frag} {mg : Str → Option Value} {base : Heap} {k : Nat} {f : Addr} {fd : FuncData} {ps N : List Str} {cm : Str → Addr} {cs : List Str} {ow : List Nat} {fb : PM Fl} {x qual C : Str} {params : Arguments} {body : List Stmt} {scope : Scope} {dvs : List V} {kws : List (Str × V)}
theorem okI (F : FunD K x qual params body scope dvs kws f fd) (S : FnScope N ps scope) (h0 : 0 ∈ ow)
    (hb : ∀ (cdv : Value) (A : Around) (outer : List Env) (s : Shared) (H H0 Hs : Hp) (E : XK) (pc : Pc) (fx : List (Nat × V)), Room k (A.deeper (envOfC qual scope s.heap.objs.size f cdv)) →
      DB (cxOf (CN P w) P w K mg base N qual scope f cdv A outer s H E) ⟨K, cm, cs, pc⟩ E fx Hs H0 [0] ow body fb) : FnOk P w K mg base (CN P w) (k + 1) f fd ps (spI K cm cs C (inD C ps.length N.length fb)) := by
  refine F.ok S ?_ fun cdv A outer s H vs Q E hr h => ?_
  · rintro vs H Q E ⟨pc, Hs, ds, c, x, dx, us, rfl, _, _, _, _, _, _, r, p⟩
    unfold inD at p
    by_cases hl : ds.length + 1 = ps.length
    · rw [List.length_cons, r.length]
      exact hl
    · rw [if_neg hl] at p
      exact p.elim
  · obtain ⟨pc, Hs, ds, c, x, dx, us, rfl, hx, hxs, hpc, hC, sm, cu, r, p⟩ := h
    unfold inD at p
    by_cases hl : ds.length + 1 = ps.length
    · rw [if_pos hl] at p
      have l := r.length
      have cu' : CupAt pc Hs (del H x) c := cu.del hpc hx (plain_ins _ _ _)
      have st0 : SiS ⟨K, cm, cs, pc⟩ [(0, .ref x)] Hs (del H x) [0] Hs H c (some (.ins C [] []) :: (ds.map some ++ List.replicate (N.length - ps.length) none)) (start N (.ref x :: us)) := by
        have s1 := sis_start (g := ⟨K, cm, cs, pc⟩) (N := N) (k := ps.length - 1) (ds := ds) (vs := us) sm cu r (by omega)
        refine ⟨⟨Same.refl _, fun b o n _ e => ?_, fun b o _ e n => n, sm, cu⟩, ⟨?_, fun i d hi e => ?_⟩, fun i hi d hd => ?_, fun i hi j hj ij => ?_, fun i hi v hv => ?_⟩
        · by_cases z : b = x
          · rw [z, del_same] at e; cases e
          · rw [del_ne z] at e; exact e
        · rw [start_len]
          simp only [List.length_cons, List.length_append, List.length_map, List.length_replicate, l]
          omega
        · cases i with
          | zero => exact absurd (by simp) hi
          | succ i =>
            rw [List.getElem?_cons_succ] at e
            have hi2 : i < ds.length := by
              by_cases h : i < ds.length
              · exact h
              · rw [List.getElem?_append_right (by rw [List.length_map]; omega)] at e
                have := List.mem_of_getElem? e
                rw [List.mem_replicate] at this
                cases this.2
            rw [List.getElem?_append_left (by rw [List.length_map]; exact hi2), List.getElem?_map] at e
            cases hd : ds[i]? with
            | none => rw [hd] at e; cases e
            | some d' =>
              rw [hd] at e
              cases e
              obtain ⟨v, h1, h2⟩ := r.get hd
              refine ⟨v, ?_, h2⟩
              show (some (V.ref x) :: (us.map some ++ _))[i + 1]? = _
              rw [List.getElem?_cons_succ, List.getElem?_append_left (by rw [List.length_map]; omega), List.getElem?_map, h1]
              rfl
        · have : i = 0 := by simpa using hi
          subst this
          cases (show some (some (D.ins C [] [])) = some (some d) from hd)
          exact ⟨x, rfl, hxs, fr_none del_same, hpc, .inr ⟨C, [], [], dx, [], rfl, hC, hx, rfl, rll_nil.mpr rfl⟩⟩
        · have h1 : i = 0 := by simpa using hi
          have h2 : j = 0 := by simpa using hj
          exact absurd (h1.trans h2.symm) ij
        · have e : (i, v) = (0, V.ref x) := by simpa using hv
          cases e
          rfl
      refine ⟨_, hb cdv A outer s H (del H x) Hs E pc [(0, .ref x)] hr, _, c, Hs, st0, ?_⟩
      revert p
      cases fb (some (.ins C [] []) :: (ds.map some ++ List.replicate (N.length - ps.length) none)) c with
      | no => exact fun z => z
      | er e c' => exact fun z => z
      | ok fl c' =>
        cases fl with
        | rt d => exact fun z => z.elim
        | nx st =>
          intro p σ' Hs' H' s'
          rw [R.ok_bind] at p
          dsimp only at p
          have fx0 := s'.fix 0 h0 (.ref x) (by simp)
          cases hi : inst0 st with
          | none => rw [hi] at p; exact p.elim
          | some d =>
            rw [hi] at p
            obtain ⟨a, e1, e2, e3, e4, e5⟩ := s'.own 0 h0 _ (inst0_at hi)
            rw [fx0] at e1
            cases e1
            exact p Hs' H' s'.fn e2 e5
    · rw [if_neg hl] at p
      exact p.elim
end
/-! C(..), a new instance -/
structure MakNK (P : Program) (w : World) (K : PySem.W.Frag) (mg : Str → Option Value) (base : Heap) (k : Nat) (x : Str) (C : Addr) (n : Nat) (ks : List Str) (gV : List V → List V → List V) (sp : Sp) : Prop where
  ex : ∃ (f : Addr) (fd : FuncData) (ps : List Str) (g : List Value → List Value → List Value), Mk K C f ∧ FnOk P w K mg base (CN P w) k f fd ps sp ∧ mg x = some (.ref C) ∧ KBn K fd ps (n + 1) ks g gV
/-- how the arguments are laid: by data and by values -/
def Lays (K : PySem.W.Frag) (cm : Str → Addr) (cs : List Str) (n m : Nat) (gD : List D → List D → List D) (gV : List V → List V → List V) : Prop := ∀ (pc : Pc) (Hs : Hp) (x : V) (ds zs : List D) (vs us : List V), ds.length = n → zs.length = m → RlL ⟨K, cm, cs, pc⟩ Hs ds vs → RlL ⟨K, cm, cs, pc⟩ Hs zs us → ∃ ws, gV (x :: vs) us = x :: ws ∧ RlL ⟨K, cm, cs, pc⟩ Hs (gD ds zs) ws
def mkD (m : Fd) (gD : List D → List D → List D) (ms zs : List (PM D)) : PM D := fun st c => (aD ms st c).bind fun ds c => (aD zs st c).bind fun es c => m (gD ds es) c
theorem PK_imp {X : Cx} {kws : List Keyword} {t t' : TA} (h : PK X kws t) (m : ∀ σ H Q, t' σ H Q → t σ H Q) : PK X kws t' := ⟨fun pos pins s σ H Q I q => h.run pos pins s σ H Q I (m σ H Q q)⟩
abbrev DK (X : Cx) (g : Ga) (E : XK) (hid : List Nat) (kws : List Keyword) (m : PM (List D)) : Prop := PK X kws (tA g E hid m)
section
variable {X : Cx} {g : Ga} {E : XK} {hid : List Nat} {ms zs : List (PM D)} {m : Fd} {ma : PM D} {x C : Str} {k j n : Nat} {p pos kpos : Pos} {e : Expr} {es : List Expr} {kws : List Keyword} {ks : List Str} {gV : List V → List V → List V} {gD : List D → List D → List D} {nm : Option Str}
theorem dk_nil : DK X g E hid [] (aD []) := PK_imp pk_nil fun σ H Q ⟨st, c, Hs, sl, sm, cu, p⟩ => p Hs H (Fn.refl sm cu) [] (rll_nil.mpr rfl)
theorem dk_cons (ha : DE X g E hid e ma) (hr : DK X g E hid kws (aD ms)) : DK X g E hid (⟨nm, e, kpos⟩ :: kws) (aD (ma :: ms)) := by
  refine PK_imp (pk_cons ha hr) fun σ H Q ⟨st, c, Hs, sl, sm, cu, p⟩ => ⟨st, c, Hs, sl, sm, cu, (Post.bind p).mono fun x c1 Hs1 H1 _ F1 q v1 r1 => ⟨st, c1, Hs1, sl.mono F1.ss, F1.sm, F1.cu, (Post.bind q).mono fun xs c2 Hs2 H2 _ F2 q2 vs rs => ?_⟩⟩
  exact q2 Hs2 H2 (Fn.refl F2.sm F2.cu) _ (rll_cons.mpr ⟨v1, vs, rfl, Rl.mono F2.ss x v1 r1, rs⟩)
theorem mk_of {st : PSt} {H Ha H1 : Hp} {Hs Hs1 : Hp} {c c1 : Cu} {ds : List D} {us : List V} {Q : VK} {x dx : Addr} (hC : C ∈ g.cs) (F : Fn g.pc Ha H Hs1 H1 c1) (r : RlL g Hs1 ds us) (q : Post g E Hs1 H1 (m ds c1) fun d _ Hs' H' => ∀ p, Fr H p → Hs' p = none → Off g.pc p → Own1 g Hs' H' p d → Q (.ref p) H')
    (nx : H1 x = none) (nd : H1 dx = none) (ne : dx ≠ x) : spI g.K g.cm g.cs C m (.ref x :: us) (upd (upd H1 dx (.own x)) x (.ins (g.cm C) dx [])) (fun v H2 => v = .non ∧ Q (.ref x) H2) E := by
  have xpc := F.cu.ne nx
  have dpc := F.cu.ne nd
  have Fd := Fn.hid (o := .own x) F.sm F.cu nd
  have nx1 : upd H1 dx (.own x) x = none := by rw [upd_ne (Ne.symm ne)]; exact nx
  have Fx := Fn.hid (o := .ins (g.cm C) dx []) Fd.sm Fd.cu nx1
  have ed : del (upd (upd H1 dx (.own x)) x (.ins (g.cm C) dx [])) x = upd H1 dx (.own x) := by
    funext b
    by_cases z : b = x
    · rw [z, del_same, nx1]
    · rw [del_ne z, upd_ne z]
  refine ⟨g.pc, Hs1, ds, c1, x, dx, us, rfl, upd_same, F.sm.free nx, xpc, hC, Fx.sm, Fx.cu, r, ?_⟩
  rw [ed]
  revert q
  cases m ds c1 with
  | no => exact fun z => z
  | ok d c' => exact fun z Hs' H' F' nx' o => ⟨rfl, z Hs' H' (Fd.trans F') x (fresh_of F nx).1 nx' xpc o⟩
  | er y c' => exact fun z cls dx' Hs' H' F' xr => z cls dx' Hs' H' (Fd.trans F') xr
/-- C(e, .., k = e, ..) -/
theorem do_mkK (hC : C ∈ g.cs) (c : MakNK X.prog X.w X.K X.mg X.base k x (g.cm C) n ks gV (spI g.K g.cm g.cs C m)) (L : Lays g.K g.cm g.cs n ks.length gD gV) (hx : Passes (CN X.prog X.w) X E) (hr : Room j X.A) (hk : k + 1 ≤ j) (hg : Gl X x) (ha : DA X g E hid (e :: es) (aD ms)) (hkw : DK X g E hid kws (aD zs)) (hn : ms.length = n := by rfl) (hz : zs.length = ks.length := by rfl)
    (hall : (backToKw pos (keywordEach kws X.env)).all (·.1.isSome) = true := by rfl) (hks : (backToKw pos (keywordEach kws X.env)).filterMap (·.1) = ks := by rfl) (hdb : (x == ("__debug__" : Str)) = false := by decide)
    (he : starEach (e :: es) X.env = (false, eval e X.env) :: starEach es X.env := by rfl) (hpl : ((backTo pos (starEach (e :: es) X.env)).any (·.1) || (backToKw pos (keywordEach kws X.env)).any (·.1.isNone)) = false := by rfl) :
    DEo X g E hid (.Call (.Name x p) (e :: es) kws pos) (mkD m gD ms zs) := by
  obtain ⟨f, fd, ps, gg, M, F, hm, b⟩ := c.ex
  refine PE_imp (pe_makeK M F (hr.mono hk) hg hm b hx ha hkw hall hks hdb he hpl) fun σ H Q ⟨st, c, Hs, sl, sm, cu, p⟩ => ⟨st, c, Hs, sl, sm, cu, (Post.bind p).mono fun ds c1 Hs1 H1 e1 F1 q vs rs => ⟨st, c1, Hs1, sl.mono F1.ss, F1.sm, F1.cu, (Post.bind q).mono fun xs c2 Hs2 H2 e2 F2 q2 us ru => ?_⟩⟩
  have l1 := aD_len e1
  have l2 := aD_len e2
  have rs2 := RlL.mono F2.ss ds vs rs
  refine ⟨by rw [rs.length, l1, hn], by rw [ru.length, l2, hz], fun x dx nx nd ne => ?_⟩
  obtain ⟨ws, ew, rw'⟩ := L g.pc Hs2 (.ref x) ds xs vs us (l1.trans hn) (l2.trans hz) rs2 ru
  rw [ew]
  exact mk_of (st := st) (c := c) (Hs := Hs) hC (F1.trans F2) rw' q2 nx nd ne
theorem do_mkK0 (hC : C ∈ g.cs) (c : MakNK X.prog X.w X.K X.mg X.base k x (g.cm C) 0 ks gV (spI g.K g.cm g.cs C m)) (L : Lays g.K g.cm g.cs 0 ks.length gD gV) (hx : Passes (CN X.prog X.w) X E) (hr : Room j X.A) (hk : k + 1 ≤ j) (hg : Gl X x) (hkw : DK X g E hid kws (aD zs)) (hz : zs.length = ks.length := by rfl)
    (hall : (backToKw pos (keywordEach kws X.env)).all (·.1.isSome) = true := by rfl) (hks : (backToKw pos (keywordEach kws X.env)).filterMap (·.1) = ks := by rfl) (hdb : (x == ("__debug__" : Str)) = false := by decide)
    (hpl : ((backTo pos (starEach [] X.env)).any (·.1) || (backToKw pos (keywordEach kws X.env)).any (·.1.isNone)) = false := by rfl) :
    DEo X g E hid (.Call (.Name x p) [] kws pos) (mkD m gD [] zs) := by
  obtain ⟨f, fd, ps, gg, M, F, hm, b⟩ := c.ex
  refine PE_imp (pe_makeK0 M F (hr.mono hk) hg hm b hx hkw hall hks hdb hpl) fun σ H Q ⟨st, c, Hs, sl, sm, cu, p⟩ => ⟨st, c, Hs, sl, sm, cu, (Post.bind (f := fun es c => m (gD [] es) c) p).mono fun xs c2 Hs2 H2 e2 F2 q2 us ru => ?_⟩
  have l2 := aD_len e2
  refine ⟨rfl, by rw [ru.length, l2, hz], fun x dx nx nd ne => ?_⟩
  obtain ⟨ws, ew, rw'⟩ := L g.pc Hs2 (.ref x) [] xs [] us rfl (l2.trans hz) (rll_nil.mpr rfl) ru
  rw [ew]
  exact mk_of (st := st) (c := c) (Hs := Hs) hC F2 rw' q2 nx nd ne
/-- C(e, ..) -/
structure MakND (P : Program) (w : World) (K : PySem.W.Frag) (mg : Str → Option Value) (base : Heap) (k : Nat) (x : Str) (C : Addr) (sp : Sp) (dvs : List V) : Prop where
  ex : ∃ (f : Addr) (fd : FuncData) (ps : List Str) (ds : List Value), Mk K C f ∧ FnOk P w K mg base (CN P w) k f fd ps sp ∧ mg x = some (.ref C) ∧ Binds K fd ps ds ∧ Vals dvs ds
theorem do_mk {dvs : List V} {dds : List D} (hC : C ∈ g.cs) (c : MakND X.prog X.w X.K X.mg X.base k x (g.cm C) (spI g.K g.cm g.cs C m) dvs) (L : ∀ Hs, RlL g Hs dds dvs) (hx : Passes (CN X.prog X.w) X E) (hr : Room j X.A) (hk : k + 1 ≤ j) (hg : Gl X x) (ha : DA X g E hid (e :: es) (aD ms))
    (hdb : (x == ("__debug__" : Str)) = false := by decide) (he : starEach (e :: es) X.env = (false, eval e X.env) :: starEach es X.env := by rfl) (hpl : (backTo pos (starEach es X.env)).any (·.1) = false := by rfl) :
    DEo X g E hid (.Call (.Name x p) (e :: es) [] pos) (mkD m (fun ds _ => ds ++ dds) ms []) := by
  obtain ⟨f, fd, ps, dd, M, F, hm, b, d⟩ := c.ex
  refine PE_imp (pe_make M F (hr.mono hk) hg hm b d hx ha hdb he hpl) fun σ H Q ⟨st, c, Hs, sl, sm, cu, p⟩ => ⟨st, c, Hs, sl, sm, cu, (Post.bind p).mono fun ds c1 Hs1 H1 e1 F1 q vs rs x dx nx nd ne => ?_⟩
  exact mk_of (st := st) (c := c) (Hs := Hs) hC F1 (rs.append (L Hs1)) q nx nd ne
end
end L2.G
set_option Elab.async false
set_option linter.all false
set_option maxRecDepth 100000
set_option maxHeartbeats 2000000
namespace L2.G
open PySem PySem.Spec PyProof.Rows L2H
/-! own special methods of instances, by data -/
section
variable {X : Cx} {CX : CXT} {pins : List (Addr × Obj)} {σ : St} {H : Hp} {s : Shared} {k : Nat} {f C : Addr} {fd : FuncData} {ps : List Str} {sp : Sp} {E : XK}
def rBoolI (C : Addr) (sp : Sp) (E : XK) : V → Hp → (Bool → Hp → Prop) → Prop := fun x H Q => ∃ a dx fs, x = .ref a ∧ H a = some (.ins C dx fs) ∧ sp [.ref a] H (fun v H' => ∃ b : Bool, v = .bl b ∧ Q b H') E
theorem tr_boolI (F : FnOk X.prog X.w X.K X.mg X.base CX k f fd ps sp) (hb : Binds X.K fd ps []) (hx : Passes CX X E) (hr : Room k X.A)
    (hs : PySem.W.findIn X.K (.ref C) "__bool__" = some (some (.ref f))) (hf : PySem.W.isFn X.K (.ref f) = true) : TruR X (rBoolI C sp E) := by
  intro pins s σ H x u Q I r h
  obtain ⟨a, dx, fs, rfl, ea, q⟩ := h
  cases (show u = Value.ref a from r)
  obtain ⟨od, J⟩ := inst_at I ea
  unfold truthy
  refine wpAny_bind (m := callSpecial? (.ref a) (Str.ofString "__bool__")) (PySem.W.special_fn I.kIn J hs (beq_iff_eq.mp hf) (thn (run_at F hb hx hr rfl I (vs := [.ref a]) (us := [.ref a]) (.cons rfl .nil) q) fun v s' hv => ?_))
  obtain ⟨z, H', I', rz, b, ez, q'⟩ := hv
  subst ez
  cases (show v = Value.bool b from rz)
  exact wpAny_pure ⟨H', I', q'⟩
end
structure SpcN (P : Program) (w : World) (K : PySem.W.Frag) (mg : Str → Option Value) (base : Heap) (k : Nat) (C : Addr) (nm : Str) (sp : Sp) : Prop where
  ex : ∃ (f : Addr) (fd : FuncData) (ps : List Str), PySem.W.findIn K (.ref C) nm = some (some (.ref f)) ∧ PySem.W.isFn K (.ref f) = true ∧ FnOk P w K mg base (CN P w) k f fd ps sp ∧ Binds K fd ps []
structure EqC (K : PySem.W.Frag) (C : Addr) : Prop where
  nf : ∀ t ∈ tyNs, PySem.W.notFirst K C (.type t) = true
  mro : PySem.W.mroIn K C (.type "object") = some true
  ne : PySem.W.findIn K (.ref C) "__ne__" = some (some (.builtin "object.__ne__"))
def mateD (C : Str) (y : D) : Bool := match y with
  | .ins C' _ _ => C' == C
  | d => (tyD d).isSome
def eqI (C : Str) (m : Fd) (neg : Bool) (ma mb : PM D) : PM D := fun st c => (ma st c).bind fun x c => (mb st c).bind fun y c => match x with
  | .ins C' _ _ => if C' = C ∧ mateD C y = true then (noE m [x, y] c).bind fun r c => match r with
      | .bl b => .ok (.bl (b != neg)) c
      | _ => .no
    else .no
  | _ => .no
def lenI (C : Str) (m : Fd) (mo : PM D) : PM D := fun st c => (mo st c).bind fun x c => match x with
  | .ins C' _ _ => if C' = C then (noE m [x] c).bind fun r c => match r with
      | .int n => if 0 ≤ n ∧ n < 2 ^ 63 then .ok (.int n) c else .no
      | _ => .no
    else .no
  | _ => .no
def txtI (C : Str) (m : Fd) (mo : PM D) : PM D := fun st c => (mo st c).bind fun x c => match x with
  | .ins C' _ _ => if C' = C then (noE m [x] c).bind fun r c => match r with
      | .str z => .ok (.str z) c
      | _ => .no
    else .no
  | _ => .no
def truI (C : Str) (m : Fd) (mo : PM D) : PM Bool := fun st c => (mo st c).bind fun x c => match x with
  | .ins C' _ _ => if C' = C then (noE m [x] c).bind fun r c => match r with
      | .bl b => .ok b c
      | _ => .no
    else .no
  | _ => .no
section
variable {X : Cx} {g : Ga} {E E' : XK} {hid : List Nat} {ma mb mo : PM D} {m : Fd} {C : Str} {k j : Nat} {p pos : Pos} {a b o : Expr}
theorem call0_of {H : Hp} {Hs : Hp} {c : Cu} {ds : List D} {vs : List V} {Q : VK} {k : D → Cu → Hp → Hp → Prop} (sm : Same Hs H) (cu : CupAt g.pc Hs H c) (r : RlL g Hs ds vs) (p : Post g E Hs H (noE m ds c) k) (h : ∀ d c' Hs' H', Fn g.pc Hs H Hs' H' c' → k d c' Hs' H' → ∀ v, Rl g Hs' d v → Q v H') : spD g.K g.cm g.cs (noE m) vs H Q E' := by
  refine ⟨g.pc, Hs, ds, c, sm, cu, r, ?_⟩
  cases er : noE m ds c with
  | no => rw [er] at p; exact p
  | ok d c' => rw [er] at p; exact fun Hs' H' F v rv => h d c' Hs' H' F (p Hs' H' F) v rv
  | er y c => exact absurd er (noE_no m _ _ y c)
theorem eq_of {σ : St} {H : Hp} {Q : VK} {neg : Bool} {gf : Bool → Bool} {K' : PySem.W.Frag} (hK : K' = g.K) (hgf : ∀ b, gf b = (b != neg)) (q0 : EqC g.K (g.cm C)) : tE g E hid (eqI C m neg ma mb) σ H Q → tOp (rEqI (g.cm C) (spD g.K g.cm g.cs (noE m)) E0 (NotSub K' (g.cm C)) gf) (tE g E hid ma) (tE g E hid mb) σ H Q := by
  subst hK
  rintro ⟨st, c, Hs, sl, sm, cu, p⟩
  refine ⟨st, c, Hs, sl, sm, cu, (Post.bind p).mono fun x c1 Hs1 H1 _ F1 q v1 r1 => ⟨st, c1, Hs1, sl.mono F1.ss, F1.sm, F1.cu, (Post.bind q).mono fun y c2 Hs2 H2 _ F2 q2 v2 r2 => ?_⟩⟩
  have r1' := Rl.mono F2.ss x v1 r1
  cases x with
  | ins C' ns ds =>
    dsimp only at q2
    split at q2
    · rename_i h
      obtain ⟨rfl, hy⟩ := h
      obtain ⟨hC, a, dx, gs, rfl, ha, h1, h2⟩ := rl_ins.mp r1'
      refine ⟨a, dx, gs, rfl, F2.sm _ _ ha, ?_, call0_of F2.sm F2.cu (rll_cons.mpr ⟨_, _, rfl, r1', rll_cons.mpr ⟨_, _, rfl, r2, rll_nil.mpr rfl⟩⟩) (Post.bind q2) fun d c' Hs' H' F z v rv => ?_⟩
      · unfold mateD at hy
        split at hy
        · obtain rfl := eq_of_beq hy
          obtain ⟨_, b, dx2, gs2, rfl, hb, _, _⟩ := rl_ins.mp r2
          exact .inl ⟨dx2, b, gs2, rfl, F2.sm _ _ hb⟩
        · obtain ⟨t, et⟩ := Option.isSome_iff_exists.mp hy
          obtain ⟨t1, t2⟩ := tyX_of F2.sm r2 et
          exact .inr ⟨_, t1, q0.nf t t2⟩
      · cases d with
        | bl b => exact ⟨b, rl_bl.mp rv, z Hs' H' (Fn.refl F.sm F.cu) _ (rl_bl.mpr (by rw [hgf b]))⟩
        | _ => exact z.elim
    · exact q2.elim
  | _ => exact q2.elim
theorem d_eqI (c : SpcN X.prog X.w X.K X.mg X.base k (g.cm C) "__eq__" (spD g.K g.cm g.cs (noE m))) (q0 : EqC g.K (g.cm C)) (hr : Room j X.A) (hk : k ≤ j) (ha : DE X g E hid a ma) (hb : DE X g E hid b mb) (hm : behindInMarks .Eq b = false) (hK : X.K = g.K := by rfl) : DE X g E hid (.Compare a [.Eq] [b] pos) (eqI C m false ma mb) := by
  obtain ⟨f, fd, ps, hs, hf, F, bd⟩ := c.ex
  refine PE_imp (pe_cmpR (op_eqI F bd ps0 (hr.mono hk) hs hf) ha hb hm) fun σ H Q q => eq_of hK (by intro b; cases b <;> rfl) q0 q
theorem d_neI (c : SpcN X.prog X.w X.K X.mg X.base k (g.cm C) "__eq__" (spD g.K g.cm g.cs (noE m))) (q0 : EqC g.K (g.cm C)) (hr : Room j X.A) (hk : k + 2 ≤ j) (ha : DE X g E hid a ma) (hb : DE X g E hid b mb) (hm : behindInMarks .NotEq b = false) (hK : X.K = g.K := by rfl) : DE X g E hid (.Compare a [.NotEq] [b] pos) (eqI C m true ma mb) := by
  obtain ⟨f, fd, ps, hs, hf, F, bd⟩ := c.ex
  refine PE_imp (pe_cmpR (op_neI F bd ps0 (hr.mono hk) (by rw [hK]; exact q0.mro) (by rw [hK]; exact q0.ne) hs hf) ha hb hm) fun σ H Q q => eq_of hK (by intro b; cases b <;> rfl) q0 q
theorem dt_eqI (c : SpcN X.prog X.w X.K X.mg X.base k (g.cm C) "__eq__" (spD g.K g.cm g.cs (noE m))) (q0 : EqC g.K (g.cm C)) (hr : Room j X.A) (hk : k ≤ j) (ha : DE X g E hid a ma) (hb : DE X g E hid b mb) (hm : behindInMarks .Eq b = false) (hK : X.K = g.K := by rfl) : DT X g E hid (.Compare a [.Eq] [b] pos) (tbD (eqI C m false ma mb)) := by
  obtain ⟨f, fd, ps, hs, hf, F, bd⟩ := c.ex
  refine PT_imp (pt_cmpR (op_eqI F bd ps0 (hr.mono hk) hs hf) ha hb hm) fun σ H Q q => eq_of hK (by intro b; cases b <;> rfl) q0 (tb_of q)
theorem dt_neI (c : SpcN X.prog X.w X.K X.mg X.base k (g.cm C) "__eq__" (spD g.K g.cm g.cs (noE m))) (q0 : EqC g.K (g.cm C)) (hr : Room j X.A) (hk : k + 2 ≤ j) (ha : DE X g E hid a ma) (hb : DE X g E hid b mb) (hm : behindInMarks .NotEq b = false) (hK : X.K = g.K := by rfl) : DT X g E hid (.Compare a [.NotEq] [b] pos) (tbD (eqI C m true ma mb)) := by
  obtain ⟨f, fd, ps, hs, hf, F, bd⟩ := c.ex
  refine PT_imp (pt_cmpR (op_neI F bd ps0 (hr.mono hk) (by rw [hK]; exact q0.mro) (by rw [hK]; exact q0.ne) hs hf) ha hb hm) fun σ H Q q => eq_of hK (by intro b; cases b <;> rfl) q0 (tb_of q)
/-- len(o) -/
theorem d_lenI (c : SpcN X.prog X.w X.K X.mg X.base k (g.cm C) "__len__" (spD g.K g.cm g.cs (noE m))) (hr : Room j X.A) (hk : k + 1 ≤ j) (hg : Gl X "len") (hm : X.mg "len" = none) (ho : DE X g E hid o mo)
    (hs : starEach [o] X.env = (false, eval o X.env) :: starEach [] X.env := by rfl) (hpl : (backTo pos (starEach [] X.env)).any (·.1) = false := by rfl) : DE X g E hid (.Call (.Name "len" p) [o] [] pos) (lenI C m mo) := by
  obtain ⟨f, fd, ps, hs', hf, F, bd⟩ := c.ex
  refine PE_imp (pe_callB (cr_lenI F bd ps0 (hr.mono hk) hs' hf) hg hm boot_len (pa_cons ho pa_nil hs) (by decide) (by decide) hs hpl) fun σ H Q ⟨st, c, Hs, sl, sm, cu, p⟩ => ⟨st, c, Hs, sl, sm, cu, (Post.bind p).mono fun x c1 Hs1 H1 _ F1 q v1 r1 => ?_⟩
  cases x with
  | ins C' ns ds =>
    dsimp only at q
    split at q
    · rename_i h
      subst h
      obtain ⟨hC, a, dx, gs, rfl, ha, h1, h2⟩ := rl_ins.mp r1
      refine ⟨a, dx, gs, rfl, F1.sm _ _ ha, call0_of F1.sm F1.cu (rll_cons.mpr ⟨_, _, rfl, r1, rll_nil.mpr rfl⟩) (Post.bind q) fun d c' Hs' H' F z v rv => ?_⟩
      cases d with
      | int n =>
        dsimp only at z
        split at z
        · rename_i hn
          exact ⟨n, rl_int.mp rv, hn.1, hn.2, z Hs' H' (Fn.refl F.sm F.cu) _ (rl_int.mpr rfl)⟩
        · exact z.elim
      | _ => exact z.elim
    · exact q.elim
  | _ => exact q.elim
/-- repr(o) -/
theorem d_reprI (c : SpcN X.prog X.w X.K X.mg X.base k (g.cm C) "__repr__" (spD g.K g.cm g.cs (noE m))) (hr : Room j X.A) (hk : k + 1 ≤ j) (hg : Gl X "repr") (hm : X.mg "repr" = none) (ho : DE X g E hid o mo)
    (hs : starEach [o] X.env = (false, eval o X.env) :: starEach [] X.env := by rfl) (hpl : (backTo pos (starEach [] X.env)).any (·.1) = false := by rfl) : DE X g E hid (.Call (.Name "repr" p) [o] [] pos) (txtI C m mo) := by
  obtain ⟨f, fd, ps, hs', hf, F, bd⟩ := c.ex
  refine PE_imp (pe_callB (cr_reprI F bd ps0 (hr.mono hk) hs' hf) hg hm boot_repr (pa_cons ho pa_nil hs) (by decide) (by decide) hs hpl) fun σ H Q ⟨st, c, Hs, sl, sm, cu, p⟩ => ⟨st, c, Hs, sl, sm, cu, (Post.bind p).mono fun x c1 Hs1 H1 _ F1 q v1 r1 => ?_⟩
  cases x with
  | ins C' ns ds =>
    dsimp only at q
    split at q
    · rename_i h
      subst h
      obtain ⟨hC, a, dx, gs, rfl, ha, h1, h2⟩ := rl_ins.mp r1
      refine ⟨a, dx, gs, rfl, F1.sm _ _ ha, call0_of F1.sm F1.cu (rll_cons.mpr ⟨_, _, rfl, r1, rll_nil.mpr rfl⟩) (Post.bind q) fun d c' Hs' H' F z v rv => ?_⟩
      cases d with
      | str n => exact ⟨n, (rl_str.mp rv).1, z Hs' H' (Fn.refl F.sm F.cu) _ (rl_str.mpr ⟨rfl, (rl_str.mp rv).2⟩)⟩
      | _ => exact z.elim
    · exact q.elim
  | _ => exact q.elim
/-- str(o) -/
theorem d_strI (c : SpcN X.prog X.w X.K X.mg X.base k (g.cm C) "__str__" (spD g.K g.cm g.cs (noE m))) (hr : Room j X.A) (hk : k + 2 ≤ j) (hg : Gl X "str") (hm : X.mg "str" = none) (ho : DE X g E hid o mo)
    (hs : starEach [o] X.env = (false, eval o X.env) :: starEach [] X.env := by rfl) (hpl : (backTo pos (starEach [] X.env)).any (·.1) = false := by rfl) : DE X g E hid (.Call (.Name "str" p) [o] [] pos) (txtI C m mo) := by
  obtain ⟨f, fd, ps, hs', hf, F, bd⟩ := c.ex
  refine PE_imp (pe_callTy (cr_strI F bd ps0 (hr.mono hk) hs' hf) hg hm boot_str (pa_cons ho pa_nil hs) (by decide) (by decide) hs hpl) fun σ H Q ⟨st, c, Hs, sl, sm, cu, p⟩ => ⟨st, c, Hs, sl, sm, cu, (Post.bind p).mono fun x c1 Hs1 H1 _ F1 q v1 r1 => ?_⟩
  cases x with
  | ins C' ns ds =>
    dsimp only at q
    split at q
    · rename_i h
      subst h
      obtain ⟨hC, a, dx, gs, rfl, ha, h1, h2⟩ := rl_ins.mp r1
      refine ⟨a, dx, gs, rfl, F1.sm _ _ ha, call0_of F1.sm F1.cu (rll_cons.mpr ⟨_, _, rfl, r1, rll_nil.mpr rfl⟩) (Post.bind q) fun d c' Hs' H' F z v rv => ?_⟩
      cases d with
      | str n => exact ⟨n, (rl_str.mp rv).1, z Hs' H' (Fn.refl F.sm F.cu) _ (rl_str.mpr ⟨rfl, (rl_str.mp rv).2⟩)⟩
      | _ => exact z.elim
    · exact q.elim
  | _ => exact q.elim
/-- the truth of o by __bool__ -/
theorem dt_truI (c : SpcN X.prog X.w X.K X.mg X.base k (g.cm C) "__bool__" (spD g.K g.cm g.cs (noE m))) (hr : Room j X.A) (hk : k ≤ j) (ho : DE X g E hid o mo) (he : ∀ whole, isTrue o X.env whole = (do let v ← whole; standAt o.pos; holding [v] (truthy v)) := by intro _; rfl) : DT X g E hid o (truI C m mo) := by
  obtain ⟨f, fd, ps, hs', hf, F, bd⟩ := c.ex
  refine PT_imp (pt_truthR ho (tr_boolI F bd ps0 (hr.mono hk) hs' hf) he) fun σ H Q ⟨st, c, Hs, sl, sm, cu, p⟩ => ⟨st, c, Hs, sl, sm, cu, (Post.bind p).mono fun x c1 Hs1 H1 _ F1 q v1 r1 => ?_⟩
  cases x with
  | ins C' ns ds =>
    dsimp only at q
    split at q
    · rename_i h
      subst h
      obtain ⟨hC, a, dx, gs, rfl, ha, h1, h2⟩ := rl_ins.mp r1
      refine ⟨a, dx, gs, rfl, F1.sm _ _ ha, call0_of F1.sm F1.cu (rll_cons.mpr ⟨_, _, rfl, r1, rll_nil.mpr rfl⟩) (Post.bind q) fun d c' Hs' H' F z v rv => ?_⟩
      cases d with
      | bl b => exact ⟨b, rl_bl.mp rv, z Hs' H' (Fn.refl F.sm F.cu)⟩
      | _ => exact z.elim
    · exact q.elim
  | _ => exact q.elim
end
end L2.G
set_option Elab.async false
set_option linter.all false
set_option maxRecDepth 100000
set_option maxHeartbeats 2000000
namespace L2.G
open PySem PySem.Spec PyProof.Rows L2H
/-! how arguments are laid: by position, by keyword, left out -/
inductive Src where
  | p (i : Nat) | k (i : Nat) | d (i : Nat)
def Src.at {α : Type} (vs ms zs : List α) : Src → Option α
  | .p i => vs[i]?
  | .k i => zs[i]?
  | .d i => ms[i]?
def layL {α : Type} (t : List Src) (vs ms zs : List α) : List α := t.filterMap (Src.at vs ms zs)
def layS {α : Type} (t : List Src) (vs ms zs : List α) : List α := match vs with
  | [] => []
  | x :: r => x :: layL t r ms zs
theorem paired_get {α β : Type} {R : α → β → Prop} : ∀ {xs : List α} {ys : List β}, Paired R xs ys → ∀ i : Nat, (xs[i]? = none ∧ ys[i]? = none) ∨ ∃ x y, xs[i]? = some x ∧ ys[i]? = some y ∧ R x y
  | _, _, .nil, i => .inl ⟨by simp, by simp⟩
  | _, _, .cons h r, 0 => .inr ⟨_, _, rfl, rfl, h⟩
  | _, _, .cons h r, i + 1 => by simpa using paired_get r i
theorem vals_at {vs ms zs : List V} {us mv ws : List Value} (h1 : Vals vs us) (h2 : Vals ms mv) (h3 : Vals zs ws) (s : Src) : (s.at vs ms zs = none ∧ s.at us mv ws = none) ∨ ∃ x y, s.at vs ms zs = some x ∧ s.at us mv ws = some y ∧ RelV x y := by
  cases s with
  | p i => exact paired_get h1 i
  | k i => exact paired_get h3 i
  | d i => exact paired_get h2 i
theorem vals_layL {vs ms zs : List V} {us mv ws : List Value} (h1 : Vals vs us) (h2 : Vals ms mv) (h3 : Vals zs ws) : ∀ t : List Src, Vals (layL t vs ms zs) (layL t us mv ws)
  | [] => .nil
  | s :: t => by
    have ih := vals_layL h1 h2 h3 t
    unfold layL at ih ⊢
    rcases vals_at h1 h2 h3 s with ⟨e1, e2⟩ | ⟨x, y, e1, e2, r⟩
    · rw [List.filterMap_cons_none e1, List.filterMap_cons_none e2]
      exact ih
    · rw [List.filterMap_cons_some e1, List.filterMap_cons_some e2]
      exact .cons r ih
theorem vals_layS {vs ms zs : List V} {us mv ws : List Value} (t : List Src) (h1 : Vals vs us) (h2 : Vals ms mv) (h3 : Vals zs ws) : Vals (layS t vs ms zs) (layS t us mv ws) := by
  cases h1 with
  | nil => exact .nil
  | cons h r => exact .cons h (vals_layL r h2 h3 t)
theorem rll_get {g : Ga} {Hs : Hp} {ds : List D} {vs : List V} (r : RlL g Hs ds vs) (i : Nat) : (ds[i]? = none ∧ vs[i]? = none) ∨ ∃ d v, ds[i]? = some d ∧ vs[i]? = some v ∧ Rl g Hs d v := by
  cases e : ds[i]? with
  | none =>
    refine .inl ⟨rfl, ?_⟩
    rw [List.getElem?_eq_none_iff] at e ⊢
    rw [r.length]
    exact e
  | some d =>
    obtain ⟨v, h1, h2⟩ := r.get e
    exact .inr ⟨d, v, rfl, h1, h2⟩
theorem rll_layL {g : Ga} {Hs : Hp} {ds es zs : List D} {vs ms us : List V} (h1 : RlL g Hs ds vs) (h2 : RlL g Hs es ms) (h3 : RlL g Hs zs us) : ∀ t : List Src, RlL g Hs (layL t ds es zs) (layL t vs ms us)
  | [] => rll_nil.mpr rfl
  | s :: t => by
    have ih := rll_layL h1 h2 h3 t
    have at_ : (s.at ds es zs = none ∧ s.at vs ms us = none) ∨ ∃ d v, s.at ds es zs = some d ∧ s.at vs ms us = some v ∧ Rl g Hs d v := by
      cases s with
      | p i => exact rll_get h1 i
      | k i => exact rll_get h3 i
      | d i => exact rll_get h2 i
    unfold layL at ih ⊢
    rcases at_ with ⟨e1, e2⟩ | ⟨x, y, e1, e2, r⟩
    · rw [List.filterMap_cons_none e1, List.filterMap_cons_none e2]
      exact ih
    · rw [List.filterMap_cons_some e1, List.filterMap_cons_some e2]
      exact rll_cons.mpr ⟨y, _, rfl, r, ih⟩
/-- defaults by data -/
def Dfl (K : PySem.W.Frag) (cm : Str → Addr) (cs : List Str) (dds : List D) (mz : List V) : Prop := ∀ (pc : Pc) (Hs : Hp), RlL ⟨K, cm, cs, pc⟩ Hs dds mz
theorem layS_lays {K : PySem.W.Frag} {cm : Str → Addr} {cs : List Str} {n m : Nat} {dds : List D} {mz : List V} (t : List Src) (h : Dfl K cm cs dds mz) : Lays K cm cs n m (fun ds zs => layL t ds dds zs) (fun vs zs => layS t vs mz zs) :=
  fun pc Hs x ds zs vs us _ _ r1 r2 => ⟨_, rfl, rll_layL r1 (h pc Hs) r2 t⟩
section
variable {K : PySem.W.Frag} {x qual : Str} {params : Arguments} {body : List Stmt} {scope : Scope} {dvs : List V} {kws : List (Str × V)} {f : Addr} {fd : FuncData} {ps : List Str}
/-- keyword-only defaults alone; ms: those that lack -/
theorem _root_.L2.FunD.kbindsT (F : FunD K x qual params body scope [] kws f fd) (n : Nat) (ks : List Str) (ms : List (Str × V)) (t : List Src) (hk : kws ≠ []) (hms : ∀ q ∈ ms, q ∈ kws)
    (h : ∀ (D : Addr) (doc pm : Value) (an : Option Addr) (cdv ct : Value) (us mv ws : List Value), us.length = n → mv.length = ms.length → ws.length = ks.length →
      KwChain D ((ms.map (·.1)).zip mv) (bindArgs (PySem.W.fnOf x qual params body scope .none (.ref D) doc pm an cdv ct) ⟨us, ks.zip ws⟩) (ps.zip (layS t us mv ws))) :
    ∃ mv : List Value, KBn K fd ps n ks (fun us ws => layS t us mv ws) (fun vs zs => layS t vs (ms.map (·.2)) zs) := by
  obtain ⟨oc, od, dV, kV, doc, pm, an, cdv, ct, osl, rfl, lk, hcd, hD, hK⟩ := F.ex
  rcases hD with ⟨_, rfl⟩ | ⟨e, _⟩
  · rcases hK with e | ⟨D, rfl, hq⟩
    · exact absurd e hk
    · obtain ⟨mv, hl, rk, hks⟩ := kwd_vals (ms := ms) fun q hm => hq q (hms q hm)
      exact ⟨mv, ⟨fun s us ws X l1 l2 => BindsTo.of_looks fun M => KwChain.looks X hks (h D doc pm an cdv ct us mv ws l1 hl l2), fun r1 r2 => vals_layS t r1 rk r2⟩⟩
  · exact absurd rfl e
/-- no defaults at all: every parameter by position or by keyword -/
theorem _root_.L2.FunD.kbindsN (F : FunD K x qual params body scope [] kws f fd) (n : Nat) (ks : List Str) (t : List Src)
    (h : ∀ (kV doc pm : Value) (an : Option Addr) (cdv ct : Value) (us ws : List Value), us.length = n → ws.length = ks.length →
      bindArgs (PySem.W.fnOf x qual params body scope .none kV doc pm an cdv ct) ⟨us, ks.zip ws⟩ = pure (ps.zip (layS t us [] ws))) :
    KBn K fd ps n ks (fun us ws => layS t us [] ws) (fun vs zs => layS t vs [] zs) := by
  obtain ⟨oc, od, dV, kV, doc, pm, an, cdv, ct, osl, rfl, lk, hcd, hD, hK⟩ := F.ex
  rcases hD with ⟨_, rfl⟩ | ⟨e, _⟩
  · exact ⟨fun s us ws X l1 l2 => .of_eq (h kV doc pm an cdv ct us ws l1 l2), fun r1 r2 => vals_layS t r1 .nil r2⟩
  · exact absurd rfl e
end
/-! o.m(k = e, ..) -/
def meKD (C name : Str) (m : Fd) (t : List Src) (mo : PM D) (zs : List (PM D)) : PM D := fun st c => (mo st c).bind fun o c => match o with
  | .ins C' ns _ => if C' = C ∧ name ∉ ns then (aD zs st c).bind fun es c => m (o :: layL t [] [] es) c else .no
  | _ => .no
section
variable {X : Cx} {g : Ga} {E : XK} {hid : List Nat} {zs : List (PM D)} {mo : PM D} {m : Fd} {name C : Str} {k j : Nat} {pos apos : Pos} {o : Expr} {kws : List Keyword} {ks : List Str} {t : List Src}
theorem d_meK {pl : Sem Bool} (c : MetKN X.prog X.w X.K X.mg X.base k (g.cm C) name ks (fun vs zs => layS t vs [] zs) (spD g.K g.cm g.cs m)) (hx : Passes (CN X.prog X.w) X E) (hr : Room j X.A) (hk : k ≤ j) (ho : DE X g E hid o mo) (hkw : DK X g E hid kws (aD zs)) (hz : zs.length = ks.length := by rfl)
    (hall : (backToKw pos (keywordEach kws X.env)).all (·.1.isSome) = true := by rfl) (hks : (backToKw pos (keywordEach kws X.env)).filterMap (·.1) = ks := by rfl)
    (hpl : ((backTo pos (starEach [] X.env)).any (·.1) || (backToKw pos (keywordEach kws X.env)).any (·.1.isNone)) = false := by rfl)
    (ht : eval (.Call (.Attribute o name apos) [] kws pos) X.env = (do
      let ov ← eval o X.env
      standAt apos.atName
      let (f, first) ← holding [ov] (getMethod ov name pl)
      callWith pos f first (backTo pos (starEach [] X.env)) (backToKw pos (keywordEach kws X.env))) := by rfl) :
    DE X g E hid (.Call (.Attribute o name apos) [] kws pos) (meKD C name m t mo zs) := by
  refine PE_imp (pe_mtKN (pl := pl) c hx hr hk ho hkw hall hks hpl ht) fun σ H Q ⟨st, c, Hs, sl, sm, cu, p⟩ => ⟨st, c, Hs, sl, sm, cu, (Post.bind p).mono fun x c1 Hs1 H1 _ F1 q v1 r1 => ?_⟩
  cases x with
  | ins C' ns ds =>
    dsimp only at q
    split at q
    · rename_i h
      obtain ⟨rfl, hn⟩ := h
      obtain ⟨hC, a, dx, gs, rfl, ha, h1, h2⟩ := rl_ins.mp r1
      refine ⟨a, dx, gs, rfl, F1.sm _ _ ha, (lookup_of h1 h2).1 hn, st, c1, Hs1, sl.mono F1.ss, F1.sm, F1.cu, (Post.bind q).mono fun xs c2 Hs2 H2 e2 F2 q2 vs rs => ⟨by rw [rs.length, aD_len e2, hz], ?_⟩⟩
      exact call_of F2.sm F2.cu (rll_cons.mpr ⟨_, _, rfl, Rl.mono F2.ss _ _ r1, rll_layL (rll_nil.mpr rfl) (rll_nil.mpr rfl) rs t⟩) q2
    · exact q.elim
  | _ => exact q.elim
end
end L2.G
set_option Elab.async false
set_option linter.all false
set_option maxRecDepth 100000
set_option maxHeartbeats 2000000
namespace L2.G
open PySem PySem.Spec PyProof.Rows L2H
/-! the draws of a law, by data -/
/-- one draw: what is drawn, and the state behind it -/
def sipF (a b n : Int) : Int × (Int × Int) :=
  if 0 < b then (b % n, ((a * 48271 + 11) % 2147483629, b / n)) else (((a * 48271 + 11) % 2147483629 / 1021) % n, ((a * 48271 + 11) % 2147483629, b))
def sipD : Fd := fun ds c => match ds with
  | [.cup, .int n] => match c with
    | some (a, b) => if 0 ≤ a ∧ a < 2147483629 ∧ 0 ≤ b ∧ 0 < n ∧ n < 1073741824 then .ok (.int (sipF a b n).1) (some (sipF a b n).2) else .no
    | none => .no
  | _ => .no
def spSipX : Sp := fun vs H Q _ => ∃ (p : Addr) (n a b : Int), vs = [.ref p, .int n] ∧ H p = some (.lst [.int a, .int b]) ∧ 0 ≤ a ∧ a < 2147483629 ∧ 0 ≤ b ∧ 0 < n ∧ n < 1073741824 ∧
  ∀ H' : Hp, H' p = some (.lst [.int (sipF a b n).2.1, .int (sipF a b n).2.2]) → (∀ c o, c ≠ p → H c = some o → H' c = some o) → Q (.int (sipF a b n).1) H'
theorem sip_sp {K : PySem.W.Frag} {cm : Str → Addr} {cs : List Str} : ∀ vs H Q E, spD K cm cs sipD vs H Q E → spSipX vs H Q E := by
  rintro vs H Q E ⟨pc, Hs, ds, c, sm, cu, r, p⟩
  unfold sipD at p
  split at p
  · rename_i n
    split at p
    · rename_i a b
      split at p
      · rename_i h
        obtain ⟨v, r', rfl, r1, r⟩ := rll_cons.mp r
        obtain ⟨u, r'', rfl, r2, r⟩ := rll_cons.mp r
        cases rll_nil.mp r
        obtain ⟨q, e, rfl⟩ := rl_cup.mp r1
        cases rl_int.mp r2
        have e' : pc.cup = some q := e
        obtain ⟨a', b', ec, hq⟩ := cu.on e'
        cases ec
        have nq : ¬ Off pc q := fun z => z.1 e'.symm
        refine ⟨q, n, a, b, rfl, hq, h.1, h.2.1, h.2.2.1, h.2.2.2.1, h.2.2.2.2, fun H' e1 e2 => ?_⟩
        refine p Hs H' ⟨Same.refl _, fun b o nb _ e => e2 b o (fun z => nq (z ▸ nb)) e, fun b o _ _ e => e, fun b o e => e2 b o (fun z => ?_) (sm b o e), ⟨?_, ?_, cu.th, cu.nt⟩⟩ _ (rl_int.mpr rfl)
        · rw [z, cu.off nq] at e
          cases e
        · show CupC pc.cup Hs H' _
          rw [e']
          exact ⟨cu.off nq, e1⟩
        · intro t ht
          obtain ⟨ps, h1, h2, h3⟩ := cu.tb t ht
          have keep : ∀ b o, H b = some o → (∀ xs, o ≠ .lst xs) → H' b = some o := fun b o e n => e2 b o (fun z => by rw [z, hq] at e; exact n _ (Option.some.inj e).symm) e
          refine ⟨ps, keep _ _ h1 (fun _ z => by cases z), h2, fun pos cv hc => ?_⟩
          obtain ⟨d, e3, e4⟩ := h3 pos cv hc
          exact ⟨d, e3, keep _ _ e4 (fun _ z => by cases z)⟩
      · exact p.elim
    · exact p.elim
  · exact p.elim
/-- behind a call with a new cup the cup is forgotten -/
theorem Fn.uncup {Hs H H0 Hs' H' : Hp} {p : Addr} {T : List (Addr × Str)} {c' : Cu} (F : Fn ⟨some p, T⟩ Hs H Hs' H' c') (s0 : Same H0 H) (n0 : H0 p = none) : Fn ⟨none, T⟩ Hs H0 Hs' H' none :=
  ⟨F.ss, fun b o ob t e => F.bt b o ⟨(fun z => by cases z; rw [n0] at e; cases e), ob.2⟩ t (s0 b o e), fun b o t e n => F.nw b o t (s0 b o e) n, F.sm, ⟨trivial, F.cu.tb, F.cu.th, F.cu.nt⟩⟩
open Classical in
/-- what is given with whatever cup: always True -/
noncomputable def cupD (m : Fd) (ms : List (PM D)) : PM D := fun st c => (aD ms st c).bind fun ds c => match ds with
  | [.scr ns, .int j] => if (ns.length ≤ 63 ∧ 0 ≤ j ∧ j ≤ 63) ∧ ∀ a b : Int, 0 ≤ a → a < 2147483629 → 0 ≤ b → ∃ c', m [.cup] (some (a, b)) = .ok (.bl true) c' then .ok (.bl true) c else .no
  | _ => .no
def spCupX (K : PySem.W.Frag) : Sp := fun vs H Q _ => ∃ (a : Addr) (ns : List Int) (j : Nat), vs = [.ref a, .int j] ∧ SqL K H a (ns.map V.int) ∧ ns.length ≤ 63 ∧ j ≤ 63 ∧ ∀ (p : Addr) (x y : Int) (H' : Hp), H p = none → Same H H' → H' p = some (.lst [.int x, .int y]) → 0 ≤ x → x < 2147483629 → 0 ≤ y → Q (.ref p) H'
theorem rll_ints {g : Ga} {Hs : Hp} : ∀ {ds : List D} {vs : List V}, RlL g Hs ds vs → (∀ d ∈ ds, ∃ i, d = .int i) → ∃ is : List Int, vs = is.map V.int ∧ is.length = ds.length
  | [], vs, r, _ => ⟨[], rll_nil.mp r, rfl⟩
  | d :: ds, vs, r, h => by
    obtain ⟨v, r', rfl, r1, r2⟩ := rll_cons.mp r
    obtain ⟨i, rfl⟩ := h d (by simp)
    cases rl_int.mp r1
    obtain ⟨is, rfl, l⟩ := rll_ints r2 fun x hx => h x (by simp [hx])
    exact ⟨i :: is, rfl, by simp [l]⟩
section
variable {X : Cx} {E : XK} {hid : List Nat} {ms : List (PM D)} {m : Fd} {x y : Str} {k k' j : Nat} {p p' pos pos' : Pos} {e1 e2 : Expr} {K : PySem.W.Frag} {cm : Str → Addr} {cs : List Str} {T : List (Addr × Str)}
theorem d_cup (cc : CalG X.prog X.w X.K X.mg X.base k y (spCupX K)) (cr : CalG X.prog X.w X.K X.mg X.base k' x (spL K cm cs T m)) (qt : Quiet X.A) (hr : Room j X.A) (hk : k ≤ j) (hk' : k' ≤ j) (hg : Gl X y) (hg' : Gl X x) (ha : DA X ⟨K, cm, cs, ⟨none, T⟩⟩ E hid [e1, e2] (aD ms))
    (hdb : (y == ("__debug__" : Str)) = false := by decide) (hdb' : (x == ("__debug__" : Str)) = false := by decide) (he : starEach [e1, e2] X.env = (false, eval e1 X.env) :: starEach [e2] X.env := by rfl) (hpl : (backTo pos' (starEach [e2] X.env)).any (·.1) = false := by rfl)
    (he' : starEach [.Call (.Name y p') [e1, e2] [] pos'] X.env = (false, eval (.Call (.Name y p') [e1, e2] [] pos') X.env) :: starEach [] X.env := by rfl) (hpl' : (backTo pos (starEach [] X.env)).any (·.1) = false := by rfl) :
    DE X ⟨K, cm, cs, ⟨none, T⟩⟩ E hid (.Call (.Name x p) [.Call (.Name y p') [e1, e2] [] pos'] [] pos) (cupD m ms) := by
  refine PE_imp (pe_cG cr qt hr hk' hg' (pa_cons (pe_cG cc qt hr hk hg ha hdb he hpl) pa_nil he') hdb' he' hpl') fun σ H Q ⟨st, c, Hs, sl, sm, cu, q⟩ => ⟨st, c, Hs, sl, sm, cu, (Post.bind q).mono fun ds c1 Hs1 H1 _ F1 q vs rs => ?_⟩
  split at q
  · rename_i ns i _
    split at q
    · rename_i h
      obtain ⟨⟨h1, h3, h4⟩, hm⟩ := h
      obtain ⟨v, r', rfl, r1, rs⟩ := rll_cons.mp rs
      obtain ⟨u, r'', rfl, r2, rs⟩ := rll_cons.mp rs
      cases rll_nil.mp rs
      cases rl_int.mp r2
      obtain ⟨a, rfl, ea⟩ := rl_scr.mp r1
      have ei : i = ((i.toNat : Nat) : Int) := by omega
      show spCupX K ([V.ref a, .int i] ++ []) H1 _ E0
      refine ⟨a, ns, i.toNat, by rw [← ei]; rfl, ?_, by omega, by omega, fun z b1 b2 H2 nz s12 ez b3 b4 b5 => ?_⟩
      · exact Evl.ex_l F1.sm ea
      · obtain ⟨c', em⟩ := hm b1 b2 b3 b4 b5
        show spL K cm cs T m [.ref z] H2 Q E0
        refine ⟨some z, Hs1, [.cup], some (b1, b2), F1.sm.trans s12, ⟨⟨F1.sm.free nz, ez⟩, F1.cu.tb.ext s12, F1.cu.th, F1.cu.nt⟩, rll_cons.mpr ⟨_, _, rfl, rl_cup.mpr ⟨z, rfl, rfl⟩, rll_nil.mpr rfl⟩, ?_⟩
        rw [em]
        intro Hs' H' F v rv
        cases rl_bl.mp rv
        have e0 : c1 = none := F1.cu.none_c rfl
        subst e0
        exact q Hs' H' (F.uncup s12 nz) _ (rl_bl.mpr rfl)
    · exact q.elim
  · exact q.elim
end
end L2.G
set_option Elab.async false
set_option linter.all false
set_option maxRecDepth 100000
set_option maxHeartbeats 2000000
namespace L2.G
open PySem PySem.Spec PyProof.Rows L2H
/-! C.m(..), m a static method of C -/
structure SMet (K : PySem.W.Frag) (C : Addr) (mc : Value) (m : Str) (p g : Addr) : Prop where
  rd : ClX.CRead K C mc
  at_ : PySem.W.findCls K (.ref C) mc m = some (.get (.builtin "staticmethod.__get__") (.ref p) .none (.ref C))
  rc : ∃ rest, PySem.W.recIn K p "staticmethod" = some (.ref g :: rest)
  kp : PySem.W.keepIn K (.ref g) = true
section
variable {X : Cx} {pins : List (Addr × Obj)} {σ : St} {H : Hp} {s : Shared} {C p g : Addr} {mc : Value} {m : Str} {A : Around} {E : Value → Shared → Prop}
theorem getmethsm_ok {pl : Sem Bool} {Q : Value × List Value → Shared → Prop} (I : Inv X pins σ H s) (k : SMet X.K C mc m p g) (h : ∀ s', Inv X pins σ H s' → Q (.ref g, []) s') : wpAny (model X.prog X.w) A (getMethod (.ref C) m pl) Q E s := by
  obtain ⟨rest, hp⟩ := k.rc
  exact PySem.W.method_cls I.kIn k.rd.ga (PySem.W.cls_bind I.kIn k.rd.rd k.at_ (wpAny_call (PySem.W.sm_get (s := { s with toks := s.toks + 1 }) I.kIn hp (PySem.W.handed_on rfl (h _ (I.tok _))))))
end
theorem kb_binds {K : PySem.W.Frag} {fd : FuncData} {ps : List Str} {n : Nat} (b : Binds K fd ps []) (hn : ps.length = n) : KBn K fd ps n [] (fun us _ => us) (fun vs _ => vs) :=
  ⟨fun s us ws X l1 l2 => by have := b s us X (by simp [l1, hn]); simpa using this, fun r1 _ => r1⟩
structure StaN (P : Program) (w : World) (K : PySem.W.Frag) (mg : Str → Option Value) (base : Heap) (k : Nat) (x : Str) (C : Addr) (m : Str) (n : Nat) (ks : List Str) (gV : List V → List V → List V) (sp : Sp) : Prop where
  ex : ∃ (mc : Value) (p f : Addr) (fd : FuncData) (ps : List Str) (g : List Value → List Value → List Value), SMet K C mc m p f ∧ FnOk P w K mg base (CN P w) k f fd ps sp ∧ mg x = some (.ref C) ∧ KBn K fd ps n ks g gV
section
variable {X : Cx} {k j n : Nat} {C : Addr} {sp : Sp} {E : XK} {x m : Str} {p pos apos : Pos} {e : Expr} {es : List Expr} {t tk : TA} {kws : List Keyword} {ks : List Str} {gV : List V → List V → List V}
theorem pe_sta {pl : Sem Bool} (c : StaN X.prog X.w X.K X.mg X.base k x C m n ks gV sp) (hx : Passes (CN X.prog X.w) X E) (hr : Room j X.A) (hk : k ≤ j) (hg : Gl X x) (ha : PA X (e :: es) t) (hkw : PK X kws tk) (hd : (x == ("__debug__" : Str)) = false := by decide)
    (hall : (backToKw pos (keywordEach kws X.env)).all (·.1.isSome) = true := by rfl) (hks : (backToKw pos (keywordEach kws X.env)).filterMap (·.1) = ks := by rfl)
    (he : starEach (e :: es) X.env = (false, eval e X.env) :: starEach es X.env := by rfl)
    (hpl : ((backTo pos (starEach (e :: es) X.env)).any (·.1) || (backToKw pos (keywordEach kws X.env)).any (·.1.isNone)) = false := by rfl)
    (ht : eval (.Call (.Attribute (.Name x p) m apos) (e :: es) kws pos) X.env = (do
      let ov ← eval (.Name x p) X.env
      standAt apos.atName
      let (f, first) ← holding [ov] (getMethod ov m pl)
      callWith pos f first (backTo pos (starEach (e :: es) X.env)) (backToKw pos (keywordEach kws X.env))) := by rfl) :
    PE X (.Call (.Attribute (.Name x p) m apos) (e :: es) kws pos) (tCallN n ks.length sp gV E t tk) := by
  obtain ⟨mc, p', f, fd, ps, g, sm, F, hm, b⟩ := c.ex
  refine ⟨fun pins s σ H Q I h => PySem.W.methodCall_KW (pl := pl) (thn ((pe_glob (pos := p) (v := .ref C) hg hm rfl hd).run pins s σ H (fun v H' => v = .ref C ∧ H' = H) I ⟨rfl, rfl⟩) ?_) ht⟩
  rintro u s1 ⟨y, H1, I1, rx, rfl, rfl⟩
  cases (show u = Value.ref C from rx)
  refine getmethsm_ok I1 sm fun s2 I2 => ?_
  refine PySem.W.callWith_KW (h₀ := X.base) I.ok.mod.kin sm.kp hall (thn (ha.run pos pins s2 σ H1 _ I2 h) fun us s3 ⟨vs, H3, I3, r, q⟩ => ?_) hpl he
  refine thn (hkw.run pos pins s3 σ H3 _ I3 q) fun ws s4 ⟨zs, H4, I4, rz, l1, l2, q4⟩ => ⟨I4.kIn, ?_⟩
  rw [hks]
  exact run_fnN F (hr.mono hk) b hx I4 r rz l1 l2 q4
theorem pe_staK {pl : Sem Bool} (c : StaN X.prog X.w X.K X.mg X.base k x C m 0 ks gV sp) (hx : Passes (CN X.prog X.w) X E) (hr : Room j X.A) (hk : k ≤ j) (hg : Gl X x) (hkw : PK X kws tk) (hd : (x == ("__debug__" : Str)) = false := by decide)
    (hall : (backToKw pos (keywordEach kws X.env)).all (·.1.isSome) = true := by rfl) (hks : (backToKw pos (keywordEach kws X.env)).filterMap (·.1) = ks := by rfl)
    (hpl : ((backTo pos (starEach [] X.env)).any (·.1) || (backToKw pos (keywordEach kws X.env)).any (·.1.isNone)) = false := by rfl)
    (ht : eval (.Call (.Attribute (.Name x p) m apos) [] kws pos) X.env = (do
      let ov ← eval (.Name x p) X.env
      standAt apos.atName
      let (f, first) ← holding [ov] (getMethod ov m pl)
      callWith pos f first (backTo pos (starEach [] X.env)) (backToKw pos (keywordEach kws X.env))) := by rfl) :
    PE X (.Call (.Attribute (.Name x p) m apos) [] kws pos) (tCallKE ks.length sp gV E tk) := by
  obtain ⟨mc, p', f, fd, ps, g, sm, F, hm, b⟩ := c.ex
  refine ⟨fun pins s σ H Q I h => PySem.W.methodCall_KW (pl := pl) (thn ((pe_glob (pos := p) (v := .ref C) hg hm rfl hd).run pins s σ H (fun v H' => v = .ref C ∧ H' = H) I ⟨rfl, rfl⟩) ?_) ht⟩
  rintro u s1 ⟨y, H1, I1, rx, rfl, rfl⟩
  cases (show u = Value.ref C from rx)
  refine getmethsm_ok I1 sm fun s2 I2 => ?_
  refine PySem.W.callWith_KW0 (h₀ := X.base) I.ok.mod.kin sm.kp hall (thn (hkw.run pos pins s2 σ H1 _ I2 h) ?_) hpl
  rintro ws s3 ⟨zs, H3, I3, rz, l2, q3⟩
  refine ⟨I3.kIn, ?_⟩
  rw [hks]
  exact run_fnN (vs := []) F (hr.mono hk) b hx I3 .nil rz rfl l2 q3
end
/-! by data -/
def staKD (m : Fd) (t : List Src) (zs : List (PM D)) : PM D := fun st c => (aD zs st c).bind fun es c => m (layL t [] [] es) c
section
variable {X : Cx} {g : Ga} {E : XK} {hid : List Nat} {ms zs : List (PM D)} {m : Fd} {x name C : Str} {k j n : Nat} {p pos apos : Pos} {e : Expr} {es : List Expr} {kws : List Keyword} {ks : List Str} {t : List Src}
theorem d_sta {pl : Sem Bool} (c : StaN X.prog X.w X.K X.mg X.base k x (g.cm C) name n [] (fun vs _ => vs) (spD g.K g.cm g.cs m)) (hx : Passes (CN X.prog X.w) X E) (hr : Room j X.A) (hk : k ≤ j) (hg : Gl X x) (ha : DA X g E hid (e :: es) (aD ms)) (hn : ms.length = n := by rfl) (hd : (x == ("__debug__" : Str)) = false := by decide)
    (he : starEach (e :: es) X.env = (false, eval e X.env) :: starEach es X.env := by rfl) (hpl : ((backTo pos (starEach (e :: es) X.env)).any (·.1) || (backToKw pos (keywordEach [] X.env)).any (·.1.isNone)) = false := by rfl)
    (hall : (backToKw pos (keywordEach [] X.env)).all (·.1.isSome) = true := by rfl) (hks : (backToKw pos (keywordEach [] X.env)).filterMap (·.1) = [] := by rfl)
    (ht : eval (.Call (.Attribute (.Name x p) name apos) (e :: es) [] pos) X.env = (do
      let ov ← eval (.Name x p) X.env
      standAt apos.atName
      let (f, first) ← holding [ov] (getMethod ov name pl)
      callWith pos f first (backTo pos (starEach (e :: es) X.env)) (backToKw pos (keywordEach [] X.env))) := by rfl) :
    DE X g E hid (.Call (.Attribute (.Name x p) name apos) (e :: es) [] pos) (caD m ms) := by
  refine PE_imp (pe_sta (pl := pl) c hx hr hk hg ha pk_nil hd hall hks he hpl ht) fun σ H Q ⟨st, c, Hs, sl, sm, cu, p⟩ => ⟨st, c, Hs, sl, sm, cu, (Post.bind p).mono fun ds c1 Hs1 H1 e1 F1 q vs rs => ?_⟩
  exact ⟨by rw [rs.length, aD_len e1, hn], rfl, call_of F1.sm F1.cu rs q⟩
theorem d_staK {pl : Sem Bool} (c : StaN X.prog X.w X.K X.mg X.base k x (g.cm C) name 0 ks (fun _ zs => layL t [] [] zs) (spD g.K g.cm g.cs m)) (hx : Passes (CN X.prog X.w) X E) (hr : Room j X.A) (hk : k ≤ j) (hg : Gl X x) (hkw : DK X g E hid kws (aD zs)) (hz : zs.length = ks.length := by rfl) (hd : (x == ("__debug__" : Str)) = false := by decide)
    (hall : (backToKw pos (keywordEach kws X.env)).all (·.1.isSome) = true := by rfl) (hks : (backToKw pos (keywordEach kws X.env)).filterMap (·.1) = ks := by rfl)
    (hpl : ((backTo pos (starEach [] X.env)).any (·.1) || (backToKw pos (keywordEach kws X.env)).any (·.1.isNone)) = false := by rfl)
    (ht : eval (.Call (.Attribute (.Name x p) name apos) [] kws pos) X.env = (do
      let ov ← eval (.Name x p) X.env
      standAt apos.atName
      let (f, first) ← holding [ov] (getMethod ov name pl)
      callWith pos f first (backTo pos (starEach [] X.env)) (backToKw pos (keywordEach kws X.env))) := by rfl) :
    DE X g E hid (.Call (.Attribute (.Name x p) name apos) [] kws pos) (staKD m t zs) := by
  refine PE_imp (pe_staK (pl := pl) c hx hr hk hg hkw hd hall hks hpl ht) fun σ H Q ⟨st, c, Hs, sl, sm, cu, p⟩ => ⟨st, c, Hs, sl, sm, cu, (Post.bind p).mono fun es c1 Hs1 H1 e1 F1 q vs rs => ?_⟩
  exact ⟨by rw [rs.length, aD_len e1, hz], call_of F1.sm F1.cu (rll_layL (rll_nil.mpr rfl) (rll_nil.mpr rfl) rs t) q⟩
end
end L2.G
set_option Elab.async false
set_option linter.all false
set_option maxRecDepth 100000
set_option maxHeartbeats 2000000
namespace L2.G
open PySem PySem.Spec PyProof.Rows L2H
/-! try, where nothing is raised -/
def tryS (f : PM Fl) : PM Fl := fun st c => match f st c with
  | .er _ _ => .no
  | r => r
theorem s_try {X : Cx} {g : Ga} {E : XK} {fx : List (Nat × V)} {Hs0 H0 : Hp} {ow ow' : List Nat} {f : PM Fl} {body : List Stmt} {h₀ : ExceptHandler} {hs : List ExceptHandler} {pos : Pos} (hb : DB X.nox g EF fx Hs0 H0 ow ow' body f) : DS X g E fx Hs0 H0 ow ow' (.Try body (h₀ :: hs) [] [] pos) (tryS f) := by
  refine PS_imp (ps_try_thru0 hb) fun D σ H ⟨st, c, Hs, s, p⟩ => ⟨st, c, Hs, s, ?_⟩
  unfold tryS at p
  revert p
  cases f st c with
  | no => exact fun z => z
  | er x c => exact fun z => z.elim
  | ok fl c =>
    cases fl with
    | nx st => exact fun z => z
    | rt d => exact fun z => z
/-! the law itself: no cup stands -/
def spD0 (K : PySem.W.Frag) (cm : Str → Addr) (cs : List Str) (T : List (Addr × Str)) (m : Fd) : Sp := fun vs H Q E => ∃ (Hs : Hp) (ds : List D), Same Hs H ∧ CupAt ⟨none, T⟩ Hs H none ∧ RlL ⟨K, cm, cs, ⟨none, T⟩⟩ Hs ds vs ∧ Post ⟨K, cm, cs, ⟨none, T⟩⟩ E Hs H (m ds none) fun d _ Hs' H' => ∀ v, Rl ⟨K, cm, cs, ⟨none, T⟩⟩ Hs' d v → Q v H'
section
variable {P : Program} {w : World} {K : PySem.W.Frag} {mg : Str → Option Value} {base : Heap} {k : Nat} {f : Addr} {fd : FuncData} {ps N : List Str} {cm : Str → Addr} {cs : List Str} {ow : List Nat} {fb : PM Fl} {x qual : Str} {st : Stmt}
theorem _root_.L2.Fun.okL0 {T : List (Addr × Str)} {cdv : Value} (F : Fun K x qual st f fd) (hc : fd.code = cdv) (S : FnScope N ps (defScope st))
    (hb : ∀ (A : Around) (outer : List Env) (s : Shared) (H Hs : Hp) (E : XK), Quiet (A.deeper (envOfC qual (defScope st) s.heap.objs.size f cdv)) → Room k (A.deeper (envOfC qual (defScope st) s.heap.objs.size f cdv)) →
      DB (cxOf CX0 P w K mg base N qual (defScope st) f cdv A outer s H E).nox ⟨K, cm, cs, ⟨none, T⟩⟩ EF [] Hs H [] ow (defBody st) fb) : FnOkG P w K mg base CX0 (k + 1) f fd ps (spD0 K cm cs T (noE (fnD ps.length N.length fb))) := by
  refine F.okGC hc S (fun vs H Q E ⟨Hs, ds, sm, cu, r, p⟩ => spD_lenN vs H Q E ⟨⟨none, T⟩, Hs, ds, none, sm, cu, r, p⟩) fun A outer s H vs Q E qt hr h => ?_
  obtain ⟨Hs, ds, sm, cu, r, p⟩ := h
  unfold noE fnD at p
  by_cases hl : ds.length = ps.length
  · rw [if_pos hl] at p
    refine ⟨_, hb A outer s H Hs E qt hr, _, none, Hs, sis_start (g := ⟨K, cm, cs, ⟨none, T⟩⟩) sm cu r hl, post_fn ?_⟩
    revert p
    cases (fb (ds.map some ++ List.replicate (N.length - ps.length) none) none).bind fun fl c => match fl with
      | .rt d => R.ok d c
      | .nx _ => .ok .non c with
    | no => exact fun z => z
    | ok d c => exact fun z => z
    | er x c => exact fun z => z.elim
  · rw [if_neg hl] at p
    exact p.elim
end
end L2.G
set_option Elab.async false
set_option linter.all false
set_option maxRecDepth 100000
set_option maxHeartbeats 4000000
namespace L2.G
open PySem PySem.Spec PyProof.Rows L2H
/-! errors caught, by data: what the helpers of the laws tell -/
structure TCl (K : PySem.W.Frag) (mg : Str → Option Value) where
  cl : Nat → Addr
  g_NotASign : mg "NotASign" = some (.ref (cl 0))
  g_NotARecord : mg "NotARecord" = some (.ref (cl 1))
  g_InvalidText : mg "InvalidText" = some (.ref (cl 2))
  g_InvalidPace : mg "InvalidPace" = some (.ref (cl 3))
  g_InvalidWidth : mg "InvalidWidth" = some (.ref (cl 4))
  g_InvalidPlace : mg "InvalidPlace" = some (.ref (cl 5))
  g_InvalidLength : mg "InvalidLength" = some (.ref (cl 6))
  g_InvalidTime : mg "InvalidTime" = some (.ref (cl 7))
  g_InvalidWindow : mg "InvalidWindow" = some (.ref (cl 8))
  g_InvalidName : mg "InvalidName" = some (.ref (cl 9))
  g_InvalidClaim : mg "InvalidClaim" = some (.ref (cl 10))
  g_InvalidIndex : mg "InvalidIndex" = some (.ref (cl 11))
  g_InvalidLine : mg "InvalidLine" = some (.ref (cl 12))
  g_InvalidDead : mg "InvalidDead" = some (.ref (cl 13))
  g_InvalidPaces : mg "InvalidPaces" = some (.ref (cl 14))
  g_InvalidGroups : mg "InvalidGroups" = some (.ref (cl 15))
  g_InvalidTimes : mg "InvalidTimes" = some (.ref (cl 16))
  g_InvalidDeeds : mg "InvalidDeeds" = some (.ref (cl 17))
  g_UnknownName : mg "UnknownName" = some (.ref (cl 18))
  g_InUse : mg "InUse" = some (.ref (cl 19))
  g_TooMany : mg "TooMany" = some (.ref (cl 20))
  g_OtherKind : mg "OtherKind" = some (.ref (cl 21))
  g_Broken : mg "Broken" = some (.ref (cl 22))
  g_NothingToUndo : mg "NothingToUndo" = some (.ref (cl 23))
  g_WrongValue : mg "WrongValue" = some (.ref (cl 24))
  g_WrongName : mg "WrongName" = some (.ref (cl 25))
  g_NoAnswer : mg "NoAnswer" = some (.ref (cl 26))
  b_ValueError : mg "ValueError" = none
  b_LookupError : mg "LookupError" = none
  b_ArithmeticError : mg "ArithmeticError" = none
section
variable {P : Program} {w : World} {K : PySem.W.Frag} {mg : Str → Option Value} {base : Heap}
theorem isP_ref {D a c dd : Addr} {fs : List (Str × V)} {b : Bool} {H : Hp} {Q : VK} (hd : H dd = some (.xd fs)) (hk : PySem.W.kitOne K (.ref D) (.ref c) = some b) (q : Q (.bl b) H) : rIsP K D a (some dd) [.ref a, .ref c] H Q :=
  ⟨.inr ⟨dd, fs, rfl, hd⟩, .ref c, .ref c, b, rfl, fun u hu => hu, hk, q⟩
theorem isP_ty {D a dd : Addr} {n : String} {fs : List (Str × V)} {b : Bool} {H : Hp} {Q : VK} (hd : H dd = some (.xd fs)) (hk : PySem.W.kitOne K (.ref D) (.type n) = some b) (q : Q (.bl b) H) : rIsP K D a (some dd) [.ref a, .ty n] H Q :=
  ⟨.inr ⟨dd, fs, rfl, hd⟩, .ty n, .type n, b, rfl, fun u hu => hu, hk, q⟩
/-- what isinstance answers of an exception of the class D, class by class -/
structure KitOf (T : TCl K mg) (D : Addr) (kit ab : Nat → Bool) : Prop where
  own : ∀ i, i < 24 → PySem.W.kitOne K (.ref D) (.ref (T.cl i)) = some (kit i)
  top : ∀ i, i < 3 → PySem.W.kitOne K (.ref D) (.ref (T.cl (24 + i))) = some (ab i)
  ve : PySem.W.kitOne K (.ref D) (.type "ValueError") = some (ab 3)
  le : PySem.W.kitOne K (.ref D) (.type "LookupError") = some (ab 4)
  ae : PySem.W.kitOne K (.ref D) (.type "ArithmeticError") = some (ab 5)
def codesOf (kit ab : Nat → Bool) : List V := ((List.range 24).filter kit).map (fun i : Nat => V.int i) ++ ((List.range 6).filter ab).map (fun i : Nat => V.int (30 + i))
def spClasses (T : TCl K mg) : Addr × Obj → Sp := fun p vs H Q E => ∃ (D dd : Addr) (fs : List (Str × V)) (kit ab : Nat → Bool), vs = [.ref p.1] ∧ ExcC K D ∧ Zc (.ref D) (some dd) p.2 ∧ (∃ vs, p.2.data = .fields vs) ∧ H dd = some (.xd fs) ∧ KitOf T D kit ab ∧
  ∀ L H', Same H H' → H' L = some (.lst (codesOf kit ab)) → Q (.ref L) H'
theorem same_none {H H' : Hp} {q : Addr} (e : Same H H') (n : H' q = none) : H q = none := by
  cases h : H q with
  | none => rfl
  | some o => rw [e q o h] at n; cases n
theorem ne_old {H : Hp} {a b : Addr} {o : HO} (h : H a = some o) (n : H b = none) : a ≠ b := fun e => by rw [e, n] at h; cases h
end
section
variable {X : Cx} {a : Addr} {oe : Obj} {cls : Value} {d : Option Addr} {pn : List (Addr × Obj)} {e : Expr} {te : TE} {pos : Pos} {n : Str}
/-- the field of a caught exception, its class told in the reading -/
def tXfA (K : PySem.W.Frag) (a : Addr) (cls : Value) (d : Option Addr) (f : Str) (te : TE) : TE := fun σ H Q => te σ H fun x H1 => x = .ref a ∧ ∃ (C dd : Addr) (fs : List (Str × V)) (v : V), cls = .ref C ∧ XfC K C ∧ PySem.W.findIn K (.ref C) f = some none ∧ d = some dd ∧ H1 dd = some (.xd fs) ∧ fs.lookup f = some v ∧ Q v H1
theorem pe_xfA (hz : Zc cls d oe) (hf : ∃ vs, oe.data = .fields vs) (he : PE (X.suite a ((a, oe) :: pn)) e te) (hb : attributeBase e n X.env (eval e X.env) = eval e X.env := by rfl) :
    PE (X.suite a ((a, oe) :: pn)) (.Attribute e n pos) (tXfA X.K a cls d n te) := by
  refine ⟨fun pins s σ H Q I h => attr_of hb (thn (he.run pins s σ H _ I h) ?_)⟩
  rintro u s1 ⟨x, H1, I1, rx, rfl, C, dd, fs, v, rfl, T, no, rfl, hd, l, q⟩
  cases (show u = Value.ref a from rx)
  obtain ⟨vs, ev⟩ := hf
  obtain ⟨mA, ns, rel⟩ := (show ObjOk X.prog X.w H1 s1.heap dd (.xd fs) from I1.hok dd _ hd)
  obtain ⟨od, ho, hl⟩ := lookIn_ns ns
  obtain ⟨y, hy, ry⟩ := RelO.some_of (v := v) (o := mA n) (by rw [← l]; exact rel n)
  have at_ : PySem.W.InstAt s1.heap a oe C (some od) := ⟨(I1.pin (a, oe) (List.mem_append_left _ List.mem_cons_self)).1, hz.1, by unfold PySem.W.notCls; rw [ev] <;> rfl, by rw [hz.2]; exact ho⟩
  exact HandSPX.exc_get I1.kIn at_ T.ga T.gg T.exC (PySem.W.findObj_own T.hdC no rfl (by rw [hl, hy])) (handed_of ry) ⟨v, H1, I1.tok _, ry, q⟩
end
section
variable {X : Cx}
/-- the table of classes, asked of a caught exception at a: told by its class and its dict -/
def spCls {K : PySem.W.Frag} {mg : Str → Option Value} (T : TCl K mg) (a : Addr) (cls : Value) (d : Option Addr) : Sp := fun vs H Q E => ∃ (D dd : Addr) (fs : List (Str × V)) (kit ab : Nat → Bool), vs = [.ref a] ∧ cls = .ref D ∧ d = some dd ∧ ExcC K D ∧ H dd = some (.xd fs) ∧ KitOf T D kit ab ∧
  ∀ L H', Same H H' → H' L = some (.lst (codesOf kit ab)) → Q (.ref L) H'
theorem hot_suite {a : Addr} {oe : Obj} {cls : Value} {d : Option Addr} {pn : List (Addr × Obj)} (hz : L2N.Zn cls d oe) (hf : ∃ vs, oe.data = .fields vs) : Hot1 (X.suite a pn).A (a, oe) := by
  obtain ⟨vs, ev⟩ := hf
  exact ⟨rfl, vs, ev, hz.2.2 vs ev⟩
theorem pe_cls {Y : Cx} {K : PySem.W.Frag} {mg : Str → Option Value} {T : TCl K mg} (eK : K = Y.K) (em : mg = Y.mg) {k j : Nat} {f a : Addr} {fd : FuncData} {ps : List Str} {x : Str} {q pos : Pos} {e : Expr} {es : List Expr} {t : TA} {oe : Obj} {cls : Value} {d : Option Addr} (F : FnE Y.prog Y.w K mg Y.base k f fd ps (spClasses T))
    (hot : Hot1 Y.A (a, oe)) (hp : (a, oe) ∈ Y.pn) (hz : Zc cls d oe) (hf : ∃ vs, oe.data = .fields vs) (hr : RoomH j Y.A) (hk : k ≤ j) (hg : Gl Y x) (hm : Y.mg x = some (.ref f)) (kp : PySem.W.keepIn Y.K (.ref f) = true) (hb : Binds Y.K fd ps []) (ha : PA Y (e :: es) t)
    (mt : ∀ σ H (Q Q' : List V → Hp → Prop), (∀ vs H', Q vs H' → Q' vs H') → t σ H Q → t σ H Q')
    (hdb : (x == ("__debug__" : Str)) = false := by decide) (he : starEach (e :: es) Y.env = (false, eval e Y.env) :: starEach es Y.env := by rfl) (hpl : (backTo pos (starEach es Y.env)).any (·.1) = false := by rfl) :
    PE Y (.Call (.Name x q) (e :: es) [] pos) (tCall (spCls T a cls d) [] E0 t) := by
  subst eK em
  have h := pe_callE (q := q) (pos := pos) (p := (a, oe)) F hot hp hr hk hg hm kp hb ha hdb he hpl
  refine ⟨fun pins s σ H Q I hq => h.run pins s σ H Q I (mt _ _ _ _ ?_ hq)⟩
  rintro vs H1 ⟨D, dd, fs, kit, ab, e1, rfl, rfl, ec, hd, kt, fin⟩
  exact ⟨D, dd, fs, kit, ab, e1, ec, hz, hf, hd, kt, fin⟩
theorem mono1 {i : Nat} : ∀ σ H (Q Q' : List V → Hp → Prop), (∀ vs H', Q vs H' → Q' vs H') → (tCons (tVar i) tNil) σ H Q → (tCons (tVar i) tNil) σ H Q' := by
  rintro σ H Q Q' m ⟨v, e, h⟩
  exact ⟨v, e, m _ _ h⟩
def fldOf (i : Nat) : Str := if i < 13 ∨ i = 18 ∨ i = 21 then "given" else if i = 20 then "most" else "index"
structure ErrI {K : PySem.W.Frag} {mg : Str → Option Value} (T : TCl K mg) (D : Addr) (i : Nat) (ab : Nat → Bool) : Prop where
  lt : i < 23
  ec : ExcC K D
  xf : XfC K D
  no : PySem.W.findIn K (.ref D) (fldOf i) = some none
  kt : KitOf T D (fun j => j == i) ab
  ex : PySem.W.exmAny K (.ref D) [.ref (T.cl 24), .ref (T.cl 25), .ref (T.cl 26)] = some true
/-- what is caught, told -/
def toldOf (i : Nat) (ab : Nat → Bool) (v : V) : List V := .int i :: (((List.range 6).filter ab).map (fun i : Nat => V.int (30 + i)) ++ [v])
def TCaught {K : PySem.W.Frag} {mg : Str → Option Value} (T : TCl K mg) (rR : List V → Hp → VK → Prop) : (XK → Hp → VK → Prop) → Hp → VK → Prop := fun tl H Q =>
  tl (fun cls d H' => ∃ (D dd : Addr) (i : Nat) (ab : Nat → Bool) (y : V), cls = .ref D ∧ d = some dd ∧ H' dd = some (.xd [(fldOf i, y)]) ∧ ErrI T D i ab ∧
      ∀ H2, Same H' H2 → rR [y] H2 fun v H3 => ∀ L H4, H3 L = none → Same H3 H4 → H4 L = some (.lst (toldOf i ab v)) → Q (.ref L) H4)
    H fun v H' => [V.str "given", v].length ≤ sizeLine ∧ ∀ L, H' L = none → Q (.ref L) (upd H' L (.lst [.str "given", v]))
end
end L2.G
set_option Elab.async false
set_option linter.all false
set_option maxRecDepth 100000
set_option maxHeartbeats 4000000
namespace L2.G
open PySem PySem.Spec PyProof.Rows L2H LamX
/-! what the law's helper tells of a lambda, by data -/
def cauD (tab : Str → Option (Nat × List Nat)) (me : PM D) : PM D := fun st c => match me st c with
  | .no => .no
  | .ok d c' => .ok (.lst [.str "given", d]) c'
  | .er x c' => match tab x.cls, x.ds with
    | some (i, bs), [y] => if x.ns = [fldOf i] ∧ shwOk y = true then .ok (.lst (.int i :: (bs.map (fun j : Nat => D.int j) ++ [.str (shwD y)]))) c' else .no
    | _, _ => .no
/-- what is known of the errors' classes -/
structure ErrT {K : PySem.W.Frag} {mg : Str → Option Value} (T : TCl K mg) (cm : Str → Addr) (tab : Str → Option (Nat × List Nat)) : Prop where
  at_ : ∀ C i bs, tab C = some (i, bs) → ∃ ab, ErrI T (cm C) i ab ∧ (List.range 6).filter ab = bs.map (· - 30) ∧ ∀ j ∈ bs, 30 ≤ j
theorem CupAt.ext {pc : Pc} {Hs H H' : Hp} {c : Cu} (h : CupAt pc Hs H c) (e : Same H H') : CupAt pc Hs H' c := h.hp (fun p _ o ho => e p o ho) (h.tb.ext e)
theorem txt_given : txtOk (Str.ofString "given") = true := by decide +kernel
theorem cau_of {X : Cx} {g : Ga} {E : XK} {hid : List Nat} {σ : St} {H : Hp} {Q : VK} {me : PM D} {tab : Str → Option (Nat × List Nat)} {mg : Str → Option Value} {Tc : TCl g.K mg} (ht : ErrT Tc g.cm tab) :
    tE g E hid (cauD tab me) σ H Q → tLam g.pc.tabs (TCaught Tc (rRp g.K)) (fun E => tE g E hid me) σ H Q := by
  rintro ⟨st, c, Hs, sl, sm, cu, p⟩
  refine ⟨cu.tb, fun H1 ex tb1 => ?_⟩
  have sm1 : Same Hs H1 := fun b o e => ex b o (sm b o e) fun ps z => cu.nt b ps (z ▸ e)
  have cu1 : CupAt g.pc Hs H1 c := cu.hp (fun q hq o ho => ex q o ho fun ps z => by
    obtain ⟨a, b, _, e⟩ := cu.on hq
    rw [e] at ho
    cases ho
    cases z) tb1
  have F01 : Fn g.pc Hs H Hs H1 c := by
    exact ⟨Same.refl _, fun b o _ t e => ex b o e t, fun _ _ _ _ n => n, sm1, cu1⟩
  show tE g _ hid me σ H1 _
  refine ⟨st, c, Hs, sl, sm1, cu1, ?_⟩
  unfold cauD at p
  cases em : me st c with
  | no => rw [em] at p; exact p
  | ok d c' =>
    rw [em] at p
    intro Hs' H' F v rv
    refine ⟨by rw [sizeLine_eq]; simp, fun L nL => ?_⟩
    refine p (upd Hs' L (.lst [.str "given", v])) _ ((F01.trans F).trans (Fn.new F.sm F.cu nL)) (.ref L) (rl_lst.mpr ⟨L, _, rfl, upd_same, by rw [sizeLine_eq]; simp, rll_cons.mpr ⟨_, _, rfl, rl_str.mpr ⟨rfl, txt_given⟩, rll_cons.mpr ⟨_, _, rfl, Rl.mono (same_new (F.sm.free nL)) d v rv, rll_nil.mpr rfl⟩⟩⟩)
  | er x c' =>
    rw [em] at p
    dsimp only at p
    split at p
    · rename_i i bs y et ey
      split at p
      · rename_i hn
        obtain ⟨hns, hsh⟩ := hn
        rintro cls dx Hs' H' F ⟨rfl, dd, gs, rfl, hd, hg, rl⟩
        rw [hns] at hg
        rw [ey] at rl
        obtain ⟨yv, rest, e1, ry, r2⟩ := rll_cons.mp rl
        have e3 := rll_nil.mp r2
        subst e3
        obtain ⟨q, rfl⟩ : ∃ q, gs = [q] := by
          cases gs with
          | nil => cases hg
          | cons q r =>
            cases r with
            | nil => exact ⟨q, rfl⟩
            | cons z r => simp at hg
        have eq1 : q = (fldOf i, yv) := by
          obtain ⟨a, b⟩ := q
          simp at hg e1
          rw [hg, e1]
        subst eq1
        obtain ⟨ab, er, eb, hb⟩ := ht.at_ _ _ _ et
        refine ⟨g.cm x.cls, dd, i, ab, yv, rfl, rfl, F.sm _ _ hd, er, fun H2 e2 => ?_⟩
        obtain ⟨sw, tk⟩ := shw_of (H := H2) (F.sm.trans e2) hsh ry
        refine ⟨yv, shwD y, rfl, sw, fun L H4 nL e4 lL => ?_⟩
        have s4 : Same H' H4 := e2.trans e4
        have nL' : H' L = none := by
          cases z : H' L with
          | none => rfl
          | some o => rw [e2 _ _ z] at nL; cases nL
        have cu4 : CupAt g.pc Hs' H4 c' := F.cu.ext s4
        have F4 : Fn g.pc Hs H Hs' H4 c' := by
          have F0 := F01.trans F
          exact ⟨F0.ss, fun b o ob t e => s4 b o (F0.bt b o ob t e), F0.nw, F.sm.trans s4, cu4⟩
        have hL0 : Fr H L := fun o t z => by
          rw [(F01.trans F).bt L o (F.cu.ne nL') t z] at nL'
          cases nL'
        have F5 := F4.show_ hL0 lL (F.sm.free nL') (F.cu.ne nL') (plain_lst _).1
        have el : toldOf i ab (.str (shwD y)) = V.int i :: (bs.map (fun j : Nat => V.int j) ++ [.str (shwD y)]) := by
          unfold toldOf
          rw [eb]
          congr 2
          rw [List.map_map]
          apply List.map_congr_left
          intro j hj
          have := hb j hj
          simp only [Function.comp_apply]
          congr 1
          omega
        rw [el] at lL F5
        have bl : bs.length ≤ 6 := by
          have := congrArg List.length eb
          rw [List.length_map] at this
          have h6 := List.length_filter_le ab (List.range 6)
          rw [List.length_range] at h6
          omega
        refine p _ _ F5 (.ref L) (rl_lst.mpr ⟨L, _, rfl, upd_same, by rw [sizeLine_eq]; simp; omega, rll_cons.mpr ⟨_, _, rfl, rl_int.mpr rfl, ?_⟩⟩)
        exact (RlL.map (fun j : Nat => D.int j) (fun j : Nat => V.int j) fun j _ => rl_int.mpr rfl).append (rll_cons.mpr ⟨_, _, rfl, rl_str.mpr ⟨rfl, tk⟩, rll_nil.mpr rfl⟩)
      · exact p.elim
    · exact p.elim
end L2.G
set_option Elab.async false
set_option linter.all false
set_option maxRecDepth 100000
set_option maxHeartbeats 400000
namespace L2.G
open PySem PySem.Spec PyProof.Rows L2H LamX
/-- the law's helper that catches -/
structure CauC (P : Program) (w : World) (K : PySem.W.Frag) (mg : Str → Option Value) (base : Heap) (cm : Str → Addr) (tab : Str → Option (Nat × List Nat)) : Prop where
  ex : ∃ (g0 : Addr) (oc : Value) (od : Option Addr) (osl : Array (Option Value)) (pg : Arguments) (bg : List Stmt) (sg : Scope) (dV kV doc pm cdv ct : Value) (an : Option Addr) (Ng : List Str) (Tc : TCl K mg),
    mg "_law_caught" = some (.ref g0) ∧ PySem.W.keepIn K (.ref g0) = true ∧ K.lookup g0 = some ⟨oc, od, .func (PySem.W.fnOf "_law_caught" "_law_caught" pg bg sg dV kV doc pm an cdv ct), osl⟩ ∧ PySem.W.codeIn K cdv "_law_caught" = true ∧
    L2.Binds K (PySem.W.fnOf "_law_caught" "_law_caught" pg bg sg dV kV doc pm an cdv ct) ["_law_act"] [] ∧ FnScope Ng ["_law_act"] sg ∧ Ng[0]? = some ("_law_act" : Str) ∧ Vis sg "_law_act" ∧ ErrT Tc cm tab ∧
    ∀ X : Cx, X.prog = P → X.w = w → X.K = K → X.mg = mg → X.base = base → Quiet X.A → ∀ q, GivesN X Ng "_law_caught" sg g0 cdv bg "_law_act" q (TCaught Tc (rRp K))
theorem d_caught {X : Cx} {g : Ga} {E : XK} {hid : List Nat} {me : PM D} {tab : Str → Option (Nat × List Nat)} {c P : Addr} {k : Nat} {params : Arguments} {body : Expr} {sc : Scope} {p lpos pos : Pos} (cc : CauC X.prog X.w X.K X.mg X.base g.cm tab) (hg : Gl X "_law_caught")
    (TB : TabB X.base X.mg c P) (hcode : X.env.code = .ref c) (hT : (P, X.env.qual ++ "<lambda>") ∈ g.pc.tabs) (hu : ∀ p ∈ g.pc.tabs, p.1 = P → p.2 = X.env.qual ++ "<lambda>")
    (qt : Quiet X.A) (hr : Room (k + 2) X.A) (L : LamS X.env.scope sc)
    (hbody : ∀ (A : Around) (outer : List Env) (s : Shared) (H : Hp) (E : XK) (f c' : Addr), Quiet (A.deeper (lamEnv X sc s.heap.objs.size f c')) → Room k (A.deeper (lamEnv X sc s.heap.objs.size f c')) → DE (lamN X A outer s H E sc f c') g E hid body me)
    (hdef : defaultsOf params X.env = ([], []) := by rfl)
    (hbind : ∀ (q : Str) (cl : List (Str × Addr)) (pm cv ctv : Value), bindArgs (PySem.W.kla_fn "<lambda>" q params body sc cl pm cv ctv) ⟨[], []⟩ = pure [] := by intros; rfl) (hK : X.K = g.K := by rfl) :
    DE X g E hid (.Call (.Name "_law_caught" p) [.Lambda params body sc lpos] [] pos) (cauD tab me) := by
  obtain ⟨g0, oc, od, osl, pg, bg, sg, dV, kV, doc, pm, cdv, ct, an, Ng, Tc, h1, h2, h3, h4, h5, h6, h7, h8, h9, h10⟩ := cc.ex
  have hG := h10 X rfl rfl rfl rfl rfl qt (X.env.qual ++ "<lambda>")
  refine PE_imp (pe_lamN (t := fun E => tE g E hid me) hg h1 h2 h3 h4 h5 h6 h7 h8 hG TB hcode hT hu qt hr L hdef hbind hbody) ?_
  clear hG h10 h3 h4 h5
  revert Tc
  rw [hK]
  intro Tc h9 σ H Q q
  exact cau_of (X := X) h9 q
theorem cn_eq (P : Program) (w : World) : CN P w = L2N.CX P w := rfl
theorem lam_px (X : Cx) (A : Around) (outer : List Env) (s : Shared) (H : Hp) (E : XK) (sc : Scope) (f c' : Addr) : Passes (CN X.prog X.w) (lamN X A outer s H E sc f c') E := by
  rw [cn_eq]
  exact lamN_pass
theorem lam_prog (X : Cx) (A : Around) (outer : List Env) (s : Shared) (H : Hp) (E : XK) (sc : Scope) (f c' : Addr) : (lamN X A outer s H E sc f c').prog = X.prog := rfl
theorem lam_w (X : Cx) (A : Around) (outer : List Env) (s : Shared) (H : Hp) (E : XK) (sc : Scope) (f c' : Addr) : (lamN X A outer s H E sc f c').w = X.w := rfl
theorem lam_px2 (X : Cx) (A : Around) (outer : List Env) (s : Shared) (H : Hp) (E : XK) (sc : Scope) (f c' : Addr) : Passes (CN (lamN X A outer s H E sc f c').prog (lamN X A outer s H E sc f c').w) (lamN X A outer s H E sc f c') E := by
  rw [lam_prog, lam_w]
  exact lam_px X A outer s H E sc f c'
/-- the table of a def that makes lambdas -/
structure LamT (base : Heap) (mg : Str → Option Value) (T : List (Addr × Str)) (cdv : Value) (q : Str) : Prop where
  ex : ∃ c P, cdv = .ref c ∧ TabB base mg c P ∧ (P, q ++ "<lambda>") ∈ T ∧ ∀ p ∈ T, p.1 = P → p.2 = q ++ "<lambda>"
theorem d_cau {X : Cx} {g : Ga} {E : XK} {hid : List Nat} {me : PM D} {tab : Str → Option (Nat × List Nat)} {k : Nat} {params : Arguments} {body : Expr} {sc : Scope} {p lpos pos : Pos} (cc : CauC X.prog X.w X.K X.mg X.base g.cm tab) (hg : Gl X "_law_caught")
    (lt : LamT X.base X.mg g.pc.tabs X.env.code X.env.qual) (qt : Quiet X.A) (hr : Room (k + 2) X.A) (L : LamS X.env.scope sc)
    (hbody : ∀ (A : Around) (outer : List Env) (s : Shared) (H : Hp) (E : XK) (f c' : Addr), Quiet (A.deeper (lamEnv X sc s.heap.objs.size f c')) → Room k (A.deeper (lamEnv X sc s.heap.objs.size f c')) → Passes (CN (lamN X A outer s H E sc f c').prog (lamN X A outer s H E sc f c').w) (lamN X A outer s H E sc f c') E → DE (lamN X A outer s H E sc f c') g E hid body me)
    (hdef : defaultsOf params X.env = ([], []) := by rfl)
    (hbind : ∀ (q : Str) (cl : List (Str × Addr)) (pm cv ctv : Value), bindArgs (PySem.W.kla_fn "<lambda>" q params body sc cl pm cv ctv) ⟨[], []⟩ = pure [] := by intros; rfl) (hK : X.K = g.K := by rfl) :
    DE X g E hid (.Call (.Name "_law_caught" p) [.Lambda params body sc lpos] [] pos) (cauD tab me) := by
  obtain ⟨c, P, h1, h2, h3, h4⟩ := lt.ex
  exact d_caught cc hg h2 h1 h3 h4 qt hr L (fun A outer s H E f c' q r => hbody A outer s H E f c' q r (lam_px2 X A outer s H E sc f c')) hdef hbind hK
theorem d_dic {X : Cx} {g : Ga} {E : XK} {hid : List Nat} {pos : Pos} : DE X g E hid (.Dict [] [] pos) (cD .dic) :=
  PE_imp pe_dnewK fun σ H Q ⟨st, c, Hs, sl, sm, cu, p⟩ => fun q nq => p (upd Hs q (.dK [])) _ (Fn.new sm cu nq) _ (rl_dic.mpr ⟨q, rfl, upd_same⟩)
/-- f(k = e, ..) -/
theorem d_caK {X : Cx} {g : Ga} {E : XK} {hid : List Nat} {zs : List (PM D)} {m : Fd} {x : Str} {k j : Nat} {p pos : Pos} {kws : List Keyword} {ks : List Str} {t : List Src} (c : CalKN X.prog X.w X.K X.mg X.base k x ks (fun _ zs => layL t [] [] zs) (spD g.K g.cm g.cs m)) (hx : Passes (CN X.prog X.w) X E) (hr : Room j X.A) (hk : k ≤ j) (hg : Gl X x) (hkw : DK X g E hid kws (aD zs)) (hz : zs.length = ks.length := by rfl)
    (hdb : (x == ("__debug__" : Str)) = false := by decide) (hall : (backToKw pos (keywordEach kws X.env)).all (·.1.isSome) = true := by rfl) (hks : (backToKw pos (keywordEach kws X.env)).filterMap (·.1) = ks := by rfl)
    (hpl : ((backTo pos (starEach [] X.env)).any (·.1) || (backToKw pos (keywordEach kws X.env)).any (·.1.isNone)) = false := by rfl) :
    DE X g E hid (.Call (.Name x p) [] kws pos) (staKD m t zs) := by
  refine PE_imp (pe_cKN c hx hr hk hg hkw hall hks hdb hpl) fun σ H Q ⟨st, c, Hs, sl, sm, cu, p⟩ => ⟨st, c, Hs, sl, sm, cu, (Post.bind p).mono fun es c1 Hs1 H1 e1 F1 q vs rs => ?_⟩
  exact ⟨by rw [rs.length, aD_len e1, hz], call_of F1.sm F1.cu (rll_layL (rll_nil.mpr rfl) (rll_nil.mpr rfl) rs t) q⟩
end L2.G
set_option Elab.async false
set_option linter.all false
set_option maxRecDepth 100000
set_option maxHeartbeats 2000000
namespace L2.G
open PySem PySem.Spec PyProof.Rows L2H
/-! comprehensions of two clauses -/
def lcG2 (t : Tg) (ws : List Nat) (test : PM Bool) (it1 : PM (List D)) (t1 : Tg) (ws1 : List Nat) (test1 : PM Bool) (elt : PM D) (st : PSt) : Nat → List D → Cu → R (List D)
  | _, [], c => .ok [] c
  | n, d :: items, c => match asgT t d (wipeD st ws) with
    | none => .no
    | some st2 => (nE test st2 c).bind fun b c => if b = true then (nE it1 st2 c).bind fun items1 c => if n + items1.length ≤ 1000000 then (lcG t1 ws1 test1 elt st2 items1 c).bind fun ys c => (lcG2 t ws test it1 t1 ws1 test1 elt st (n + items1.length) items c).bind fun zs c => .ok (ys ++ zs) c else .no else lcG2 t ws test it1 t1 ws1 test1 elt st n items c
def lcD2 (t : Tg) (ws : List Nat) (it : PM (List D)) (test : PM Bool) (it1 : PM (List D)) (t1 : Tg) (ws1 : List Nat) (test1 : PM Bool) (elt : PM D) : PM D := fun st c => (it st c).bind fun items c => (lcG2 t ws test it1 t1 ws1 test1 elt st 0 items c).bind fun ds c => .ok (.lst ds) c
section
variable {X : Cx} {g : Ga} {E : XK} {hid ws ws1 : List Nat} {σ : St} {H : Hp} {Q : VK} {t t1 : Tg} {it it1 : PM (List D)} {test test1 : PM Bool} {me : PM D}
theorem lc2_of (hw : ∀ i ∈ tgS t, i ∈ ws) (hw1 : ∀ i ∈ tgS t1, i ∈ ws1) : tEo g E hid (lcD2 t ws it test it1 t1 ws1 test1 me) σ H Q → tLc2 (tI g E hid it) (gOf g.K t) (tT g EF hid test) (tI g EF hid it1) (gOf g.K t1) (tT g EF hid test1) (tE g EF hid me) ws ws1 σ H Q := by
  rintro ⟨st, c, Hs, sl, sm, cu, p⟩
  refine ⟨st, c, Hs, sl, sm, cu, (Post.bind p).mono fun items c1 Hs1 H1 _ F1 q hlen J wJ L hL => ?_⟩
  have Lpc := F1.cu.ne hL
  have sz := sizeLine_eq
  have fr : Fr H L := fun o t z => by rw [F1.bt L o Lpc t z] at hL; cases hL
  let K2 : D → Cu → Hp → Hp → Prop := fun (d : D) _ (Hs' H' : Hp) => ∀ (p : Addr), Fr H p → Hs' p = none → Off g.pc p → Own1 g Hs' H' p d → Q (.ref p) H'
  let Pv : Nat → Hp → Prop := fun i H' => ∃ (n : Nat) (c' : Cu) (Hs' : Hp) (acc : List V) (ds : List D), n ≤ 1000000 ∧ Fn g.pc Hs1 H1 Hs' H' c' ∧ H' L = some (.lst acc) ∧ Hs' L = none ∧ RlL g Hs' ds acc ∧ ds.length ≤ n ∧
    Post g E Hs1 H1 ((lcG2 t ws test it1 t1 ws1 test1 me st n (items.drop i) c').bind fun ys c => .ok (.lst (ds ++ ys)) c) K2
  refine ⟨fun i m H' => m = items.length - i ∧ i ≤ items.length ∧ Pv i H', ⟨items.length, by simp, Nat.zero_le _, 0, c1, Hs1, [], [], by decide, Fn.hid F1.sm F1.cu hL, upd_same, F1.sm.free hL, rll_nil.mpr rfl, Nat.le_refl _, by rw [List.drop_zero]; exact q⟩, ?_⟩
  rintro i m H' ⟨rfl, hi, n, c', Hs', acc, ds, hn, F, hLa, hLn, rl, hle, pp⟩
  have gd : Same Hs1 H' := F.ss.trans F.sm
  by_cases hlt : i < items.length
  · refine .inr ⟨wJ.goes i H' hlt gd, Pv (i + 1), fun H'' p' => ⟨items.length - (i + 1), by omega, rfl, hlt, p'⟩, fun x H'' y0 => ?_⟩
    have y := wJ.yields i H' x H'' hlt gd y0
    obtain ⟨d, Hs3, hd, F3, rx⟩ := y.step F.ss F.sm F.cu
    rw [drop_cons hd] at pp
    unfold lcG2 at pp
    cases ea : asgT t d (wipeD st ws) with
    | none => rw [ea] at pp; exact pp.elim
    | some st2 =>
      rw [ea] at pp
      dsimp only at pp
      have sl3 : Sl g hid Hs3 (wipeD st ws) (wipe σ ws) := (((sl.mono F1.ss).mono F.ss).mono F3.ss).wipe ws
      refine asg_of F3.sm t d x _ st2 _ _ sl3.1 rx ea fun σ2 a => ⟨wipe_asg a hw, ?_⟩
      have sl4 := sl3.asg a
      refine ⟨st2, c', Hs3, sl4, F3.sm, F3.cu, post_nE (fun z => by rw [z] at pp; exact pp) (fun _ _ z => nE_er z) fun b c4 eb Hs4 H4 F4 => ?_⟩
      rw [eb, R.ok_bind] at pp
      have F34 := F3.trans F4
      have hL4 : H4 L = some (.lst acc) := F34.bt L _ Lpc (plain_lst _).1 hLa
      have hn4 : Hs4 L = none := F34.nw L _ (plain_lst _).1 hLa hLn
      cases b with
      | false =>
        rw [if_neg (by decide)] at pp ⊢
        exact ⟨n, c4, Hs4, acc, ds, hn, F.trans F34, hL4, hn4, RlL.mono F34.ss _ _ rl, hle, pp⟩
      | true =>
        rw [if_pos rfl] at pp ⊢
        refine ⟨st2, c4, Hs4, sl4.mono F4.ss, F4.sm, F4.cu, post_nE (fun z => by rw [z] at pp; exact pp) (fun _ _ z => nE_er z) fun items1 c5 ey Hs5 H5 F5 hlen1 J1 wJ1 => ?_⟩
        rw [ey, R.ok_bind] at pp
        by_cases hb : n + items1.length ≤ 1000000
        · rw [if_pos hb] at pp
          have F35 := F34.trans F5
          have hL5 : H5 L = some (.lst acc) := F35.bt L _ Lpc (plain_lst _).1 hLa
          have hn5 : Hs5 L = none := F35.nw L _ (plain_lst _).1 hLa hLn
          have FF := F.trans F35
          have sl5 : Sl g hid Hs5 st2 σ2 := (sl4.mono F4.ss).mono F5.ss
          let Pv1 : Nat → Hp → Prop := fun j H6 => ∃ (c6 : Cu) (Hs6 : Hp) (acc6 : List V) (ds6 : List D), Fn g.pc Hs1 H1 Hs6 H6 c6 ∧ Same Hs5 Hs6 ∧ H6 L = some (.lst acc6) ∧ Hs6 L = none ∧ RlL g Hs6 ds6 acc6 ∧ ds6.length ≤ n + j ∧
            Post g E Hs1 H1 (((lcG t1 ws1 test1 me st2 (items1.drop j) c6).bind fun ys c => (lcG2 t ws test it1 t1 ws1 test1 me st (n + items1.length) (items.drop (i + 1)) c).bind fun zs c => .ok (ys ++ zs) c).bind fun ys c => .ok (.lst (ds6 ++ ys)) c) K2
          refine ⟨fun j k H6 => k = items1.length - j ∧ j ≤ items1.length ∧ Pv1 j H6, ⟨items1.length, by simp, Nat.zero_le _, c5, Hs5, acc, ds, FF, Same.refl _, hL5, hn5, RlL.mono F35.ss _ _ rl, by omega, by rw [List.drop_zero]; exact pp⟩, ?_⟩
          rintro j k H6 ⟨rfl, hj, c6, Hs6, acc6, ds6, F6, e56, hL6, hn6, rl6, hle6, p6⟩
          have gd1 : Same Hs5 H6 := e56.trans F6.sm
          by_cases hlt1 : j < items1.length
          · refine .inr ⟨wJ1.goes j H6 hlt1 gd1, Pv1 (j + 1), fun H'' p' => ⟨items1.length - (j + 1), by omega, rfl, hlt1, p'⟩, fun x1 H7 y1 => ?_⟩
            have y2 := wJ1.yields j H6 x1 H7 hlt1 gd1 y1
            obtain ⟨d1, Hs7, hd1, F7, rx1⟩ := y2.step e56 F6.sm F6.cu
            rw [drop_cons hd1] at p6
            unfold lcG at p6
            cases ea1 : asgT t1 d1 (wipeD st2 ws1) with
            | none => rw [ea1] at p6; exact p6.elim
            | some st3 =>
              rw [ea1] at p6
              dsimp only at p6
              have sl6 : Sl g hid Hs7 (wipeD st2 ws1) (wipe σ2 ws1) := ((sl5.mono e56).mono F7.ss).wipe ws1
              refine asg_of F7.sm t1 d1 x1 _ st3 _ _ sl6.1 rx1 ea1 fun σ3 a1 => ⟨wipe_asg a1 hw1, ?_⟩
              have sl7 := sl6.asg a1
              refine ⟨st3, c6, Hs7, sl7, F7.sm, F7.cu, post_nE (fun z => by rw [z] at p6; exact p6) (fun _ _ z => nE_er z) fun b c8 eb1 Hs8 H8 F8 => ?_⟩
              rw [eb1, R.ok_bind] at p6
              have F78 := F7.trans F8
              have hL8 : H8 L = some (.lst acc6) := F78.bt L _ Lpc (plain_lst _).1 hL6
              have hn8 : Hs8 L = none := F78.nw L _ (plain_lst _).1 hL6 hn6
              cases b with
              | false =>
                rw [if_neg (by decide)] at p6 ⊢
                exact ⟨c8, Hs8, acc6, ds6, F6.trans F78, e56.trans F78.ss, hL8, hn8, RlL.mono F78.ss _ _ rl6, by omega, p6⟩
              | true =>
                rw [if_pos rfl] at p6 ⊢
                refine ⟨st3, c8, Hs8, sl7.mono F8.ss, F8.sm, F8.cu, post_nE (fun z => by rw [z] at p6; exact p6) (fun _ _ z => nE_er z) fun y c9 ey9 Hs9 H9 F9 v rv => ?_⟩
                rw [ey9, R.ok_bind] at p6
                have F79 := F78.trans F9
                have hL9 : H9 L = some (.lst acc6) := F79.bt L _ Lpc (plain_lst _).1 hL6
                have hn9 : Hs9 L = none := F79.nw L _ (plain_lst _).1 hL6 hn6
                have l1 := rl6.length
                refine ⟨acc6, hL9, by omega, c9, Hs9, acc6 ++ [v], ds6 ++ [y], (F6.trans F79).mut (fr_none hL) hn9 Lpc hL9 (plain_lst _), e56.trans F79.ss, upd_same, hn9, (RlL.mono F79.ss _ _ rl6).append (rll_cons.mpr ⟨v, [], rfl, rv, rll_nil.mpr rfl⟩), by simp; omega, ?_⟩
                revert p6
                cases lcG t1 ws1 test1 me st2 (items1.drop (j + 1)) c9 with
                | no => exact fun z => z
                | er x c => exact fun z => z
                | ok ys c =>
                  simp only [R.ok_bind]
                  cases lcG2 t ws test it1 t1 ws1 test1 me st (n + items1.length) (items.drop (i + 1)) c with
                  | no => exact fun z => z
                  | er x c => exact fun z => z
                  | ok zs c =>
                    intro p6
                    simp only [R.ok_bind, List.append_assoc, List.cons_append, List.nil_append] at p6 ⊢
                    exact p6
          · have ej : j = items1.length := by omega
            refine .inl ⟨ej ▸ wJ1.stops H6 gd1, n + items1.length, c6, Hs6, acc6, ds6, hb, F6, hL6, hn6, rl6, by omega, ?_⟩
            rw [ej, List.drop_length] at p6
            unfold lcG at p6
            rw [R.ok_bind] at p6
            revert p6
            cases lcG2 t ws test it1 t1 ws1 test1 me st (n + items1.length) (items.drop (i + 1)) c6 with
            | no => exact fun z => z
            | er x c => exact fun z => z
            | ok zs c =>
              intro p6
              simp only [R.ok_bind, List.nil_append] at p6 ⊢
              exact p6
        · rw [if_neg hb] at pp
          exact pp.elim
  · have ei : i = items.length := by omega
    refine .inl ⟨ei ▸ wJ.stops H' gd, ?_⟩
    rw [ei, List.drop_length] at pp
    unfold lcG2 at pp
    rw [R.ok_bind, List.append_nil] at pp
    exact pp Hs' H' F L fr hLn Lpc (.inl ⟨ds, acc, rfl, hLa, by omega, rl⟩)
variable {elt tg iter tg1 iter1 : Expr} {ifs ifs1 : List Expr} {scope : Scope} {own : List (Str × Nat)} {pos : Pos}
theorem do_lc2 (hc : X.calm = true) (hN : X.N.Nodup) (hi : DI X g E hid tg iter it) (ok : BlkOk X.N X.env.scope scope own)
    (hg : ∀ (s : Shared) (H : Hp) (C : Addr) (cl : List (Str × Addr)) (fp : List Addr), PG (X.blk s H scope (compEnvC scope cl C X.env) fp) tg (gOf g.K t))
    (ht : ∀ (s : Shared) (H : Hp) (C : Addr) (cl : List (Str × Addr)) (fp : List Addr), PTs (X.blk s H scope (compEnvC scope cl C X.env) fp) ifs (tT g EF hid test))
    (hi1 : ∀ (s : Shared) (H : Hp) (C : Addr) (cl : List (Str × Addr)) (fp : List Addr), DI (X.blk s H scope (compEnvC scope cl C X.env) fp) g EF hid tg1 iter1 it1)
    (hg1 : ∀ (s : Shared) (H : Hp) (C : Addr) (cl : List (Str × Addr)) (fp : List Addr), PG (X.blk s H scope (compEnvC scope cl C X.env) fp) tg1 (gOf g.K t1))
    (ht1 : ∀ (s : Shared) (H : Hp) (C : Addr) (cl : List (Str × Addr)) (fp : List Addr), PTs (X.blk s H scope (compEnvC scope cl C X.env) fp) ifs1 (tT g EF hid test1))
    (he : ∀ (s : Shared) (H : Hp) (C : Addr) (cl : List (Str × Addr)) (fp : List Addr), DE (X.blk s H scope (compEnvC scope cl C X.env) fp) g EF hid elt me) (hv : ∀ i ∈ ws1, i ∈ own.map (·.2) := by decide) (hw : ∀ i ∈ tgS t, i ∈ own.map (·.2) := by decide) (hw1 : ∀ i ∈ tgS t1, i ∈ ws1 := by decide)
    (hs : ∀ x, foldedSetIterable iter X.env x = pure x := by intro _; rfl) (hs1 : ∀ env x, foldedSetIterable iter1 env x = pure x := by intro _ _; rfl) : DEo X g E hid (.ListComp elt [⟨tg, iter, ifs, 0⟩, ⟨tg1, iter1, ifs1, 0⟩] scope pos) (lcD2 t (own.map (·.2)) it test it1 t1 ws1 test1 me) :=
  PE_imp (pe_lc2 hc hN hi ok hv hg ht hi1 hg1 ht1 he hs hs1) fun σ H Q q => lc2_of hw hw1 q
end
end L2.G
set_option Elab.async false
set_option linter.all false
set_option maxRecDepth 100000
set_option maxHeartbeats 4000000
namespace L2.G
open PySem PySem.Spec PyProof.Rows L2H LamX
def errTab (C : Str) : Option (Nat × List Nat) := (([("InvalidDead", (13, [30, 33])), ("InvalidGroups", (15, [30, 33])), ("InvalidLength", (6, [30, 33])), ("InvalidPaces", (14, [30, 33])), ("InvalidPlace", (5, [30, 33])), ("InvalidTime", (7, [30, 33])), ("InvalidWidth", (4, [30, 33])), ("InvalidWindow", (8, [30, 33])), ("NotARecord", (1, [30, 33]))] : List (Str × (Nat × List Nat))).lookup C)
def m_l_sip : Fd := noE sipD
def m_l_pick : Fd := (noE (fnD 2 2 (retS (opD ixF (vD 1) (caD m_l_sip [(vD 0), (biD lenF [(vD 1)])])))))
def m_check_record : Fd := (fnD 1 1 (ifS (notT (trD (unD (isC "Record") (vD 0)))) (raS "NotARecord" ["given"] [(vD 0)]) passS))
def m_is_whole : Fd := (fnD 3 3 (retS (andD (unD (isT "int") (vD 0)) (andD (unD notF (unD (isT "bool") (vD 0))) (chD (cmpF fun i j => decide (i ≤ j)) (cmpF fun i j => decide (i ≤ j)) (vD 1) (vD 0) (vD 2))))))
def m_is_time : Fd := (fnD 1 1 (retS (caD m_is_whole [(vD 0), (cD (.int 0)), (cD (.int 1000000000000000000000000000000))])))
def m_check_time : Fd := (fnD 1 1 (ifS (notT (trD (caD m_is_time [(vD 0)]))) (raS "InvalidTime" ["given"] [(vD 0)]) passS))
def m_letters_for : Fd := (fnD 2 3 (seqS (ifS (tbD (opD (eqF false) (vD 0) (cD (.str "?")))) (retS (cD (.str "-abcdefghijklmnopqrstuvwxyz"))) passS)
    (seqS (ifS (tbD (opD (inF false) (vD 0) (cD (.str "-abcdefghijklmnopqrstuvwxyz")))) (retS (vD 0)) passS)
    (seqS (ifS (tbD (opD (inF true) (vD 0) (cD (.str "ABCDEFGHIJKLMNOPQRSTUVWXYZ")))) (retS (cD (.str ""))) passS)
    (seqS (forS (.nm 2) (itT (vD 1)) (ifS (tbD (opD (inF false) (mtD lowerF (vD 0) []) (vD 2))) (retS (vD 2)) passS))
    (retS (cD (.str ""))))))))
def m_is_reading : Fd := (fnD 3 4 (seqS (ifS (orT (notT (trD (unD (isT "str") (vD 0)))) (tbD (opD (eqF true) (biD lenF [(vD 0)]) (vD 1)))) (retS (cD (.bl false))) passS)
    (retS (biD allF [(lcD (.nm 3) [3] (itS (vD 0)) yesT (opD (eqF true) (caD m_letters_for [(vD 3), (vD 2)]) (cD (.str ""))))]))))
def m_check_window : Fd := (fnD 3 3 (ifS (notT (trD (caD m_is_reading [(vD 0), (vD 1), (vD 2)]))) (raS "InvalidWindow" ["given"] [(vD 0)]) passS))
def m_mask_of : Fd := (fnD 1 3 (seqS (setS 1 (cD (.int 0)))
    (seqS (forS (.nm 2) (itS (vD 0)) (augS 1 (intF Builtin.bitOr) (opD shlF (cD (.int 1)) (mtD sindexF (cD (.str "-abcdefghijklmnopqrstuvwxyz")) [(vD 2)]))))
    (retS (vD 1)))))
def m_masks_for : Fd := (fnD 2 3 (retS (lcD (.nm 2) [2] (itS (vD 0)) yesT (caD m_mask_of [(caD m_letters_for [(vD 2), (vD 1)])]))))
def m_Record_glances : Fd := (fnD 1 1 (retS (opD ixF (unD (fldF "Record" "kept") (vD 0)) (cD (.int 6)))))
def m_Record_groups : Fd := (fnD 1 1 (retS (opD ixF (unD (fldF "Record" "kept") (vD 0)) (cD (.int 5)))))
def m_glimpses : Fd := (fnD 1 4 (seqS (setS 1 (prD "Record" (noE m_Record_groups) (vD 0)))
    (retS (lcD (.tp [(.nm 2), (.nm 3)]) [2, 3] (itT (prD "Record" (noE m_Record_glances) (vD 0))) yesT (tupD [(vD 2), (caD m_masks_for [(vD 3), (vD 1)])])))))
def m_Record_least : Fd := (fnD 1 1 (retS (opD ixF (unD (fldF "Record" "kept") (vD 0)) (cD (.int 2)))))
def m_Record_most : Fd := (fnD 1 1 (retS (opD ixF (unD (fldF "Record" "kept") (vD 0)) (cD (.int 3)))))
def m_Record_paces : Fd := (fnD 1 1 (retS (opD ixF (unD (fldF "Record" "kept") (vD 0)) (cD (.int 4)))))
def m_let_pairs : Fd := (fnD 1 3 (retS (lcD2 (.nm 1) [1, 2] (itR2 (prD "Record" (noE m_Record_least) (vD 0)) (opD addF (prD "Record" (noE m_Record_most) (vD 0)) (cD (.int 1)))) yesT (itT (prD "Record" (noE m_Record_paces) (vD 0))) (.nm 2) [2] yesT (tupD [(vD 1), (vD 2)]))))
def m_number_at : Fd := (fnD 4 4 (retS (opD modF (opD addF (vD 1) (opD mulF (vD 3) (vD 0))) (vD 2))))
def m_numbers_at : Fd := (fnD 4 6 (seqS (setS 4 (caD m_number_at [(vD 0), (cD (.int 0)), (vD 2), (vD 3)]))
    (retS (lcD (.nm 5) [5] (itR1 (vD 1)) yesT (opD modF (opD addF (vD 5) (vD 4)) (vD 2))))))
def m_cells : Fd := (fnD 3 8 (seqS (setS 3 (opD repF (lstD [(caD m_mask_of [(cD (.str "-abcdefghijklmnopqrstuvwxyz"))])]) (vD 1)))
    (seqS (forS (.tp [(.nm 4), (.nm 5)]) (itL (vD 0)) (forS (.tp [(.nm 6), (.nm 7)]) (itZ (itL (caD m_numbers_at [(vD 4), (biD lenF [(vD 5)]), (vD 1), (vD 2)])) (itL (vD 5))) (augIS 3 (intF Builtin.bitAnd) (vD 6) (vD 7))))
    (retS (vD 3)))))
def m_some_fits : Fd := (fnD 2 4 (seqS (forS (.tp [(.nm 2), (.nm 3)]) (itL (vD 0)) (ifS (tbD (opD (inF true) (cD (.int 0)) (caD m_cells [(vD 1), (vD 2), (vD 3)]))) (retS (cD (.bl true))) passS))
    (retS (cD (.bl false)))))
def m_Record_width : Fd := (fnD 1 1 (retS (opD ixF (unD (fldF "Record" "kept") (vD 0)) (cD (.int 0)))))
def m_can : Fd := (fnD 3 4 (seqS (exS (caD m_check_record [(vD 0)]))
    (seqS (exS (caD m_check_time [(vD 1)]))
    (seqS (exS (caD m_check_window [(vD 2), (prD "Record" (noE m_Record_width) (vD 0)), (prD "Record" (noE m_Record_groups) (vD 0))]))
    (seqS (setS 3 (opD addF (caD m_glimpses [(vD 0)]) (lstD [(tupD [(vD 1), (caD m_masks_for [(vD 2), (prD "Record" (noE m_Record_groups) (vD 0))])])])))
    (retS (caD m_some_fits [(caD m_let_pairs [(vD 0)]), (vD 3)])))))))
def m_possible : Fd := (fnD 1 6 (seqS (setS 1 (caD m_glimpses [(vD 0)]))
    (seqS (setS 2 (lcD (.tp [(.nm 3), (.nm 4)]) [3, 4] (itL (caD m_let_pairs [(vD 0)])) yesT (tupD [(vD 3), (vD 4), (caD m_cells [(vD 1), (vD 3), (vD 4)])])))
    (retS (lcD (.tp [(.nm 3), (.nm 4), (.nm 5)]) [3, 4, 5] (itL (vD 2)) (tbD (opD (inF true) (cD (.int 0)) (vD 5))) (tupD [(vD 3), (vD 4), (vD 5)]))))))
def m_windows_at : Fd := (fnD 2 7 (seqS (setS 2 (prD "Record" (noE m_Record_width) (vD 0)))
    (retS (lcD (.tp [(.nm 3), (.nm 4), (.nm 5)]) [3, 4, 5] (itL (caD m_possible [(vD 0)])) yesT (lcD (.nm 6) [6] (itL (caD m_numbers_at [(vD 1), (vD 2), (vD 3), (vD 4)])) yesT (opD ixF (vD 5) (vD 6)))))))
def m_all_at : Fd := (fnD 2 6 (seqS (setS 2 (opD repF (lstD [(cD (.int 0))]) (prD "Record" (noE m_Record_width) (vD 0))))
    (seqS (forS (.nm 3) (itL (caD m_windows_at [(vD 0), (vD 1)])) (forS (.tp [(.nm 4), (.nm 5)]) (itE (itL (vD 3))) (augIS 2 (intF Builtin.bitOr) (vD 4) (vD 5))))
    (retS (vD 2)))))
def m_check_place : Fd := (fnD 2 2 (ifS (notT (trD (caD m_is_whole [(vD 0), (cD (.int 0)), (opD (intF (· - ·)) (vD 1) (cD (.int 1)))]))) (raS "InvalidPlace" ["given"] [(vD 0)]) passS))
def m_letters_in : Fd := (fnD 1 3 (retS (mtD joinF (cD (.str "")) [(lcD (.tp [(.nm 1), (.nm 2)]) [1, 2] (itE (itS (cD (.str "-abcdefghijklmnopqrstuvwxyz")))) (tbD (opD (eqF false) (opD (intF Builtin.bitAnd) (opD shrF (vD 0) (vD 1)) (cD (.int 1))) (cD (.int 1)))) (vD 2))])))
def m_letters : Fd := (fnD 3 3 (seqS (exS (caD m_check_record [(vD 0)]))
    (seqS (exS (caD m_check_time [(vD 1)]))
    (seqS (exS (caD m_check_place [(vD 2), (prD "Record" (noE m_Record_width) (vD 0))]))
    (retS (caD m_letters_in [(opD ixF (caD m_all_at [(vD 0), (vD 1)]) (vD 2))]))))))
def m_are_within : Fd := (fnD 2 4 (retS (biD allF [(lcD (.tp [(.nm 2), (.nm 3)]) [2, 3] (itZ (itL (vD 0)) (itL (vD 1))) yesT (opD (eqF false) (opD (intF Builtin.bitAnd) (vD 2) (vD 3)) (vD 2)))])))
def m_must : Fd := (fnD 3 5 (seqS (exS (caD m_check_record [(vD 0)]))
    (seqS (exS (caD m_check_time [(vD 1)]))
    (seqS (exS (caD m_check_window [(vD 2), (prD "Record" (noE m_Record_width) (vD 0)), (prD "Record" (noE m_Record_groups) (vD 0))]))
    (seqS (setS 3 (caD m_masks_for [(vD 2), (prD "Record" (noE m_Record_groups) (vD 0))]))
    (retS (biD allF [(lcD (.nm 4) [4] (itL (caD m_windows_at [(vD 0), (vD 1)])) yesT (caD m_are_within [(vD 4), (vD 3)]))])))))))
def m_only_letter : Fd := (fnD 1 2 (seqS (setS 1 (caD m_letters_in [(vD 0)]))
    (retS (ifD (tbD (opD (eqF false) (biD lenF [(vD 1)]) (cD (.int 1)))) (vD 1) (cD (.str "?"))))))
def m_sure : Fd := (fnD 2 4 (seqS (exS (caD m_check_record [(vD 0)]))
    (seqS (exS (caD m_check_time [(vD 1)]))
    (seqS (setS 2 (caD m_all_at [(vD 0), (vD 1)]))
    (seqS (ifS (tbD (opD (inF false) (cD (.int 0)) (vD 2))) (retS (cD .non)) passS)
    (retS (mtD joinF (cD (.str "")) [(lcD (.nm 3) [3] (itL (vD 2)) yesT (caD m_only_letter [(vD 3)]))])))))))
def m_first_not_rising : Fd := (fnD 3 6 (seqS (setS 3 (vD 1))
    (seqS (forS (.tp [(.nm 4), (.nm 5)]) (itE (itT (vD 0))) (seqS (ifS (notT (trD (caD m_is_whole [(vD 5), (vD 3), (vD 2)]))) (retS (vD 4)) passS)
    (setS 3 (opD addF (vD 5) (cD (.int 1))))))
    (retS (cD .non)))))
def m_check_dead : Fd := (fnD 2 3 (seqS (ifS (notT (trD (unD (isT "tuple") (vD 0)))) (raS "InvalidDead" ["index"] [(cD .non)]) passS)
    (seqS (setS 2 (caD m_first_not_rising [(vD 0), (cD (.int 0)), (opD (intF (· - ·)) (vD 1) (cD (.int 1)))]))
    (ifS (tbD (opD notNF (vD 2) (cD .non))) (raS "InvalidDead" ["index"] [(vD 2)]) passS))))
def m_is_group : Fd := (fnD 2 3 (seqS (ifS (orT (notT (trD (unD (isT "str") (vD 0)))) (tbD (opD (cmpF fun i j => decide (i < j)) (biD lenF [(vD 0)]) (cD (.int 2))))) (retS (cD (.bl false))) passS)
    (retS (biD allF [(lcD (.nm 2) [2] (itS (vD 0)) yesT (andD (opD (inF false) (vD 2) (cD (.str "abcdefghijklmnopqrstuvwxyz"))) (andD (opD (inF true) (vD 2) (vD 1)) (opD (eqF false) (mtD countF (vD 0) [(vD 2)]) (cD (.int 1))))))]))))
def m_first_no_group : Fd := (fnD 1 4 (seqS (setS 1 (cD (.str "")))
    (seqS (forS (.tp [(.nm 2), (.nm 3)]) (itE (itT (vD 0))) (seqS (ifS (notT (trD (caD m_is_group [(vD 3), (vD 1)]))) (retS (vD 2)) passS)
    (augS 1 addI (vD 3))))
    (retS (cD .non)))))
def m_check_groups : Fd := (fnD 1 2 (seqS (ifS (notT (trD (unD (isT "tuple") (vD 0)))) (raS "InvalidGroups" ["index"] [(cD .non)]) passS)
    (seqS (setS 1 (caD m_first_no_group [(vD 0)]))
    (ifS (tbD (opD notNF (vD 1) (cD .non))) (raS "InvalidGroups" ["index"] [(vD 1)]) passS))))
def m_is_length : Fd := (fnD 2 2 (retS (caD m_is_whole [(vD 0), (vD 1), (cD (.int 40))])))
def m_check_length : Fd := (fnD 2 2 (ifS (notT (trD (caD m_is_length [(vD 0), (vD 1)]))) (raS "InvalidLength" ["given"] [(vD 0)]) passS))
def m_check_paces : Fd := (fnD 1 2 (seqS (ifS (orT (notT (trD (unD (isT "tuple") (vD 0)))) (tbD (opD (eqF false) (biD lenF [(vD 0)]) (cD (.int 0))))) (raS "InvalidPaces" ["index"] [(cD .non)]) passS)
    (seqS (setS 1 (caD m_first_not_rising [(vD 0), (unD negF (cD (.int 9))), (cD (.int 9))]))
    (ifS (tbD (opD notNF (vD 1) (cD .non))) (raS "InvalidPaces" ["index"] [(vD 1)]) passS))))
def m_check_width : Fd := (fnD 1 1 (ifS (notT (trD (caD m_is_whole [(vD 0), (cD (.int 1)), (cD (.int 8))]))) (raS "InvalidWidth" ["given"] [(vD 0)]) passS))
def m_Record_init : Fd := (inD "Record" 7 7 (seqS (exS (caD m_check_width [(vD 1)]))
    (seqS (exS (caD m_check_dead [(vD 2), (vD 1)]))
    (seqS (exS (caD m_check_length [(vD 3), (cD (.int 1))]))
    (seqS (exS (caD m_check_length [(vD 4), (vD 3)]))
    (seqS (exS (caD m_check_paces [(vD 5)]))
    (seqS (exS (caD m_check_groups [(vD 6)]))
    (fldS "Record" 0 "kept" (tupD [(vD 1), (vD 2), (vD 3), (vD 4), (vD 5), (vD 6), (tupD [])])))))))))
def m_unread_where_dead : Fd := (fnD 2 3 (retS (biD allF [(lcD (.nm 2) [2] (itT (vD 1)) yesT (opD (eqF false) (opD ixF (vD 0) (vD 2)) (cD (.str "?"))))])))
def m_Record_told : Fd := (fnD 1 1 (retS (unD (fldF "Record" "kept") (vD 0))))
def m_with_glances : Fd := (fnD 2 9 (seqS (asgS (.tp [(.nm 2), (.nm 3), (.nm 4), (.nm 5), (.nm 6), (.nm 7)]) (slD (prD "Record" (noE m_Record_told) (vD 0)) paN (paS (cD (.int 6)))))
    (seqS (setS 8 (mkD m_Record_init (fun ds zs => layL [.p 0, .k 0, .k 1, .k 2, .k 3, .k 4] ds [] zs) [(vD 2)] [(vD 3), (vD 4), (vD 5), (vD 6), (vD 7)]))
    (seqS (fldS "Record" 8 "kept" (tupD [(vD 2), (vD 3), (vD 4), (vD 5), (vD 6), (vD 7), (vD 1)]))
    (retS (vD 8))))))
def m_Record_dead : Fd := (fnD 1 1 (retS (opD ixF (unD (fldF "Record" "kept") (vD 0)) (cD (.int 1)))))
def m_Record_seen : Fd := (fnD 3 3 (seqS (exS (caD m_check_time [(vD 1)]))
    (seqS (exS (caD m_check_window [(vD 2), (prD "Record" (noE m_Record_width) (vD 0)), (prD "Record" (noE m_Record_groups) (vD 0))]))
    (seqS (ifS (notT (trD (caD m_unread_where_dead [(vD 2), (prD "Record" (noE m_Record_dead) (vD 0))]))) (raS "InvalidWindow" ["given"] [(vD 2)]) passS)
    (seqS (ifS (tbD (opD (cmpF fun i j => decide (j ≤ i)) (biD lenF [(prD "Record" (noE m_Record_glances) (vD 0))]) (cD (.int 12)))) neS passS)
    (retS (caD m_with_glances [(vD 0), (opD addF (prD "Record" (noE m_Record_glances) (vD 0)) (tupD [(tupD [(vD 1), (vD 2)])]))])))))))
def m_l_right : Fd := (noE (fnD 1 8 (seqS (setS 1 (meD "Record" "seen" m_Record_seen (mkD m_Record_init (fun ds zs => layL [.p 0, .k 0, .d 0, .d 1, .d 2, .k 1] ds [.int 1, .int 20, .tup [.int 1]] zs) [(cD (.int 3))] [(tupD [(cD (.int 1))]), (tupD [(cD (.str "oc"))])]) [(cD (.int 0)), (cD (.str "a?b"))]))
    (seqS (forS (.nm 2) (itR1 (cD (.int 6))) (seqS (setS 3 (caD m_l_pick [(vD 0), (lstD [(cD .non), (cD (.int 3)), (tupD []), (prD "Record" (noE m_Record_told) (vD 1)), (lstD []), (cD .dic), (cD (.bl true)), (cD (.str "ab at 1"))])]))
    (seqS (setS 4 (caD m_l_pick [(vD 0), (lstD [(unD negF (cD (.int 1))), (cD .non), (cD (.bl true)), (cD (.str "3")), (tupD [(cD (.int 3))]), (lstD []), (cD .dic), (opD addF (opD powF (cD (.int 10)) (cD (.int 30))) (cD (.int 1)))])]))
    (seqS (setS 5 (caD m_l_pick [(vD 0), (lstD [(unD negF (cD (.int 1))), (cD (.int 3)), (cD .non), (cD (.bl true)), (cD (.str "0")), (tupD [(cD (.int 0))]), (lstD []), (cD .dic)])]))
    (seqS (setS 6 (caD m_l_pick [(vD 0), (lstD [(cD .non), (cD (.str "ab")), (cD (.str "abcd")), (cD (.str "")), (cD (.str "A??")), (cD (.str "1??")), (tupD [(cD (.str "a")), (cD (.str "b")), (cD (.str "c"))]), (lstD []), (cD .dic), (cD (.str "a b")), (cD (.int 3)), (cD (.str "??i ")), (cD (.str "??X"))])]))
    (seqS (setS 7 (lstD [(cauD errTab (caD m_letters [(vD 3), (vD 4), (vD 5)]))]))
    (seqS (appS 7 (cauD errTab (caD m_sure [(vD 3), (vD 4)])))
    (seqS (appS 7 (cauD errTab (caD m_can [(vD 3), (vD 4), (vD 6)])))
    (seqS (appS 7 (cauD errTab (staKD m_must [.k 2, .k 1, .k 0] [(vD 6), (vD 4), (vD 3)])))
    (seqS (ifS (tbD (opD (eqF true) (vD 7) (opD mulF (lstD [(lstD [(cD (.int 1)), (cD (.int 30)), (cD (.int 33)), (biD reprF [(vD 3)])])]) (cD (.int 4))))) (retS (cD (.bl false))) passS)
    (seqS (setS 7 (lstD [(cauD errTab (caD m_letters [(vD 1), (vD 4), (vD 5)]))]))
    (seqS (appS 7 (cauD errTab (staKD m_sure [.k 1, .k 0] [(vD 4), (vD 1)])))
    (seqS (appS 7 (cauD errTab (caD m_can [(vD 1), (vD 4), (vD 6)])))
    (seqS (appS 7 (cauD errTab (caD m_must [(vD 1), (vD 4), (vD 6)])))
    (seqS (ifS (tbD (opD (eqF true) (vD 7) (opD mulF (lstD [(lstD [(cD (.int 7)), (cD (.int 30)), (cD (.int 33)), (biD reprF [(vD 4)])])]) (cD (.int 4))))) (retS (cD (.bl false))) passS)
    (seqS (setS 7 (lstD [(cauD errTab (caD m_letters [(vD 1), (cD (.int 4)), (vD 5)]))]))
    (seqS (appS 7 (cauD errTab (staKD m_letters [.k 2, .k 1, .k 0] [(vD 5), (cD (.int 4)), (vD 1)])))
    (seqS (ifS (tbD (opD (eqF true) (vD 7) (opD mulF (lstD [(lstD [(cD (.int 5)), (cD (.int 30)), (cD (.int 33)), (biD reprF [(vD 5)])])]) (cD (.int 2))))) (retS (cD (.bl false))) passS)
    (seqS (setS 7 (lstD [(cauD errTab (caD m_can [(vD 1), (cD (.int 4)), (vD 6)]))]))
    (seqS (appS 7 (cauD errTab (caD m_must [(vD 1), (cD (.int 4)), (vD 6)])))
    (seqS (appS 7 (cauD errTab (staKD m_can [.k 2, .k 1, .k 0] [(vD 6), (cD (.int 4)), (vD 1)])))
    (ifS (tbD (opD (eqF true) (vD 7) (opD mulF (lstD [(lstD [(cD (.int 8)), (cD (.int 30)), (cD (.int 33)), (biD reprF [(vD 6)])])]) (cD (.int 3))))) (retS (cD (.bl false))) passS))))))))))))))))))))))
    (retS (cD (.bl true)))))))
noncomputable def m_law : Fd := (noE (fnD 1 4 (seqS (setS 1 (mkD m_Record_init (fun ds zs => layL [.p 0, .d 0, .d 1, .d 2, .d 3, .k 0] ds [.tup [], .int 1, .int 20, .tup [.int 1]] zs) [(cD (.int 2))] [(tupD [(cD (.str "oc"))])]))
    (seqS (setS 2 (lstD [(cauD errTab (caD m_can [(vD 1), (opD powF (cD (.int 10)) (cD (.int 30))), (cD (.str "O-"))]))]))
    (seqS (appS 2 (cauD errTab (caD m_can [(vD 1), (cD (.int 0)), (cD (.str "A-"))])))
    (seqS (ifS (orT (tbD (opD (eqF true) (vD 2) (lstD [(lstD [(cD (.str "given")), (cD (.bl true))]), (lstD [(cD (.int 8)), (cD (.int 30)), (cD (.int 33)), (biD reprF [(cD (.str "A-"))])])]))) (tbD (opD (eqF true) (opD ixF (cauD errTab (caD m_letters [(vD 1), (cD (.int 0)), (cD (.int 1))])) (cD (.int 0))) (cD (.str "given"))))) (retS (cD (.bl false))) passS)
    (retS (biD allF [(lcD (.nm 3) [3] (itR1 (biD maxF [(cD (.int 2)), (biD minF [(biD lenF [(vD 0)]), (cD (.int 6))])])) yesT (cupD m_l_right [(vD 0), (vD 3)]))]))))))))
end L2.G
set_option Elab.async false
set_option linter.all false
set_option maxRecDepth 100000
set_option maxHeartbeats 4000000
namespace L2.G
open PySem PySem.Spec PyProof.Rows L2H LamX
def top (i : Nat) : Stmt := PySem.Challenge.pw_glimpserounds_k15_letters_refused.main.body.getD i (.Pass ⟨0, 0, 0, 0⟩)
abbrev s__wall : Stmt := top 0
abbrev s_WrongValue_init : Stmt := inClass (top 2) 0
abbrev s_NotASign_init : Stmt := inClass (top 3) 0
abbrev s_NotARecord_init : Stmt := inClass (top 4) 0
abbrev s_InvalidText_init : Stmt := inClass (top 5) 0
abbrev s_InvalidPace_init : Stmt := inClass (top 6) 0
abbrev s_InvalidWidth_init : Stmt := inClass (top 7) 0
abbrev s_InvalidPlace_init : Stmt := inClass (top 8) 0
abbrev s_InvalidLength_init : Stmt := inClass (top 9) 0
abbrev s_InvalidTime_init : Stmt := inClass (top 10) 0
abbrev s_InvalidWindow_init : Stmt := inClass (top 11) 0
abbrev s_InvalidName_init : Stmt := inClass (top 12) 0
abbrev s_InvalidClaim_init : Stmt := inClass (top 13) 0
abbrev s_InvalidIndex_init : Stmt := inClass (top 14) 0
abbrev s_InvalidLine_init : Stmt := inClass (top 15) 0
abbrev s_InvalidDead_init : Stmt := inClass (top 16) 0
abbrev s_InvalidPaces_init : Stmt := inClass (top 17) 0
abbrev s_InvalidGroups_init : Stmt := inClass (top 18) 0
abbrev s_InvalidTimes_init : Stmt := inClass (top 19) 0
abbrev s_InvalidDeeds_init : Stmt := inClass (top 20) 0
abbrev s_WrongName_init : Stmt := inClass (top 21) 0
abbrev s_UnknownName_init : Stmt := inClass (top 22) 0
abbrev s_InUse_init : Stmt := inClass (top 23) 0
abbrev s_NoAnswer_init : Stmt := inClass (top 24) 0
abbrev s_TooMany_init : Stmt := inClass (top 25) 0
abbrev s_OtherKind_init : Stmt := inClass (top 26) 0
abbrev s_Broken_init : Stmt := inClass (top 27) 0
abbrev s_is_whole : Stmt := top 39
abbrev s_is_row : Stmt := top 40
abbrev s_is_time : Stmt := top 41
abbrev s_check_time : Stmt := top 42
abbrev s_check_width : Stmt := top 43
abbrev s_check_place : Stmt := top 44
abbrev s_is_pace : Stmt := top 45
abbrev s_check_pace : Stmt := top 46
abbrev s_is_length : Stmt := top 47
abbrev s_check_length : Stmt := top 48
abbrev s_first_not_rising : Stmt := top 49
abbrev s_check_dead : Stmt := top 50
abbrev s_check_paces : Stmt := top 51
abbrev s_is_group : Stmt := top 52
abbrev s_first_no_group : Stmt := top 53
abbrev s_check_groups : Stmt := top 54
abbrev s_number_at : Stmt := top 55
abbrev s_numbers_at : Stmt := top 56
abbrev s_letters_for : Stmt := top 57
abbrev s_is_reading : Stmt := top 58
abbrev s_check_window : Stmt := top 59
abbrev s_agrees : Stmt := top 60
abbrev s_mask_of : Stmt := top 61
abbrev s_letters_in : Stmt := top 62
abbrev s_masks_for : Stmt := top 63
abbrev s_are_within : Stmt := top 64
abbrev s_is_text : Stmt := top 66
abbrev s_Sign_init : Stmt := inClass (top 67) 0
abbrev s_Sign_text : Stmt := inClass (top 67) 1
abbrev s_Sign_pace : Stmt := inClass (top 67) 2
abbrev s_Sign_window : Stmt := inClass (top 67) 3
abbrev s_Sign_eq : Stmt := inClass (top 67) 4
abbrev s_Sign_len : Stmt := inClass (top 67) 5
abbrev s_Sign_str : Stmt := inClass (top 67) 6
abbrev s_Sign_repr : Stmt := inClass (top 67) 7
abbrev s_check_sign : Stmt := top 68
abbrev s_Record_init : Stmt := inClass (top 70) 0
abbrev s_Record_width : Stmt := inClass (top 70) 1
abbrev s_Record_dead : Stmt := inClass (top 70) 2
abbrev s_Record_least : Stmt := inClass (top 70) 3
abbrev s_Record_most : Stmt := inClass (top 70) 4
abbrev s_Record_mostset : Stmt := inClass (top 70) 5
abbrev s_Record_paces : Stmt := inClass (top 70) 6
abbrev s_Record_groups : Stmt := inClass (top 70) 7
abbrev s_Record_glances : Stmt := inClass (top 70) 8
abbrev s_Record_told : Stmt := inClass (top 70) 9
abbrev s_Record_seen : Stmt := inClass (top 70) 10
abbrev s_Record_of : Stmt := inClass (top 70) 11
abbrev s_Record_fits : Stmt := inClass (top 70) 12
abbrev s_Record_joined : Stmt := inClass (top 70) 13
abbrev s_Record_eq : Stmt := inClass (top 70) 14
abbrev s_Record_len : Stmt := inClass (top 70) 15
abbrev s_Record_bool : Stmt := inClass (top 70) 16
abbrev s_Record_repr : Stmt := inClass (top 70) 17
abbrev s_check_record : Stmt := top 71
abbrev s_let_pairs : Stmt := top 72
abbrev s_unread_where_dead : Stmt := top 73
abbrev s_with_glances : Stmt := top 74
abbrev s_is_row_of_pairs : Stmt := top 75
abbrev s_record_told : Stmt := top 76
abbrev s_retold : Stmt := top 77
abbrev s_glimpses : Stmt := top 79
abbrev s_cells : Stmt := top 80
abbrev s_some_fits : Stmt := top 81
abbrev s_possible : Stmt := top 82
abbrev s_windows_at : Stmt := top 84
abbrev s_all_at : Stmt := top 85
abbrev s_letters : Stmt := top 86
abbrev s_only_letter : Stmt := top 87
abbrev s_sure : Stmt := top 88
abbrev s_can : Stmt := top 89
abbrev s_must : Stmt := top 90
abbrev s_l_cup : Stmt := top 92
abbrev s_l_sip : Stmt := top 93
abbrev s_l_pick : Stmt := top 94
abbrev s_l_classes : Stmt := top 95
abbrev s_l_caught : Stmt := top 96
abbrev s_l_right : Stmt := top 97
abbrev s_law : Stmt := top 98
theorem sc_l_pick : FnScope ["_law_cup_here", "_law_things"] ["_law_cup_here", "_law_things"] (defScope s_l_pick) := ⟨rfl, rfl, rfl, by decide +kernel, rfl, by decide +kernel, by decide +kernel⟩
theorem sc_check_record : FnScope ["record"] ["record"] (defScope s_check_record) := ⟨rfl, rfl, rfl, by decide +kernel, rfl, by decide +kernel, by decide +kernel⟩
theorem sc_is_whole : FnScope ["value", "least", "most"] ["value", "least", "most"] (defScope s_is_whole) := ⟨rfl, rfl, rfl, by decide +kernel, rfl, by decide +kernel, by decide +kernel⟩
theorem sc_is_time : FnScope ["value"] ["value"] (defScope s_is_time) := ⟨rfl, rfl, rfl, by decide +kernel, rfl, by decide +kernel, by decide +kernel⟩
theorem sc_check_time : FnScope ["time"] ["time"] (defScope s_check_time) := ⟨rfl, rfl, rfl, by decide +kernel, rfl, by decide +kernel, by decide +kernel⟩
theorem sc_letters_for : FnScope ["mark", "groups", "group"] ["mark", "groups"] (defScope s_letters_for) := ⟨rfl, rfl, rfl, by decide +kernel, rfl, by decide +kernel, by decide +kernel⟩
theorem sc_is_reading : FnScope ["value", "width", "groups", "mark"] ["value", "width", "groups"] (defScope s_is_reading) := ⟨rfl, rfl, rfl, by decide +kernel, rfl, by decide +kernel, by decide +kernel⟩
theorem sc_check_window : FnScope ["window", "width", "groups"] ["window", "width", "groups"] (defScope s_check_window) := ⟨rfl, rfl, rfl, by decide +kernel, rfl, by decide +kernel, by decide +kernel⟩
theorem sc_mask_of : FnScope ["letters", "mask", "letter"] ["letters"] (defScope s_mask_of) := ⟨rfl, rfl, rfl, by decide +kernel, rfl, by decide +kernel, by decide +kernel⟩
theorem sc_masks_for : FnScope ["reading", "groups", "mark"] ["reading", "groups"] (defScope s_masks_for) := ⟨rfl, rfl, rfl, by decide +kernel, rfl, by decide +kernel, by decide +kernel⟩
theorem sc_Record_glances : FnScope ["self"] ["self"] (defScope s_Record_glances) := ⟨rfl, rfl, rfl, by decide +kernel, rfl, by decide +kernel, by decide +kernel⟩
theorem sc_Record_groups : FnScope ["self"] ["self"] (defScope s_Record_groups) := ⟨rfl, rfl, rfl, by decide +kernel, rfl, by decide +kernel, by decide +kernel⟩
theorem sc_glimpses : FnScope ["record", "groups", "time", "reading"] ["record"] (defScope s_glimpses) := ⟨rfl, rfl, rfl, by decide +kernel, rfl, by decide +kernel, by decide +kernel⟩
theorem sc_Record_least : FnScope ["self"] ["self"] (defScope s_Record_least) := ⟨rfl, rfl, rfl, by decide +kernel, rfl, by decide +kernel, by decide +kernel⟩
theorem sc_Record_most : FnScope ["self"] ["self"] (defScope s_Record_most) := ⟨rfl, rfl, rfl, by decide +kernel, rfl, by decide +kernel, by decide +kernel⟩
theorem sc_Record_paces : FnScope ["self"] ["self"] (defScope s_Record_paces) := ⟨rfl, rfl, rfl, by decide +kernel, rfl, by decide +kernel, by decide +kernel⟩
theorem sc_let_pairs : FnScope ["record", "length", "pace"] ["record"] (defScope s_let_pairs) := ⟨rfl, rfl, rfl, by decide +kernel, rfl, by decide +kernel, by decide +kernel⟩
theorem sc_number_at : FnScope ["time", "place", "length", "pace"] ["time", "place", "length", "pace"] (defScope s_number_at) := ⟨rfl, rfl, rfl, by decide +kernel, rfl, by decide +kernel, by decide +kernel⟩
theorem sc_numbers_at : FnScope ["time", "width", "length", "pace", "start", "place"] ["time", "width", "length", "pace"] (defScope s_numbers_at) := ⟨rfl, rfl, rfl, by decide +kernel, rfl, by decide +kernel, by decide +kernel⟩
theorem sc_cells : FnScope ["looks", "length", "pace", "row", "time", "masks", "number", "mask"] ["looks", "length", "pace"] (defScope s_cells) := ⟨rfl, rfl, rfl, by decide +kernel, rfl, by decide +kernel, by decide +kernel⟩
theorem sc_some_fits : FnScope ["let", "looks", "length", "pace"] ["let", "looks"] (defScope s_some_fits) := ⟨rfl, rfl, rfl, by decide +kernel, rfl, by decide +kernel, by decide +kernel⟩
theorem sc_Record_width : FnScope ["self"] ["self"] (defScope s_Record_width) := ⟨rfl, rfl, rfl, by decide +kernel, rfl, by decide +kernel, by decide +kernel⟩
theorem sc_can : FnScope ["record", "time", "window", "looks"] ["record", "time", "window"] (defScope s_can) := ⟨rfl, rfl, rfl, by decide +kernel, rfl, by decide +kernel, by decide +kernel⟩
theorem sc_possible : FnScope ["record", "looks", "rows", "length", "pace", "row"] ["record"] (defScope s_possible) := ⟨rfl, rfl, rfl, by decide +kernel, rfl, by decide +kernel, by decide +kernel⟩
theorem sc_windows_at : FnScope ["record", "time", "width", "length", "pace", "row", "number"] ["record", "time"] (defScope s_windows_at) := ⟨rfl, rfl, rfl, by decide +kernel, rfl, by decide +kernel, by decide +kernel⟩
theorem sc_all_at : FnScope ["record", "time", "union", "window", "place", "mask"] ["record", "time"] (defScope s_all_at) := ⟨rfl, rfl, rfl, by decide +kernel, rfl, by decide +kernel, by decide +kernel⟩
theorem sc_check_place : FnScope ["place", "width"] ["place", "width"] (defScope s_check_place) := ⟨rfl, rfl, rfl, by decide +kernel, rfl, by decide +kernel, by decide +kernel⟩
theorem sc_letters_in : FnScope ["mask", "bit", "letter"] ["mask"] (defScope s_letters_in) := ⟨rfl, rfl, rfl, by decide +kernel, rfl, by decide +kernel, by decide +kernel⟩
theorem sc_letters : FnScope ["record", "time", "place"] ["record", "time", "place"] (defScope s_letters) := ⟨rfl, rfl, rfl, by decide +kernel, rfl, by decide +kernel, by decide +kernel⟩
theorem sc_are_within : FnScope ["masks", "others", "mask", "other"] ["masks", "others"] (defScope s_are_within) := ⟨rfl, rfl, rfl, by decide +kernel, rfl, by decide +kernel, by decide +kernel⟩
theorem sc_must : FnScope ["record", "time", "window", "wanted", "shown"] ["record", "time", "window"] (defScope s_must) := ⟨rfl, rfl, rfl, by decide +kernel, rfl, by decide +kernel, by decide +kernel⟩
theorem sc_only_letter : FnScope ["mask", "held"] ["mask"] (defScope s_only_letter) := ⟨rfl, rfl, rfl, by decide +kernel, rfl, by decide +kernel, by decide +kernel⟩
theorem sc_sure : FnScope ["record", "time", "union", "mask"] ["record", "time"] (defScope s_sure) := ⟨rfl, rfl, rfl, by decide +kernel, rfl, by decide +kernel, by decide +kernel⟩
theorem sc_first_not_rising : FnScope ["row", "least", "most", "floor", "index", "item"] ["row", "least", "most"] (defScope s_first_not_rising) := ⟨rfl, rfl, rfl, by decide +kernel, rfl, by decide +kernel, by decide +kernel⟩
theorem sc_check_dead : FnScope ["dead", "width", "index"] ["dead", "width"] (defScope s_check_dead) := ⟨rfl, rfl, rfl, by decide +kernel, rfl, by decide +kernel, by decide +kernel⟩
theorem sc_is_group : FnScope ["value", "used", "letter"] ["value", "used"] (defScope s_is_group) := ⟨rfl, rfl, rfl, by decide +kernel, rfl, by decide +kernel, by decide +kernel⟩
theorem sc_first_no_group : FnScope ["groups", "used", "index", "group"] ["groups"] (defScope s_first_no_group) := ⟨rfl, rfl, rfl, by decide +kernel, rfl, by decide +kernel, by decide +kernel⟩
theorem sc_check_groups : FnScope ["groups", "index"] ["groups"] (defScope s_check_groups) := ⟨rfl, rfl, rfl, by decide +kernel, rfl, by decide +kernel, by decide +kernel⟩
theorem sc_is_length : FnScope ["value", "least"] ["value", "least"] (defScope s_is_length) := ⟨rfl, rfl, rfl, by decide +kernel, rfl, by decide +kernel, by decide +kernel⟩
theorem sc_check_length : FnScope ["length", "least"] ["length", "least"] (defScope s_check_length) := ⟨rfl, rfl, rfl, by decide +kernel, rfl, by decide +kernel, by decide +kernel⟩
theorem sc_check_paces : FnScope ["paces", "index"] ["paces"] (defScope s_check_paces) := ⟨rfl, rfl, rfl, by decide +kernel, rfl, by decide +kernel, by decide +kernel⟩
theorem sc_check_width : FnScope ["width"] ["width"] (defScope s_check_width) := ⟨rfl, rfl, rfl, by decide +kernel, rfl, by decide +kernel, by decide +kernel⟩
theorem sc_Record_init : FnScope ["self", "width", "dead", "least", "most", "paces", "groups"] ["self", "width", "dead", "least", "most", "paces", "groups"] (defScope s_Record_init) := ⟨rfl, rfl, rfl, by decide +kernel, rfl, by decide +kernel, by decide +kernel⟩
theorem sc_unread_where_dead : FnScope ["window", "dead", "place"] ["window", "dead"] (defScope s_unread_where_dead) := ⟨rfl, rfl, rfl, by decide +kernel, rfl, by decide +kernel, by decide +kernel⟩
theorem sc_Record_told : FnScope ["self"] ["self"] (defScope s_Record_told) := ⟨rfl, rfl, rfl, by decide +kernel, rfl, by decide +kernel, by decide +kernel⟩
theorem sc_with_glances : FnScope ["record", "glances", "width", "dead", "least", "most", "paces", "groups", "made"] ["record", "glances"] (defScope s_with_glances) := ⟨rfl, rfl, rfl, by decide +kernel, rfl, by decide +kernel, by decide +kernel⟩
theorem sc_Record_dead : FnScope ["self"] ["self"] (defScope s_Record_dead) := ⟨rfl, rfl, rfl, by decide +kernel, rfl, by decide +kernel, by decide +kernel⟩
theorem sc_Record_seen : FnScope ["self", "time", "window"] ["self", "time", "window"] (defScope s_Record_seen) := ⟨rfl, rfl, rfl, by decide +kernel, rfl, by decide +kernel, by decide +kernel⟩
theorem sc_l_right : FnScope ["_law_cup_here", "_law_mine", "_law_turn", "_law_bad", "_law_at", "_law_j", "_law_words", "_law_seen"] ["_law_cup_here"] (defScope s_l_right) := ⟨rfl, rfl, rfl, by decide +kernel, rfl, by decide +kernel, by decide +kernel⟩
theorem sc_law : FnScope ["_law_script", "_law_mine", "_law_seen", "_law_spot"] ["_law_script"] (defScope s_law) := ⟨rfl, rfl, rfl, by decide +kernel, rfl, by decide +kernel, by decide +kernel⟩
section
variable {P : Program} {w : World} {K : PySem.W.Frag} {mg : Str → Option Value} {base : Heap} {cm : Str → Addr} {cs : List Str} {T : List (Addr × Str)}
theorem ok_l_pick {cdv : Value} {f : Addr} {fd : FuncData} (F : Fun K "_law_pick" "_law_pick" s_l_pick f fd) (hc : fd.code = cdv) (B : Bn mg) (c_l_sip : CalG P w K mg base 1 "_law_sip" (spL K cm cs T m_l_sip)) : FnOkG P w K mg base CX0 2 f fd ["_law_cup_here", "_law_things"] (spL K cm cs T m_l_pick) :=
  F.okL (ow := []) hc sc_l_pick fun A outer s H Hs E cup qt hr => (b_one (s_ret (ow1 := []) (d_ix i_ix (d_v 1 (pv 1)) (d_cl c_l_sip (noE_no _) qt hr (by decide) rfl (da_cons (d_v 0 (pv 0)) (da_cons (d_bi b_len rfl B.len boot_len (da_cons (d_v 1 (pv 1)) da_nil)) da_nil))) (fun _ _ => rfl))))
theorem ok_check_record {f : Addr} {fd : FuncData} (F : Fun K "check_record" "check_record" s_check_record f fd) (B : Bn mg) (k_Record : mg "Record" = some (.ref (cm "Record"))) (s_Record : ("Record" : Str) ∈ cs) (e_NotARecord : ErrC P w K mg base 1 "NotARecord" (cm "NotARecord") "given") (ck : CK K cm cs) : FnOk P w K mg base (CN P w) 3 f fd ["record"] (spD K cm cs m_check_record) :=
  F.okD (ow := []) sc_check_record fun cdv A outer s H Hs E pc hr => (b_one (s_if (ow1 := []) (ow' := []) (dt_not (dt_tru rfl (d_isC ck rfl B.isinstance (d_v 0 (pv 0)) rfl k_Record s_Record))) (b_one (s_ra (ow1 := []) (ps_err e_NotARecord rfl tkN hr (by decide) rfl (da_cons (d_v 0 (pv 0)) da_nil)) rfl)) b_nil))
theorem ok_is_whole {f : Addr} {fd : FuncData} (F : Fun K "is_whole" "is_whole" s_is_whole f fd) (B : Bn mg) (ck : CK K cm cs) : FnOk P w K mg base (CN P w) 1 f fd ["value", "least", "most"] (spD K cm cs m_is_whole) :=
  F.okD (ow := []) sc_is_whole fun cdv A outer s H Hs E pc hr => (b_one (s_ret (ow1 := []) (d_and (d_isT ck rfl B.isinstance (d_v 0 (pv 0)) rfl B.int boot_int) (d_and (d_not (d_isT ck rfl B.isinstance (d_v 0 (pv 0)) rfl B.bool boot_bool)) (d_one (d_chain o_le o_le (d_v 1 (pv 1)) (d_v 0 (pv 0)) (d_v 2 (pv 2))))))))
theorem ok_is_time {f : Addr} {fd : FuncData} (F : Fun K "is_time" "is_time" s_is_time f fd) (B : Bn mg) (c_is_whole : CalN P w K mg base 1 "is_whole" (spD K cm cs m_is_whole)) (g_GREATEST : ∃ t, mg "GREATEST" = some (.int 1000000000000000000000000000000 t)) : FnOk P w K mg base (CN P w) 2 f fd ["value"] (spD K cm cs m_is_time) :=
  F.okD (ow := []) sc_is_time fun cdv A outer s H Hs E pc hr => (b_one (s_ret (ow1 := []) (d_ca c_is_whole psN hr (by decide) rfl (da_cons (d_v 0 (pv 0)) (da_cons d_int (da_cons (d_gi g_GREATEST) da_nil))))))
theorem ok_check_time {f : Addr} {fd : FuncData} (F : Fun K "check_time" "check_time" s_check_time f fd) (B : Bn mg) (c_is_time : CalN P w K mg base 2 "is_time" (spD K cm cs m_is_time)) (e_InvalidTime : ErrC P w K mg base 1 "InvalidTime" (cm "InvalidTime") "given") : FnOk P w K mg base (CN P w) 3 f fd ["time"] (spD K cm cs m_check_time) :=
  F.okD (ow := []) sc_check_time fun cdv A outer s H Hs E pc hr => (b_one (s_if (ow1 := []) (ow' := []) (dt_not (dt_tru rfl (d_ca c_is_time psN hr (by decide) rfl (da_cons (d_v 0 (pv 0)) da_nil)))) (b_one (s_ra (ow1 := []) (ps_err e_InvalidTime rfl tkN hr (by decide) rfl (da_cons (d_v 0 (pv 0)) da_nil)) rfl)) b_nil))
theorem ok_letters_for {f : Addr} {fd : FuncData} (F : Fun K "letters_for" "letters_for" s_letters_for f fd) (B : Bn mg) (g_CAPITALS : ∃ t, mg "CAPITALS" = some (.str "ABCDEFGHIJKLMNOPQRSTUVWXYZ" t)) (g_LETTERS : ∃ t, mg "LETTERS" = some (.str "-abcdefghijklmnopqrstuvwxyz" t)) (g_UNREAD : ∃ t, mg "UNREAD" = some (.str "?" t)) : FnOk P w K mg base (CN P w) 1 f fd ["mark", "groups"] (spD K cm cs m_letters_for) :=
  F.okD (ow := []) sc_letters_for fun cdv A outer s H Hs E pc hr => (b_cons (s_if (ow1 := []) (ow' := []) (dt_cmp (o_eq (ru hr)) (d_v 0 (pv 0)) (d_gs g_UNREAD) (nomark _)) (b_one (s_ret (ow1 := []) (d_gs g_LETTERS))) b_nil)
      (b_cons (s_if (ow1 := []) (ow' := []) (dt_cmp (o_in (ru5 hr)) (d_v 0 (pv 0)) (d_gs g_LETTERS) (by rfl)) (b_one (s_ret (ow1 := []) (d_v 0 (pv 0)))) b_nil)
      (b_cons (s_if (ow1 := []) (ow' := []) (dt_cmp (o_notIn (ru5 hr)) (d_v 0 (pv 0)) (d_gs g_CAPITALS) (by rfl)) (b_one (s_ret (ow1 := []) d_str)) b_nil)
      (b_cons (s_for (ow1 := []) (t := (.nm 2)) owN rfl (di_tup (d_v 1 (pv 1))) (pg_name (i := 2) sc_letters_for.nd rfl (Or.inl rfl)) (fun _ => (b_one (s_if (ow1 := []) (ow' := []) (dt_cmp (o_in (ru5 hr)) (d_mt0 PySem.F.plainAttrs_str PySem.F.slot_str_lower PySem.F.type_str_lower m_lower (d_v 0 (pv 0))) (d_v 2 (pv 2)) (by rfl)) (b_one (s_ret (ow1 := []) (d_v 2 (pv 2)))) b_nil))))
      (b_one (s_ret (ow1 := []) d_str))))))
theorem ok_is_reading {f : Addr} {fd : FuncData} (F : Fun K "is_reading" "is_reading" s_is_reading f fd) (B : Bn mg) (c_letters_for : CalN P w K mg base 1 "letters_for" (spD K cm cs m_letters_for)) (ck : CK K cm cs) : FnOk P w K mg base (CN P w) 2 f fd ["value", "width", "groups"] (spD K cm cs m_is_reading) :=
  F.okD (ow := []) sc_is_reading fun cdv A outer s H Hs E pc hr => (b_cons (s_if (ow1 := []) (ow' := []) (PW.pt (dw_or (dt_not (dt_tru rfl (d_isT ck rfl B.isinstance (d_v 0 (pv 0)) rfl B.str boot_str))) (dw_or1 (dt_cmp (o_ne (ru hr)) (d_bi b_len rfl B.len boot_len (da_cons (d_v 0 (pv 0)) da_nil)) (d_v 1 (pv 1)) (nomark _))))) (b_one (s_ret (ow1 := []) d_bl)) b_nil)
      (b_one (s_ret (ow1 := []) (d_bi (b_all rfl) rfl B.all boot_all (da_cons (d_own (do_lc (own := [("mark", 3)]) (t := (.nm 3)) rfl sc_is_reading.nd (di_str (d_v 0 (pv 0))) (blkOk_by (N := ["value", "width", "groups", "mark"]) (sc := defScope s_is_reading) (by decide +kernel)) (fun _ _ _ _ _ => (pg_name (i := 3) sc_is_reading.nd rfl (Or.inl rfl))) (fun _ _ _ _ _ => dts_nil) (fun _ _ _ _ _ => (d_cmp (o_ne (ru hr)) (d_ca c_letters_for ps0 hr (by decide) rfl (da_cons (d_v 3 (pv 3)) (da_cons (d_v 2 (pv 2)) da_nil))) d_str (nomark _))))) da_nil)))))
theorem ok_check_window {f : Addr} {fd : FuncData} (F : Fun K "check_window" "check_window" s_check_window f fd) (B : Bn mg) (c_is_reading : CalN P w K mg base 2 "is_reading" (spD K cm cs m_is_reading)) (e_InvalidWindow : ErrC P w K mg base 1 "InvalidWindow" (cm "InvalidWindow") "given") : FnOk P w K mg base (CN P w) 3 f fd ["window", "width", "groups"] (spD K cm cs m_check_window) :=
  F.okD (ow := []) sc_check_window fun cdv A outer s H Hs E pc hr => (b_one (s_if (ow1 := []) (ow' := []) (dt_not (dt_tru rfl (d_ca c_is_reading psN hr (by decide) rfl (da_cons (d_v 0 (pv 0)) (da_cons (d_v 1 (pv 1)) (da_cons (d_v 2 (pv 2)) da_nil)))))) (b_one (s_ra (ow1 := []) (ps_err e_InvalidWindow rfl tkN hr (by decide) rfl (da_cons (d_v 0 (pv 0)) da_nil)) rfl)) b_nil))
theorem ok_mask_of {f : Addr} {fd : FuncData} (F : Fun K "mask_of" "mask_of" s_mask_of f fd) (B : Bn mg) (g_LETTERS : ∃ t, mg "LETTERS" = some (.str "-abcdefghijklmnopqrstuvwxyz" t)) : FnOk P w K mg base (CN P w) 1 f fd ["letters"] (spD K cm cs m_mask_of) :=
  F.okD (ow := []) sc_mask_of fun cdv A outer s H Hs E pc hr => (b_cons (s_set (ow1 := []) (ps_set (i := 1) sc_mask_of.nd rfl (Or.inl rfl) d_int))
      (b_cons (s_for (ow1 := []) (t := (.nm 2)) owN rfl (di_str (d_v 0 (pv 0))) (pg_name (i := 2) sc_mask_of.nd rfl (Or.inl rfl)) (fun _ => (b_one (s_aug (ow1 := []) io_or (fun _ ho => ps_aug (i := 1) sc_mask_of.nd rfl (Or.inl rfl) (d_op o_shl d_int (d_mt PySem.F.plainAttrs_str PySem.F.slot_str_index PySem.F.type_str_index m_sindex (d_gs g_LETTERS) (da_cons (d_v 2 (pv 2)) da_nil))) ho)))))
      (b_one (s_ret (ow1 := []) (d_v 1 (pv 1))))))
theorem ok_masks_for {f : Addr} {fd : FuncData} (F : Fun K "masks_for" "masks_for" s_masks_for f fd) (B : Bn mg) (c_letters_for : CalN P w K mg base 1 "letters_for" (spD K cm cs m_letters_for)) (c_mask_of : CalN P w K mg base 1 "mask_of" (spD K cm cs m_mask_of)) : FnOk P w K mg base (CN P w) 2 f fd ["reading", "groups"] (spD K cm cs m_masks_for) :=
  F.okD (ow := []) sc_masks_for fun cdv A outer s H Hs E pc hr => (b_one (s_ret (ow1 := []) (d_own (do_lc (own := [("mark", 2)]) (t := (.nm 2)) rfl sc_masks_for.nd (di_str (d_v 0 (pv 0))) (blkOk_by (N := ["reading", "groups", "mark"]) (sc := defScope s_masks_for) (by decide +kernel)) (fun _ _ _ _ _ => (pg_name (i := 2) sc_masks_for.nd rfl (Or.inl rfl))) (fun _ _ _ _ _ => dts_nil) (fun _ _ _ _ _ => (d_ca c_mask_of ps0 hr (by decide) rfl (da_cons (d_ca c_letters_for ps0 hr (by decide) rfl (da_cons (d_v 2 (pv 2)) (da_cons (d_v 1 (pv 1)) da_nil))) da_nil)))))))
theorem ok_Record_glances {f : Addr} {fd : FuncData} (F : Fun K "glances" "Record.glances" s_Record_glances f fd) (B : Bn mg) (cl_Record : Cls K (cm "Record")) (n_kept : NoAttr K (cm "Record") "kept") : FnOk P w K mg base (CN P w) 1 f fd ["self"] (spD K cm cs m_Record_glances) :=
  F.okD (ow := []) sc_Record_glances fun cdv A outer s H Hs E pc hr => (b_one (s_ret (ow1 := []) (d_ix i_ix (d_fl cl_Record n_kept (d_v 0 (pv 0))) d_int (fun _ _ => rfl))))
theorem ok_Record_groups {f : Addr} {fd : FuncData} (F : Fun K "groups" "Record.groups" s_Record_groups f fd) (B : Bn mg) (cl_Record : Cls K (cm "Record")) (n_kept : NoAttr K (cm "Record") "kept") : FnOk P w K mg base (CN P w) 1 f fd ["self"] (spD K cm cs m_Record_groups) :=
  F.okD (ow := []) sc_Record_groups fun cdv A outer s H Hs E pc hr => (b_one (s_ret (ow1 := []) (d_ix i_ix (d_fl cl_Record n_kept (d_v 0 (pv 0))) d_int (fun _ _ => rfl))))
theorem ok_glimpses {f : Addr} {fd : FuncData} (F : Fun K "glimpses" "glimpses" s_glimpses f fd) (B : Bn mg) (c_masks_for : CalN P w K mg base 2 "masks_for" (spD K cm cs m_masks_for)) (p_Record_glances : PrpN P w K mg base 1 (cm "Record") "glances" (spD K cm cs (noE m_Record_glances))) (p_Record_groups : PrpN P w K mg base 1 (cm "Record") "groups" (spD K cm cs (noE m_Record_groups))) : FnOk P w K mg base (CN P w) 3 f fd ["record"] (spD K cm cs m_glimpses) :=
  F.okD (ow := []) sc_glimpses fun cdv A outer s H Hs E pc hr => (b_cons (s_set (ow1 := []) (ps_set (i := 1) sc_glimpses.nd rfl (Or.inr rfl) (d_pr p_Record_groups hr (by decide) (d_v 0 (pv 0)))))
      (b_one (s_ret (ow1 := []) (d_own (do_lc (own := [("time", 2), ("reading", 3)]) (t := (.tp [(.nm 2), (.nm 3)])) rfl sc_glimpses.nd (di_tup (d_pr p_Record_glances hr (by decide) (d_v 0 (pv 0)))) (blkOk_by (N := ["record", "groups", "time", "reading"]) (sc := defScope s_glimpses) (by decide +kernel)) (fun _ _ _ _ _ => (pg_tup rfl (pgs_cons (pg_name (i := 2) sc_glimpses.nd rfl (Or.inl rfl)) (pgs_cons (pg_name (i := 3) sc_glimpses.nd rfl (Or.inl rfl)) pgs_nil)))) (fun _ _ _ _ _ => dts_nil) (fun _ _ _ _ _ => (d_tup (da_cons (d_v 2 (pv 2)) (da_cons (d_ca c_masks_for ps0 hr (by decide) rfl (da_cons (d_v 3 (pv 3)) (da_cons (d_v 1 (pv 1)) da_nil))) da_nil)))))))))
theorem ok_Record_least {f : Addr} {fd : FuncData} (F : Fun K "least" "Record.least" s_Record_least f fd) (B : Bn mg) (cl_Record : Cls K (cm "Record")) (n_kept : NoAttr K (cm "Record") "kept") : FnOk P w K mg base (CN P w) 1 f fd ["self"] (spD K cm cs m_Record_least) :=
  F.okD (ow := []) sc_Record_least fun cdv A outer s H Hs E pc hr => (b_one (s_ret (ow1 := []) (d_ix i_ix (d_fl cl_Record n_kept (d_v 0 (pv 0))) d_int (fun _ _ => rfl))))
theorem ok_Record_most {f : Addr} {fd : FuncData} (F : Fun K "most" "Record.most" s_Record_most f fd) (B : Bn mg) (cl_Record : Cls K (cm "Record")) (n_kept : NoAttr K (cm "Record") "kept") : FnOk P w K mg base (CN P w) 1 f fd ["self"] (spD K cm cs m_Record_most) :=
  F.okD (ow := []) sc_Record_most fun cdv A outer s H Hs E pc hr => (b_one (s_ret (ow1 := []) (d_ix i_ix (d_fl cl_Record n_kept (d_v 0 (pv 0))) d_int (fun _ _ => rfl))))
theorem ok_Record_paces {f : Addr} {fd : FuncData} (F : Fun K "paces" "Record.paces" s_Record_paces f fd) (B : Bn mg) (cl_Record : Cls K (cm "Record")) (n_kept : NoAttr K (cm "Record") "kept") : FnOk P w K mg base (CN P w) 1 f fd ["self"] (spD K cm cs m_Record_paces) :=
  F.okD (ow := []) sc_Record_paces fun cdv A outer s H Hs E pc hr => (b_one (s_ret (ow1 := []) (d_ix i_ix (d_fl cl_Record n_kept (d_v 0 (pv 0))) d_int (fun _ _ => rfl))))
theorem ok_let_pairs {f : Addr} {fd : FuncData} (F : Fun K "let_pairs" "let_pairs" s_let_pairs f fd) (B : Bn mg) (p_Record_least : PrpN P w K mg base 1 (cm "Record") "least" (spD K cm cs (noE m_Record_least))) (p_Record_most : PrpN P w K mg base 1 (cm "Record") "most" (spD K cm cs (noE m_Record_most))) (p_Record_paces : PrpN P w K mg base 1 (cm "Record") "paces" (spD K cm cs (noE m_Record_paces))) : FnOk P w K mg base (CN P w) 3 f fd ["record"] (spD K cm cs m_let_pairs) :=
  F.okD (ow := []) sc_let_pairs fun cdv A outer s H Hs E pc hr => (b_one (s_ret (ow1 := []) (d_own (do_lc2 (own := [("length", 1), ("pace", 2)]) (t := (.nm 1)) (t1 := (.nm 2)) (ws1 := [2]) rfl sc_let_pairs.nd (di_r2 (d_pr p_Record_least hr (by decide) (d_v 0 (pv 0))) (d_op o_add (d_pr p_Record_most hr (by decide) (d_v 0 (pv 0))) d_int) B.range) (blkOk_by (N := ["record", "length", "pace"]) (sc := defScope s_let_pairs) (by decide +kernel)) (fun _ _ _ _ _ => (pg_name (i := 1) sc_let_pairs.nd rfl (Or.inl rfl))) (fun _ _ _ _ _ => dts_nil) (fun _ _ _ _ _ => (di_tup (d_pr p_Record_paces hr (by decide) (d_v 0 (pv 0))))) (fun _ _ _ _ _ => (pg_name (i := 2) sc_let_pairs.nd rfl (Or.inl rfl))) (fun _ _ _ _ _ => dts_nil) (fun _ _ _ _ _ => (d_tup (da_cons (d_v 1 (pv 1)) (da_cons (d_v 2 (pv 2)) da_nil))))))))
theorem ok_number_at {f : Addr} {fd : FuncData} (F : Fun K "number_at" "number_at" s_number_at f fd) (B : Bn mg)  : FnOk P w K mg base (CN P w) 1 f fd ["time", "place", "length", "pace"] (spD K cm cs m_number_at) :=
  F.okD (ow := []) sc_number_at fun cdv A outer s H Hs E pc hr => (b_one (s_ret (ow1 := []) (d_op o_mod (d_op o_add (d_v 1 (pv 1)) (d_op o_mul (d_v 3 (pv 3)) (d_v 0 (pv 0)))) (d_v 2 (pv 2)))))
theorem ok_numbers_at {f : Addr} {fd : FuncData} (F : Fun K "numbers_at" "numbers_at" s_numbers_at f fd) (B : Bn mg) (c_number_at : CalN P w K mg base 1 "number_at" (spD K cm cs m_number_at)) : FnOk P w K mg base (CN P w) 2 f fd ["time", "width", "length", "pace"] (spD K cm cs m_numbers_at) :=
  F.okD (ow := []) sc_numbers_at fun cdv A outer s H Hs E pc hr => (b_cons (s_set (ow1 := []) (ps_set (i := 4) sc_numbers_at.nd rfl (Or.inr rfl) (d_ca c_number_at psN hr (by decide) rfl (da_cons (d_v 0 (pv 0)) (da_cons d_int (da_cons (d_v 2 (pv 2)) (da_cons (d_v 3 (pv 3)) da_nil)))))))
      (b_one (s_ret (ow1 := []) (d_own (do_lc (own := [("place", 5)]) (t := (.nm 5)) rfl sc_numbers_at.nd (di_r1 (d_v 1 (pv 1)) B.range) (blkOk_by (N := ["time", "width", "length", "pace", "start", "place"]) (sc := defScope s_numbers_at) (by decide +kernel)) (fun _ _ _ _ _ => (pg_name (i := 5) sc_numbers_at.nd rfl (Or.inl rfl))) (fun _ _ _ _ _ => dts_nil) (fun _ _ _ _ _ => (d_op o_mod (d_op o_add (d_v 5 (pv 5)) (d_v 4 (pv 4))) (d_v 2 (pv 2)))))))))
theorem ok_cells {f : Addr} {fd : FuncData} (F : Fun K "cells" "cells" s_cells f fd) (B : Bn mg) (c_mask_of : CalN P w K mg base 1 "mask_of" (spD K cm cs m_mask_of)) (c_numbers_at : CalN P w K mg base 2 "numbers_at" (spD K cm cs m_numbers_at)) (g_LETTERS : ∃ t, mg "LETTERS" = some (.str "-abcdefghijklmnopqrstuvwxyz" t)) : FnOk P w K mg base (CN P w) 3 f fd ["looks", "length", "pace"] (spD K cm cs m_cells) :=
  F.okD (ow := [3]) sc_cells fun cdv A outer s H Hs E pc hr => (b_cons (s_setO (ow1 := []) (ps_set (i := 3) sc_cells.nd rfl (Or.inl rfl) (do_rep (d_lst (da_cons (d_ca c_mask_of psN hr (by decide) rfl (da_cons (d_gs g_LETTERS) da_nil)) da_nil)) (d_v 1 (pv 1)))))
      (b_cons (s_for (ow1 := [3]) (t := (.tp [(.nm 4), (.nm 5)])) owN rfl (di_list (d_v 0 (pv 0))) (pg_tup rfl (pgs_cons (pg_name (i := 4) sc_cells.nd rfl (Or.inl rfl)) (pgs_cons (pg_name (i := 5) sc_cells.nd rfl (Or.inl rfl)) pgs_nil))) (fun _ => (b_one (s_for (ow1 := [3]) (t := (.tp [(.nm 6), (.nm 7)])) owN rfl (di_zpL (d_ca c_numbers_at psN hr (by decide) rfl (da_cons (d_v 4 (pv 4)) (da_cons (d_bi b_len rfl B.len boot_len (da_cons (d_v 5 (pv 5)) da_nil)) (da_cons (d_v 1 (pv 1)) (da_cons (d_v 2 (pv 2)) da_nil))))) (d_v 5 (pv 5)) B.zip) (pg_tup rfl (pgs_cons (pg_name (i := 6) sc_cells.nd rfl (Or.inl rfl)) (pgs_cons (pg_name (i := 7) sc_cells.nd rfl (Or.inl rfl)) pgs_nil))) (fun _ => (b_one (s_augI (ow1 := [3]) (ow2 := [3]) io_and (fun _ ho => ps_augS (pv 3) (d_v 6 (pv 6)) get_c (d_v 7 (pv 7)) ho set_c))))))))
      (b_one (s_ret (ow1 := []) (d_v 3 (pv 3))))))
theorem ok_some_fits {f : Addr} {fd : FuncData} (F : Fun K "some_fits" "some_fits" s_some_fits f fd) (B : Bn mg) (c_cells : CalN P w K mg base 3 "cells" (spD K cm cs m_cells)) : FnOk P w K mg base (CN P w) 4 f fd ["let", "looks"] (spD K cm cs m_some_fits) :=
  F.okD (ow := []) sc_some_fits fun cdv A outer s H Hs E pc hr => (b_cons (s_for (ow1 := []) (t := (.tp [(.nm 2), (.nm 3)])) owN rfl (di_list (d_v 0 (pv 0))) (pg_tup rfl (pgs_cons (pg_name (i := 2) sc_some_fits.nd rfl (Or.inl rfl)) (pgs_cons (pg_name (i := 3) sc_some_fits.nd rfl (Or.inl rfl)) pgs_nil))) (fun _ => (b_one (s_if (ow1 := []) (ow' := []) (dt_cmp (o_notIn (ru5 hr)) d_int (d_ca c_cells psN hr (by decide) rfl (da_cons (d_v 1 (pv 1)) (da_cons (d_v 2 (pv 2)) (da_cons (d_v 3 (pv 3)) da_nil)))) (by rfl)) (b_one (s_ret (ow1 := []) d_bl)) b_nil))))
      (b_one (s_ret (ow1 := []) d_bl)))
theorem ok_Record_width {f : Addr} {fd : FuncData} (F : Fun K "width" "Record.width" s_Record_width f fd) (B : Bn mg) (cl_Record : Cls K (cm "Record")) (n_kept : NoAttr K (cm "Record") "kept") : FnOk P w K mg base (CN P w) 1 f fd ["self"] (spD K cm cs m_Record_width) :=
  F.okD (ow := []) sc_Record_width fun cdv A outer s H Hs E pc hr => (b_one (s_ret (ow1 := []) (d_ix i_ix (d_fl cl_Record n_kept (d_v 0 (pv 0))) d_int (fun _ _ => rfl))))
theorem ok_can {f : Addr} {fd : FuncData} (F : Fun K "can" "can" s_can f fd) (B : Bn mg) (c_check_record : CalN P w K mg base 3 "check_record" (spD K cm cs m_check_record)) (c_check_time : CalN P w K mg base 3 "check_time" (spD K cm cs m_check_time)) (c_check_window : CalN P w K mg base 3 "check_window" (spD K cm cs m_check_window)) (c_glimpses : CalN P w K mg base 3 "glimpses" (spD K cm cs m_glimpses)) (c_let_pairs : CalN P w K mg base 3 "let_pairs" (spD K cm cs m_let_pairs)) (c_masks_for : CalN P w K mg base 2 "masks_for" (spD K cm cs m_masks_for)) (c_some_fits : CalN P w K mg base 4 "some_fits" (spD K cm cs m_some_fits)) (p_Record_groups : PrpN P w K mg base 1 (cm "Record") "groups" (spD K cm cs (noE m_Record_groups))) (p_Record_width : PrpN P w K mg base 1 (cm "Record") "width" (spD K cm cs (noE m_Record_width))) : FnOk P w K mg base (CN P w) 5 f fd ["record", "time", "window"] (spD K cm cs m_can) :=
  F.okD (ow := []) sc_can fun cdv A outer s H Hs E pc hr => (b_cons (s_ex (ow1 := []) (d_ca c_check_record psN hr (by decide) rfl (da_cons (d_v 0 (pv 0)) da_nil)))
      (b_cons (s_ex (ow1 := []) (d_ca c_check_time psN hr (by decide) rfl (da_cons (d_v 1 (pv 1)) da_nil)))
      (b_cons (s_ex (ow1 := []) (d_ca c_check_window psN hr (by decide) rfl (da_cons (d_v 2 (pv 2)) (da_cons (d_pr p_Record_width hr (by decide) (d_v 0 (pv 0))) (da_cons (d_pr p_Record_groups hr (by decide) (d_v 0 (pv 0))) da_nil)))))
      (b_cons (s_set (ow1 := []) (ps_set (i := 3) sc_can.nd rfl (Or.inl rfl) (d_op o_add (d_ca c_glimpses psN hr (by decide) rfl (da_cons (d_v 0 (pv 0)) da_nil)) (d_lst (da_cons (d_tup (da_cons (d_v 1 (pv 1)) (da_cons (d_ca c_masks_for psN hr (by decide) rfl (da_cons (d_v 2 (pv 2)) (da_cons (d_pr p_Record_groups hr (by decide) (d_v 0 (pv 0))) da_nil))) da_nil))) da_nil)))))
      (b_one (s_ret (ow1 := []) (d_ca c_some_fits psN hr (by decide) rfl (da_cons (d_ca c_let_pairs psN hr (by decide) rfl (da_cons (d_v 0 (pv 0)) da_nil)) (da_cons (d_v 3 (pv 3)) da_nil)))))))))
theorem ok_possible {f : Addr} {fd : FuncData} (F : Fun K "possible" "possible" s_possible f fd) (B : Bn mg) (c_cells : CalN P w K mg base 3 "cells" (spD K cm cs m_cells)) (c_glimpses : CalN P w K mg base 3 "glimpses" (spD K cm cs m_glimpses)) (c_let_pairs : CalN P w K mg base 3 "let_pairs" (spD K cm cs m_let_pairs)) : FnOk P w K mg base (CN P w) 4 f fd ["record"] (spD K cm cs m_possible) :=
  F.okD (ow := []) sc_possible fun cdv A outer s H Hs E pc hr => (b_cons (s_set (ow1 := []) (ps_set (i := 1) sc_possible.nd rfl (Or.inr rfl) (d_ca c_glimpses psN hr (by decide) rfl (da_cons (d_v 0 (pv 0)) da_nil))))
      (b_cons (s_set (ow1 := []) (ps_lco (t := (.tp [(.nm 3), (.nm 4)])) (by decide) (ps_setLc (i := 2) (own := [("length", 3), ("pace", 4)])  rfl sc_possible.nd rfl rfl (sw_true rfl rfl rfl (by decide +kernel)) (di_list (d_ca c_let_pairs psN hr (by decide) rfl (da_cons (d_v 0 (pv 0)) da_nil))) (blkOk_by (N := ["record", "looks", "rows", "length", "pace", "row"]) (sc := defScope s_possible) (by decide +kernel)) (fun _ _ _ _ _ => (pg_tup rfl (pgs_cons (pg_name (i := 3) sc_possible.nd rfl (Or.inl rfl)) (pgs_cons (pg_name (i := 4) sc_possible.nd rfl (Or.inl rfl)) pgs_nil)))) (fun _ _ _ _ _ => dts_nil) (fun _ _ _ _ _ => (d_tup (da_cons (d_v 3 (pv 3)) (da_cons (d_v 4 (pv 4)) (da_cons (d_ca c_cells ps0 hr (by decide) rfl (da_cons (d_v 1 (pv 1)) (da_cons (d_v 3 (pv 3)) (da_cons (d_v 4 (pv 4)) da_nil)))) da_nil))))))))
      (b_one (s_ret (ow1 := []) (d_own (do_lc (own := [("length", 3), ("pace", 4), ("row", 5)]) (t := (.tp [(.nm 3), (.nm 4), (.nm 5)])) rfl sc_possible.nd (di_list (d_v 2 (pv 2))) (blkOk_by (N := ["record", "looks", "rows", "length", "pace", "row"]) (sc := defScope s_possible) (by decide +kernel)) (fun _ _ _ _ _ => (pg_tup rfl (pgs_cons (pg_name (i := 3) sc_possible.nd rfl (Or.inl rfl)) (pgs_cons (pg_name (i := 4) sc_possible.nd rfl (Or.inl rfl)) (pgs_cons (pg_name (i := 5) sc_possible.nd rfl (Or.inl rfl)) pgs_nil))))) (fun _ _ _ _ _ => (dts_one (dt_cmp (o_notIn (ru5 hr)) d_int (d_v 5 (pv 5)) (by rfl)))) (fun _ _ _ _ _ => (d_tup (da_cons (d_v 3 (pv 3)) (da_cons (d_v 4 (pv 4)) (da_cons (d_v 5 (pv 5)) da_nil)))))))))))
theorem ok_windows_at {f : Addr} {fd : FuncData} (F : Fun K "windows_at" "windows_at" s_windows_at f fd) (B : Bn mg) (c_numbers_at : CalN P w K mg base 2 "numbers_at" (spD K cm cs m_numbers_at)) (c_possible : CalN P w K mg base 4 "possible" (spD K cm cs m_possible)) (p_Record_width : PrpN P w K mg base 1 (cm "Record") "width" (spD K cm cs (noE m_Record_width))) : FnOk P w K mg base (CN P w) 5 f fd ["record", "time"] (spD K cm cs m_windows_at) :=
  F.okD (ow := []) sc_windows_at fun cdv A outer s H Hs E pc hr => (b_cons (s_set (ow1 := []) (ps_set (i := 2) sc_windows_at.nd rfl (Or.inr rfl) (d_pr p_Record_width hr (by decide) (d_v 0 (pv 0)))))
      (b_one (s_ret (ow1 := []) (d_own (do_lc (own := [("length", 3), ("pace", 4), ("row", 5)]) (t := (.tp [(.nm 3), (.nm 4), (.nm 5)])) rfl sc_windows_at.nd (di_list (d_ca c_possible psN hr (by decide) rfl (da_cons (d_v 0 (pv 0)) da_nil))) (blkOk_by (N := ["record", "time", "width", "length", "pace", "row", "number"]) (sc := defScope s_windows_at) (by decide +kernel)) (fun _ _ _ _ _ => (pg_tup rfl (pgs_cons (pg_name (i := 3) sc_windows_at.nd rfl (Or.inl rfl)) (pgs_cons (pg_name (i := 4) sc_windows_at.nd rfl (Or.inl rfl)) (pgs_cons (pg_name (i := 5) sc_windows_at.nd rfl (Or.inr rfl)) pgs_nil))))) (fun _ _ _ _ _ => dts_nil) (fun _ _ _ _ _ => (d_own (do_lc (own := [("number", 6)]) (t := (.nm 6)) rfl sc_windows_at.nd (di_list (d_ca c_numbers_at ps0 hr (by decide) rfl (da_cons (d_v 1 (pv 1)) (da_cons (d_v 2 (pv 2)) (da_cons (d_v 3 (pv 3)) (da_cons (d_v 4 (pv 4)) da_nil)))))) (blkOk_by (by rfl)) (fun _ _ _ _ _ => (pg_name (i := 6) sc_windows_at.nd rfl (Or.inl rfl))) (fun _ _ _ _ _ => dts_nil) (fun _ _ _ _ _ => (d_ix i_ix (d_v 5 (pv 5)) (d_v 6 (pv 6)) (fun _ _ => rfl)))))))))))
theorem ok_all_at {f : Addr} {fd : FuncData} (F : Fun K "all_at" "all_at" s_all_at f fd) (B : Bn mg) (c_windows_at : CalN P w K mg base 5 "windows_at" (spD K cm cs m_windows_at)) (p_Record_width : PrpN P w K mg base 1 (cm "Record") "width" (spD K cm cs (noE m_Record_width))) : FnOk P w K mg base (CN P w) 6 f fd ["record", "time"] (spD K cm cs m_all_at) :=
  F.okD (ow := [2]) sc_all_at fun cdv A outer s H Hs E pc hr => (b_cons (s_setO (ow1 := []) (ps_set (i := 2) sc_all_at.nd rfl (Or.inl rfl) (do_rep (d_lst (da_cons d_int da_nil)) (d_pr p_Record_width hr (by decide) (d_v 0 (pv 0))))))
      (b_cons (s_for (ow1 := [2]) (t := (.nm 3)) owN rfl (di_list (d_ca c_windows_at psN hr (by decide) rfl (da_cons (d_v 0 (pv 0)) (da_cons (d_v 1 (pv 1)) da_nil)))) (pg_name (i := 3) sc_all_at.nd rfl (Or.inl rfl)) (fun _ => (b_one (s_for (ow1 := [2]) (t := (.tp [(.nm 4), (.nm 5)])) owN rfl (di_enL (d_v 3 (pv 3)) B.enumerate) (pg_tup rfl (pgs_cons (pg_name (i := 4) sc_all_at.nd rfl (Or.inl rfl)) (pgs_cons (pg_name (i := 5) sc_all_at.nd rfl (Or.inl rfl)) pgs_nil))) (fun _ => (b_one (s_augI (ow1 := [2]) (ow2 := [2]) io_or (fun _ ho => ps_augS (pv 2) (d_v 4 (pv 4)) get_c (d_v 5 (pv 5)) ho set_c))))))))
      (b_one (s_ret (ow1 := []) (d_v 2 (pv 2))))))
theorem ok_check_place {f : Addr} {fd : FuncData} (F : Fun K "check_place" "check_place" s_check_place f fd) (B : Bn mg) (c_is_whole : CalN P w K mg base 1 "is_whole" (spD K cm cs m_is_whole)) (e_InvalidPlace : ErrC P w K mg base 1 "InvalidPlace" (cm "InvalidPlace") "given") : FnOk P w K mg base (CN P w) 3 f fd ["place", "width"] (spD K cm cs m_check_place) :=
  F.okD (ow := []) sc_check_place fun cdv A outer s H Hs E pc hr => (b_one (s_if (ow1 := []) (ow' := []) (dt_not (dt_tru rfl (d_ca c_is_whole psN hr (by decide) rfl (da_cons (d_v 0 (pv 0)) (da_cons d_int (da_cons (d_op o_sub (d_v 1 (pv 1)) d_int) da_nil)))))) (b_one (s_ra (ow1 := []) (ps_err e_InvalidPlace rfl tkN hr (by decide) rfl (da_cons (d_v 0 (pv 0)) da_nil)) rfl)) b_nil))
theorem ok_letters_in {f : Addr} {fd : FuncData} (F : Fun K "letters_in" "letters_in" s_letters_in f fd) (B : Bn mg) (g_LETTERS : ∃ t, mg "LETTERS" = some (.str "-abcdefghijklmnopqrstuvwxyz" t)) : FnOk P w K mg base (CN P w) 1 f fd ["mask"] (spD K cm cs m_letters_in) :=
  F.okD (ow := []) sc_letters_in fun cdv A outer s H Hs E pc hr => (b_one (s_ret (ow1 := []) (d_mt PySem.F.plainAttrs_str PySem.F.slot_str_join PySem.F.type_str_join m_join d_str (da_cons (d_own (do_lc (own := [("bit", 1), ("letter", 2)]) (t := (.tp [(.nm 1), (.nm 2)])) rfl sc_letters_in.nd (di_enS (d_gs g_LETTERS) B.enumerate) (blkOk_by (N := ["mask", "bit", "letter"]) (sc := defScope s_letters_in) (by decide +kernel)) (fun _ _ _ _ _ => (pg_tup rfl (pgs_cons (pg_name (i := 1) sc_letters_in.nd rfl (Or.inl rfl)) (pgs_cons (pg_name (i := 2) sc_letters_in.nd rfl (Or.inl rfl)) pgs_nil)))) (fun _ _ _ _ _ => (dts_one (dt_cmp (o_eq (ru hr)) (d_op o_and (d_op o_shr (d_v 0 (pv 0)) (d_v 1 (pv 1))) d_int) d_int (nomark _)))) (fun _ _ _ _ _ => (d_v 2 (pv 2))))) da_nil))))
theorem ok_letters {f : Addr} {fd : FuncData} (F : Fun K "letters" "letters" s_letters f fd) (B : Bn mg) (c_all_at : CalN P w K mg base 6 "all_at" (spD K cm cs m_all_at)) (c_check_place : CalN P w K mg base 3 "check_place" (spD K cm cs m_check_place)) (c_check_record : CalN P w K mg base 3 "check_record" (spD K cm cs m_check_record)) (c_check_time : CalN P w K mg base 3 "check_time" (spD K cm cs m_check_time)) (c_letters_in : CalN P w K mg base 1 "letters_in" (spD K cm cs m_letters_in)) (p_Record_width : PrpN P w K mg base 1 (cm "Record") "width" (spD K cm cs (noE m_Record_width))) : FnOk P w K mg base (CN P w) 7 f fd ["record", "time", "place"] (spD K cm cs m_letters) :=
  F.okD (ow := []) sc_letters fun cdv A outer s H Hs E pc hr => (b_cons (s_ex (ow1 := []) (d_ca c_check_record psN hr (by decide) rfl (da_cons (d_v 0 (pv 0)) da_nil)))
      (b_cons (s_ex (ow1 := []) (d_ca c_check_time psN hr (by decide) rfl (da_cons (d_v 1 (pv 1)) da_nil)))
      (b_cons (s_ex (ow1 := []) (d_ca c_check_place psN hr (by decide) rfl (da_cons (d_v 2 (pv 2)) (da_cons (d_pr p_Record_width hr (by decide) (d_v 0 (pv 0))) da_nil))))
      (b_one (s_ret (ow1 := []) (d_ca c_letters_in psN hr (by decide) rfl (da_cons (d_ix i_ix (d_ca c_all_at psN hr (by decide) rfl (da_cons (d_v 0 (pv 0)) (da_cons (d_v 1 (pv 1)) da_nil))) (d_v 2 (pv 2)) (fun _ _ => rfl)) da_nil)))))))
theorem ok_are_within {f : Addr} {fd : FuncData} (F : Fun K "are_within" "are_within" s_are_within f fd) (B : Bn mg)  : FnOk P w K mg base (CN P w) 1 f fd ["masks", "others"] (spD K cm cs m_are_within) :=
  F.okD (ow := []) sc_are_within fun cdv A outer s H Hs E pc hr => (b_one (s_ret (ow1 := []) (d_bi (b_all rfl) rfl B.all boot_all (da_cons (d_own (do_lc (own := [("mask", 2), ("other", 3)]) (t := (.tp [(.nm 2), (.nm 3)])) rfl sc_are_within.nd (di_zpL (d_v 0 (pv 0)) (d_v 1 (pv 1)) B.zip) (blkOk_by (N := ["masks", "others", "mask", "other"]) (sc := defScope s_are_within) (by decide +kernel)) (fun _ _ _ _ _ => (pg_tup rfl (pgs_cons (pg_name (i := 2) sc_are_within.nd rfl (Or.inl rfl)) (pgs_cons (pg_name (i := 3) sc_are_within.nd rfl (Or.inl rfl)) pgs_nil)))) (fun _ _ _ _ _ => dts_nil) (fun _ _ _ _ _ => (d_cmp (o_eq (ru hr)) (d_op o_and (d_v 2 (pv 2)) (d_v 3 (pv 3))) (d_v 2 (pv 2)) (nomark _))))) da_nil))))
theorem ok_must {f : Addr} {fd : FuncData} (F : Fun K "must" "must" s_must f fd) (B : Bn mg) (c_are_within : CalN P w K mg base 1 "are_within" (spD K cm cs m_are_within)) (c_check_record : CalN P w K mg base 3 "check_record" (spD K cm cs m_check_record)) (c_check_time : CalN P w K mg base 3 "check_time" (spD K cm cs m_check_time)) (c_check_window : CalN P w K mg base 3 "check_window" (spD K cm cs m_check_window)) (c_masks_for : CalN P w K mg base 2 "masks_for" (spD K cm cs m_masks_for)) (c_windows_at : CalN P w K mg base 5 "windows_at" (spD K cm cs m_windows_at)) (p_Record_groups : PrpN P w K mg base 1 (cm "Record") "groups" (spD K cm cs (noE m_Record_groups))) (p_Record_width : PrpN P w K mg base 1 (cm "Record") "width" (spD K cm cs (noE m_Record_width))) : FnOk P w K mg base (CN P w) 6 f fd ["record", "time", "window"] (spD K cm cs m_must) :=
  F.okD (ow := []) sc_must fun cdv A outer s H Hs E pc hr => (b_cons (s_ex (ow1 := []) (d_ca c_check_record psN hr (by decide) rfl (da_cons (d_v 0 (pv 0)) da_nil)))
      (b_cons (s_ex (ow1 := []) (d_ca c_check_time psN hr (by decide) rfl (da_cons (d_v 1 (pv 1)) da_nil)))
      (b_cons (s_ex (ow1 := []) (d_ca c_check_window psN hr (by decide) rfl (da_cons (d_v 2 (pv 2)) (da_cons (d_pr p_Record_width hr (by decide) (d_v 0 (pv 0))) (da_cons (d_pr p_Record_groups hr (by decide) (d_v 0 (pv 0))) da_nil)))))
      (b_cons (s_set (ow1 := []) (ps_set (i := 3) sc_must.nd rfl (Or.inr rfl) (d_ca c_masks_for psN hr (by decide) rfl (da_cons (d_v 2 (pv 2)) (da_cons (d_pr p_Record_groups hr (by decide) (d_v 0 (pv 0))) da_nil)))))
      (b_one (s_ret (ow1 := []) (d_bi (b_all rfl) rfl B.all boot_all (da_cons (d_own (do_lc (own := [("shown", 4)]) (t := (.nm 4)) rfl sc_must.nd (di_list (d_ca c_windows_at psN hr (by decide) rfl (da_cons (d_v 0 (pv 0)) (da_cons (d_v 1 (pv 1)) da_nil)))) (blkOk_by (N := ["record", "time", "window", "wanted", "shown"]) (sc := defScope s_must) (by decide +kernel)) (fun _ _ _ _ _ => (pg_name (i := 4) sc_must.nd rfl (Or.inl rfl))) (fun _ _ _ _ _ => dts_nil) (fun _ _ _ _ _ => (d_ca c_are_within ps0 hr (by decide) rfl (da_cons (d_v 4 (pv 4)) (da_cons (d_v 3 (pv 3)) da_nil)))))) da_nil))))))))
theorem ok_only_letter {f : Addr} {fd : FuncData} (F : Fun K "only_letter" "only_letter" s_only_letter f fd) (B : Bn mg) (c_letters_in : CalN P w K mg base 1 "letters_in" (spD K cm cs m_letters_in)) (g_UNREAD : ∃ t, mg "UNREAD" = some (.str "?" t)) : FnOk P w K mg base (CN P w) 2 f fd ["mask"] (spD K cm cs m_only_letter) :=
  F.okD (ow := []) sc_only_letter fun cdv A outer s H Hs E pc hr => (b_cons (s_set (ow1 := []) (ps_set (i := 1) sc_only_letter.nd rfl (Or.inl rfl) (d_ca c_letters_in psN hr (by decide) rfl (da_cons (d_v 0 (pv 0)) da_nil))))
      (b_one (s_ret (ow1 := []) (d_ifE (dt_cmp (o_eq (ru hr)) (d_bi b_len rfl B.len boot_len (da_cons (d_v 1 (pv 1)) da_nil)) d_int (nomark _)) (d_v 1 (pv 1)) (d_gs g_UNREAD)))))
theorem ok_sure {f : Addr} {fd : FuncData} (F : Fun K "sure" "sure" s_sure f fd) (B : Bn mg) (c_all_at : CalN P w K mg base 6 "all_at" (spD K cm cs m_all_at)) (c_check_record : CalN P w K mg base 3 "check_record" (spD K cm cs m_check_record)) (c_check_time : CalN P w K mg base 3 "check_time" (spD K cm cs m_check_time)) (c_only_letter : CalN P w K mg base 2 "only_letter" (spD K cm cs m_only_letter)) : FnOk P w K mg base (CN P w) 7 f fd ["record", "time"] (spD K cm cs m_sure) :=
  F.okD (ow := []) sc_sure fun cdv A outer s H Hs E pc hr => (b_cons (s_ex (ow1 := []) (d_ca c_check_record psN hr (by decide) rfl (da_cons (d_v 0 (pv 0)) da_nil)))
      (b_cons (s_ex (ow1 := []) (d_ca c_check_time psN hr (by decide) rfl (da_cons (d_v 1 (pv 1)) da_nil)))
      (b_cons (s_set (ow1 := []) (ps_set (i := 2) sc_sure.nd rfl (Or.inl rfl) (d_ca c_all_at psN hr (by decide) rfl (da_cons (d_v 0 (pv 0)) (da_cons (d_v 1 (pv 1)) da_nil)))))
      (b_cons (s_if (ow1 := []) (ow' := []) (dt_cmp (o_in (ru5 hr)) d_int (d_v 2 (pv 2)) (by rfl)) (b_one (s_ret (ow1 := []) d_non)) b_nil)
      (b_one (s_ret (ow1 := []) (d_mt PySem.F.plainAttrs_str PySem.F.slot_str_join PySem.F.type_str_join m_join d_str (da_cons (d_own (do_lc (own := [("mask", 3)]) (t := (.nm 3)) rfl sc_sure.nd (di_list (d_v 2 (pv 2))) (blkOk_by (N := ["record", "time", "union", "mask"]) (sc := defScope s_sure) (by decide +kernel)) (fun _ _ _ _ _ => (pg_name (i := 3) sc_sure.nd rfl (Or.inl rfl))) (fun _ _ _ _ _ => dts_nil) (fun _ _ _ _ _ => (d_ca c_only_letter ps0 hr (by decide) rfl (da_cons (d_v 3 (pv 3)) da_nil))))) da_nil))))))))
theorem ok_first_not_rising {f : Addr} {fd : FuncData} (F : Fun K "first_not_rising" "first_not_rising" s_first_not_rising f fd) (B : Bn mg) (c_is_whole : CalN P w K mg base 1 "is_whole" (spD K cm cs m_is_whole)) : FnOk P w K mg base (CN P w) 2 f fd ["row", "least", "most"] (spD K cm cs m_first_not_rising) :=
  F.okD (ow := []) sc_first_not_rising fun cdv A outer s H Hs E pc hr => (b_cons (s_set (ow1 := []) (ps_set (i := 3) sc_first_not_rising.nd rfl (Or.inl rfl) (d_v 1 (pv 1))))
      (b_cons (s_for (ow1 := []) (t := (.tp [(.nm 4), (.nm 5)])) owN rfl (di_enT (d_v 0 (pv 0)) B.enumerate) (pg_tup rfl (pgs_cons (pg_name (i := 4) sc_first_not_rising.nd rfl (Or.inl rfl)) (pgs_cons (pg_name (i := 5) sc_first_not_rising.nd rfl (Or.inl rfl)) pgs_nil))) (fun _ => (b_cons (s_if (ow1 := []) (ow' := []) (dt_not (dt_tru rfl (d_ca c_is_whole psN hr (by decide) rfl (da_cons (d_v 5 (pv 5)) (da_cons (d_v 3 (pv 3)) (da_cons (d_v 2 (pv 2)) da_nil)))))) (b_one (s_ret (ow1 := []) (d_v 4 (pv 4)))) b_nil)
      (b_one (s_set (ow1 := []) (ps_set (i := 3) sc_first_not_rising.nd rfl (Or.inl rfl) (d_op o_add (d_v 5 (pv 5)) d_int)))))))
      (b_one (s_ret (ow1 := []) d_non))))
theorem ok_check_dead {f : Addr} {fd : FuncData} (F : Fun K "check_dead" "check_dead" s_check_dead f fd) (B : Bn mg) (c_first_not_rising : CalN P w K mg base 2 "first_not_rising" (spD K cm cs m_first_not_rising)) (e_InvalidDead : ErrC P w K mg base 1 "InvalidDead" (cm "InvalidDead") "index") (ck : CK K cm cs) : FnOk P w K mg base (CN P w) 3 f fd ["dead", "width"] (spD K cm cs m_check_dead) :=
  F.okD (ow := []) sc_check_dead fun cdv A outer s H Hs E pc hr => (b_cons (s_if (ow1 := []) (ow' := []) (dt_not (dt_tru rfl (d_isT ck rfl B.isinstance (d_v 0 (pv 0)) rfl B.tuple boot_tuple))) (b_one (s_ra (ow1 := []) (ps_err e_InvalidDead rfl tkN hr (by decide) rfl (da_cons d_non da_nil)) rfl)) b_nil)
      (b_cons (s_set (ow1 := []) (ps_set (i := 2) sc_check_dead.nd rfl (Or.inl rfl) (d_ca c_first_not_rising psN hr (by decide) rfl (da_cons (d_v 0 (pv 0)) (da_cons d_int (da_cons (d_op o_sub (d_v 1 (pv 1)) d_int) da_nil))))))
      (b_one (s_if (ow1 := []) (ow' := []) (dt_cmp o_isN (d_v 2 (pv 2)) d_non (nomark _)) (b_one (s_ra (ow1 := []) (ps_err e_InvalidDead rfl tkN hr (by decide) rfl (da_cons (d_v 2 (pv 2)) da_nil)) rfl)) b_nil))))
theorem ok_is_group {f : Addr} {fd : FuncData} (F : Fun K "is_group" "is_group" s_is_group f fd) (B : Bn mg) (g_SMALL : ∃ t, mg "SMALL" = some (.str "abcdefghijklmnopqrstuvwxyz" t)) (ck : CK K cm cs) : FnOk P w K mg base (CN P w) 1 f fd ["value", "used"] (spD K cm cs m_is_group) :=
  F.okD (ow := []) sc_is_group fun cdv A outer s H Hs E pc hr => (b_cons (s_if (ow1 := []) (ow' := []) (PW.pt (dw_or (dt_not (dt_tru rfl (d_isT ck rfl B.isinstance (d_v 0 (pv 0)) rfl B.str boot_str))) (dw_or1 (dt_cmp o_lt (d_bi b_len rfl B.len boot_len (da_cons (d_v 0 (pv 0)) da_nil)) d_int (nomark _))))) (b_one (s_ret (ow1 := []) d_bl)) b_nil)
      (b_one (s_ret (ow1 := []) (d_bi (b_all rfl) rfl B.all boot_all (da_cons (d_own (do_lc (own := [("letter", 2)]) (t := (.nm 2)) rfl sc_is_group.nd (di_str (d_v 0 (pv 0))) (blkOk_by (N := ["value", "used", "letter"]) (sc := defScope s_is_group) (by decide +kernel)) (fun _ _ _ _ _ => (pg_name (i := 2) sc_is_group.nd rfl (Or.inl rfl))) (fun _ _ _ _ _ => dts_nil) (fun _ _ _ _ _ => (d_and (d_cmp (o_in (ru5 hr)) (d_v 2 (pv 2)) (d_gs g_SMALL) (by rfl)) (d_and (d_cmp (o_notIn (ru5 hr)) (d_v 2 (pv 2)) (d_v 1 (pv 1)) (by rfl)) (d_one (d_cmp (o_eq (ru hr)) (d_mt PySem.F.plainAttrs_str PySem.F.slot_str_count PySem.F.type_str_count m_count (d_v 0 (pv 0)) (da_cons (d_v 2 (pv 2)) da_nil)) d_int (nomark _)))))))) da_nil)))))
theorem ok_first_no_group {f : Addr} {fd : FuncData} (F : Fun K "first_no_group" "first_no_group" s_first_no_group f fd) (B : Bn mg) (c_is_group : CalN P w K mg base 1 "is_group" (spD K cm cs m_is_group)) : FnOk P w K mg base (CN P w) 2 f fd ["groups"] (spD K cm cs m_first_no_group) :=
  F.okD (ow := []) sc_first_no_group fun cdv A outer s H Hs E pc hr => (b_cons (s_set (ow1 := []) (ps_set (i := 1) sc_first_no_group.nd rfl (Or.inl rfl) d_str))
      (b_cons (s_for (ow1 := []) (t := (.tp [(.nm 2), (.nm 3)])) owN rfl (di_enT (d_v 0 (pv 0)) B.enumerate) (pg_tup rfl (pgs_cons (pg_name (i := 2) sc_first_no_group.nd rfl (Or.inl rfl)) (pgs_cons (pg_name (i := 3) sc_first_no_group.nd rfl (Or.inl rfl)) pgs_nil))) (fun _ => (b_cons (s_if (ow1 := []) (ow' := []) (dt_not (dt_tru rfl (d_ca c_is_group psN hr (by decide) rfl (da_cons (d_v 3 (pv 3)) (da_cons (d_v 1 (pv 1)) da_nil))))) (b_one (s_ret (ow1 := []) (d_v 2 (pv 2)))) b_nil)
      (b_one (s_aug (ow1 := []) io_add (fun _ ho => ps_aug (i := 1) sc_first_no_group.nd rfl (Or.inl rfl) (d_v 3 (pv 3)) ho))))))
      (b_one (s_ret (ow1 := []) d_non))))
theorem ok_check_groups {f : Addr} {fd : FuncData} (F : Fun K "check_groups" "check_groups" s_check_groups f fd) (B : Bn mg) (c_first_no_group : CalN P w K mg base 2 "first_no_group" (spD K cm cs m_first_no_group)) (e_InvalidGroups : ErrC P w K mg base 1 "InvalidGroups" (cm "InvalidGroups") "index") (ck : CK K cm cs) : FnOk P w K mg base (CN P w) 3 f fd ["groups"] (spD K cm cs m_check_groups) :=
  F.okD (ow := []) sc_check_groups fun cdv A outer s H Hs E pc hr => (b_cons (s_if (ow1 := []) (ow' := []) (dt_not (dt_tru rfl (d_isT ck rfl B.isinstance (d_v 0 (pv 0)) rfl B.tuple boot_tuple))) (b_one (s_ra (ow1 := []) (ps_err e_InvalidGroups rfl tkN hr (by decide) rfl (da_cons d_non da_nil)) rfl)) b_nil)
      (b_cons (s_set (ow1 := []) (ps_set (i := 1) sc_check_groups.nd rfl (Or.inl rfl) (d_ca c_first_no_group psN hr (by decide) rfl (da_cons (d_v 0 (pv 0)) da_nil))))
      (b_one (s_if (ow1 := []) (ow' := []) (dt_cmp o_isN (d_v 1 (pv 1)) d_non (nomark _)) (b_one (s_ra (ow1 := []) (ps_err e_InvalidGroups rfl tkN hr (by decide) rfl (da_cons (d_v 1 (pv 1)) da_nil)) rfl)) b_nil))))
theorem ok_is_length {f : Addr} {fd : FuncData} (F : Fun K "is_length" "is_length" s_is_length f fd) (B : Bn mg) (c_is_whole : CalN P w K mg base 1 "is_whole" (spD K cm cs m_is_whole)) (g_MOST_LENGTH : ∃ t, mg "MOST_LENGTH" = some (.int 40 t)) : FnOk P w K mg base (CN P w) 2 f fd ["value", "least"] (spD K cm cs m_is_length) :=
  F.okD (ow := []) sc_is_length fun cdv A outer s H Hs E pc hr => (b_one (s_ret (ow1 := []) (d_ca c_is_whole psN hr (by decide) rfl (da_cons (d_v 0 (pv 0)) (da_cons (d_v 1 (pv 1)) (da_cons (d_gi g_MOST_LENGTH) da_nil))))))
theorem ok_check_length {f : Addr} {fd : FuncData} (F : Fun K "check_length" "check_length" s_check_length f fd) (B : Bn mg) (c_is_length : CalN P w K mg base 2 "is_length" (spD K cm cs m_is_length)) (e_InvalidLength : ErrC P w K mg base 1 "InvalidLength" (cm "InvalidLength") "given") : FnOk P w K mg base (CN P w) 3 f fd ["length", "least"] (spD K cm cs m_check_length) :=
  F.okD (ow := []) sc_check_length fun cdv A outer s H Hs E pc hr => (b_one (s_if (ow1 := []) (ow' := []) (dt_not (dt_tru rfl (d_ca c_is_length psN hr (by decide) rfl (da_cons (d_v 0 (pv 0)) (da_cons (d_v 1 (pv 1)) da_nil))))) (b_one (s_ra (ow1 := []) (ps_err e_InvalidLength rfl tkN hr (by decide) rfl (da_cons (d_v 0 (pv 0)) da_nil)) rfl)) b_nil))
theorem ok_check_paces {f : Addr} {fd : FuncData} (F : Fun K "check_paces" "check_paces" s_check_paces f fd) (B : Bn mg) (c_first_not_rising : CalN P w K mg base 2 "first_not_rising" (spD K cm cs m_first_not_rising)) (g_MOST_PACE : ∃ t, mg "MOST_PACE" = some (.int 9 t)) (e_InvalidPaces : ErrC P w K mg base 1 "InvalidPaces" (cm "InvalidPaces") "index") (ck : CK K cm cs) : FnOk P w K mg base (CN P w) 3 f fd ["paces"] (spD K cm cs m_check_paces) :=
  F.okD (ow := []) sc_check_paces fun cdv A outer s H Hs E pc hr => (b_cons (s_if (ow1 := []) (ow' := []) (PW.pt (dw_or (dt_not (dt_tru rfl (d_isT ck rfl B.isinstance (d_v 0 (pv 0)) rfl B.tuple boot_tuple))) (dw_or1 (dt_cmp (o_eq (ru hr)) (d_bi b_len rfl B.len boot_len (da_cons (d_v 0 (pv 0)) da_nil)) d_int (nomark _))))) (b_one (s_ra (ow1 := []) (ps_err e_InvalidPaces rfl tkN hr (by decide) rfl (da_cons d_non da_nil)) rfl)) b_nil)
      (b_cons (s_set (ow1 := []) (ps_set (i := 1) sc_check_paces.nd rfl (Or.inl rfl) (d_ca c_first_not_rising psN hr (by decide) rfl (da_cons (d_v 0 (pv 0)) (da_cons (d_neg (d_gi g_MOST_PACE)) (da_cons (d_gi g_MOST_PACE) da_nil))))))
      (b_one (s_if (ow1 := []) (ow' := []) (dt_cmp o_isN (d_v 1 (pv 1)) d_non (nomark _)) (b_one (s_ra (ow1 := []) (ps_err e_InvalidPaces rfl tkN hr (by decide) rfl (da_cons (d_v 1 (pv 1)) da_nil)) rfl)) b_nil))))
theorem ok_check_width {f : Addr} {fd : FuncData} (F : Fun K "check_width" "check_width" s_check_width f fd) (B : Bn mg) (c_is_whole : CalN P w K mg base 1 "is_whole" (spD K cm cs m_is_whole)) (g_MOST_WIDTH : ∃ t, mg "MOST_WIDTH" = some (.int 8 t)) (e_InvalidWidth : ErrC P w K mg base 1 "InvalidWidth" (cm "InvalidWidth") "given") : FnOk P w K mg base (CN P w) 3 f fd ["width"] (spD K cm cs m_check_width) :=
  F.okD (ow := []) sc_check_width fun cdv A outer s H Hs E pc hr => (b_one (s_if (ow1 := []) (ow' := []) (dt_not (dt_tru rfl (d_ca c_is_whole psN hr (by decide) rfl (da_cons (d_v 0 (pv 0)) (da_cons d_int (da_cons (d_gi g_MOST_WIDTH) da_nil)))))) (b_one (s_ra (ow1 := []) (ps_err e_InvalidWidth rfl tkN hr (by decide) rfl (da_cons (d_v 0 (pv 0)) da_nil)) rfl)) b_nil))
theorem ok_Record_init {dvs : List V} {kws : List (Str × V)} {f : Addr} {fd : FuncData} (F : FunD K "__init__" "Record.__init__" (defArgs s_Record_init) (defBody s_Record_init) (defScope s_Record_init) dvs kws f fd) (B : Bn mg) (c_check_dead : CalN P w K mg base 3 "check_dead" (spD K cm cs m_check_dead)) (c_check_groups : CalN P w K mg base 3 "check_groups" (spD K cm cs m_check_groups)) (c_check_length : CalN P w K mg base 3 "check_length" (spD K cm cs m_check_length)) (c_check_paces : CalN P w K mg base 3 "check_paces" (spD K cm cs m_check_paces)) (c_check_width : CalN P w K mg base 3 "check_width" (spD K cm cs m_check_width)) (cl_Record : Cls K (cm "Record")) (n_kept : NoAttr K (cm "Record") "kept") : FnOk P w K mg base (CN P w) 4 f fd ["self", "width", "dead", "least", "most", "paces", "groups"] (spI K cm cs "Record" m_Record_init) :=
  okI (ow := [0]) F sc_Record_init (by decide) fun cdv A outer s H H0 Hs E pc fx hr => (b_cons (s_ex (ow1 := [0]) (d_ca c_check_width psN hr (by decide) rfl (da_cons (d_v 1 (pv 1)) da_nil)))
      (b_cons (s_ex (ow1 := [0]) (d_ca c_check_dead psN hr (by decide) rfl (da_cons (d_v 2 (pv 2)) (da_cons (d_v 1 (pv 1)) da_nil))))
      (b_cons (s_ex (ow1 := [0]) (d_ca c_check_length psN hr (by decide) rfl (da_cons (d_v 3 (pv 3)) (da_cons d_int da_nil))))
      (b_cons (s_ex (ow1 := [0]) (d_ca c_check_length psN hr (by decide) rfl (da_cons (d_v 4 (pv 4)) (da_cons (d_v 3 (pv 3)) da_nil))))
      (b_cons (s_ex (ow1 := [0]) (d_ca c_check_paces psN hr (by decide) rfl (da_cons (d_v 5 (pv 5)) da_nil)))
      (b_cons (s_ex (ow1 := [0]) (d_ca c_check_groups psN hr (by decide) rfl (da_cons (d_v 6 (pv 6)) da_nil)))
      (b_one (s_fld (ow1 := [0]) cl_Record n_kept (ps_fld (pv 0) (d_tup (da_cons (d_v 1 (pv 1)) (da_cons (d_v 2 (pv 2)) (da_cons (d_v 3 (pv 3)) (da_cons (d_v 4 (pv 4)) (da_cons (d_v 5 (pv 5)) (da_cons (d_v 6 (pv 6)) (da_cons (d_tup da_nil) da_nil)))))))) rfl)))))))))
theorem ok_unread_where_dead {f : Addr} {fd : FuncData} (F : Fun K "unread_where_dead" "unread_where_dead" s_unread_where_dead f fd) (B : Bn mg) (g_UNREAD : ∃ t, mg "UNREAD" = some (.str "?" t)) : FnOk P w K mg base (CN P w) 1 f fd ["window", "dead"] (spD K cm cs m_unread_where_dead) :=
  F.okD (ow := []) sc_unread_where_dead fun cdv A outer s H Hs E pc hr => (b_one (s_ret (ow1 := []) (d_bi (b_all rfl) rfl B.all boot_all (da_cons (d_own (do_lc (own := [("place", 2)]) (t := (.nm 2)) rfl sc_unread_where_dead.nd (di_tup (d_v 1 (pv 1))) (blkOk_by (N := ["window", "dead", "place"]) (sc := defScope s_unread_where_dead) (by decide +kernel)) (fun _ _ _ _ _ => (pg_name (i := 2) sc_unread_where_dead.nd rfl (Or.inl rfl))) (fun _ _ _ _ _ => dts_nil) (fun _ _ _ _ _ => (d_cmp (o_eq (ru hr)) (d_ix i_ix (d_v 0 (pv 0)) (d_v 2 (pv 2)) (fun _ _ => rfl)) (d_gs g_UNREAD) (nomark _))))) da_nil))))
theorem ok_Record_told {f : Addr} {fd : FuncData} (F : Fun K "told" "Record.told" s_Record_told f fd) (B : Bn mg) (cl_Record : Cls K (cm "Record")) (n_kept : NoAttr K (cm "Record") "kept") : FnOk P w K mg base (CN P w) 1 f fd ["self"] (spD K cm cs m_Record_told) :=
  F.okD (ow := []) sc_Record_told fun cdv A outer s H Hs E pc hr => (b_one (s_ret (ow1 := []) (d_fl cl_Record n_kept (d_v 0 (pv 0)))))
theorem ok_with_glances {f : Addr} {fd : FuncData} (F : Fun K "with_glances" "with_glances" s_with_glances f fd) (B : Bn mg) (k_Record : mg "Record" = some (.ref (cm "Record"))) (s_Record : ("Record" : Str) ∈ cs) (cl_Record : Cls K (cm "Record")) (n_kept : NoAttr K (cm "Record") "kept") {z_Record_1_dead_least_most_paces_groups : List V} (df_Record_1_dead_least_most_paces_groups : Dfl K cm cs [] z_Record_1_dead_least_most_paces_groups) (f_Record_1_dead_least_most_paces_groups : MakNK P w K mg base 4 "Record" (cm "Record") 1 ["dead", "least", "most", "paces", "groups"] (fun vs zs => layS [.p 0, .k 0, .k 1, .k 2, .k 3, .k 4] vs z_Record_1_dead_least_most_paces_groups zs) (spI K cm cs "Record" m_Record_init)) (p_Record_told : PrpN P w K mg base 1 (cm "Record") "told" (spD K cm cs (noE m_Record_told))) : FnOk P w K mg base (CN P w) 6 f fd ["record", "glances"] (spD K cm cs m_with_glances) :=
  F.okD (ow := [8]) sc_with_glances fun cdv A outer s H Hs E pc hr => (b_cons (s_asg (ow1 := []) (t := (.tp [(.nm 2), (.nm 3), (.nm 4), (.nm 5), (.nm 6), (.nm 7)])) (ps_asg (d_sl (d_pr p_Record_told hr (by decide) (d_v 0 (pv 0))) po_n (po_s d_int)) (pg_tup rfl (pgs_cons (pg_name (i := 2) sc_with_glances.nd rfl (Or.inl rfl)) (pgs_cons (pg_name (i := 3) sc_with_glances.nd rfl (Or.inl rfl)) (pgs_cons (pg_name (i := 4) sc_with_glances.nd rfl (Or.inl rfl)) (pgs_cons (pg_name (i := 5) sc_with_glances.nd rfl (Or.inl rfl)) (pgs_cons (pg_name (i := 6) sc_with_glances.nd rfl (Or.inl rfl)) (pgs_cons (pg_name (i := 7) sc_with_glances.nd rfl (Or.inl rfl)) pgs_nil)))))))))
      (b_cons (s_setO (ow1 := []) (ps_set (i := 8) sc_with_glances.nd rfl (Or.inl rfl) (do_mkK s_Record f_Record_1_dead_least_most_paces_groups (layS_lays [.p 0, .k 0, .k 1, .k 2, .k 3, .k 4] df_Record_1_dead_least_most_paces_groups) psN hr (by decide) rfl (da_cons (d_v 2 (pv 2)) da_nil) (dk_cons (d_v 3 (pv 3)) (dk_cons (d_v 4 (pv 4)) (dk_cons (d_v 5 (pv 5)) (dk_cons (d_v 6 (pv 6)) (dk_cons (d_v 7 (pv 7)) dk_nil))))))))
      (b_cons (s_fld (ow1 := [8]) cl_Record n_kept (ps_fld (pv 8) (d_tup (da_cons (d_v 2 (pv 2)) (da_cons (d_v 3 (pv 3)) (da_cons (d_v 4 (pv 4)) (da_cons (d_v 5 (pv 5)) (da_cons (d_v 6 (pv 6)) (da_cons (d_v 7 (pv 7)) (da_cons (d_v 1 (pv 1)) da_nil)))))))) rfl))
      (b_one (s_ret (ow1 := []) (d_v 8 (pv 8)))))))
theorem ok_Record_dead {f : Addr} {fd : FuncData} (F : Fun K "dead" "Record.dead" s_Record_dead f fd) (B : Bn mg) (cl_Record : Cls K (cm "Record")) (n_kept : NoAttr K (cm "Record") "kept") : FnOk P w K mg base (CN P w) 1 f fd ["self"] (spD K cm cs m_Record_dead) :=
  F.okD (ow := []) sc_Record_dead fun cdv A outer s H Hs E pc hr => (b_one (s_ret (ow1 := []) (d_ix i_ix (d_fl cl_Record n_kept (d_v 0 (pv 0))) d_int (fun _ _ => rfl))))
theorem ok_Record_seen {f : Addr} {fd : FuncData} (F : Fun K "seen" "Record.seen" s_Record_seen f fd) (B : Bn mg) (c_check_time : CalN P w K mg base 3 "check_time" (spD K cm cs m_check_time)) (c_check_window : CalN P w K mg base 3 "check_window" (spD K cm cs m_check_window)) (c_unread_where_dead : CalN P w K mg base 1 "unread_where_dead" (spD K cm cs m_unread_where_dead)) (c_with_glances : CalN P w K mg base 6 "with_glances" (spD K cm cs m_with_glances)) (g_MOST_GLANCES : ∃ t, mg "MOST_GLANCES" = some (.int 12 t)) (e_InvalidWindow : ErrC P w K mg base 1 "InvalidWindow" (cm "InvalidWindow") "given") (p_Record_dead : PrpN P w K mg base 1 (cm "Record") "dead" (spD K cm cs (noE m_Record_dead))) (p_Record_glances : PrpN P w K mg base 1 (cm "Record") "glances" (spD K cm cs (noE m_Record_glances))) (p_Record_groups : PrpN P w K mg base 1 (cm "Record") "groups" (spD K cm cs (noE m_Record_groups))) (p_Record_width : PrpN P w K mg base 1 (cm "Record") "width" (spD K cm cs (noE m_Record_width))) : FnOk P w K mg base (CN P w) 7 f fd ["self", "time", "window"] (spD K cm cs m_Record_seen) :=
  F.okD (ow := []) sc_Record_seen fun cdv A outer s H Hs E pc hr => (b_cons (s_ex (ow1 := []) (d_ca c_check_time psN hr (by decide) rfl (da_cons (d_v 1 (pv 1)) da_nil)))
      (b_cons (s_ex (ow1 := []) (d_ca c_check_window psN hr (by decide) rfl (da_cons (d_v 2 (pv 2)) (da_cons (d_pr p_Record_width hr (by decide) (d_v 0 (pv 0))) (da_cons (d_pr p_Record_groups hr (by decide) (d_v 0 (pv 0))) da_nil)))))
      (b_cons (s_if (ow1 := []) (ow' := []) (dt_not (dt_tru rfl (d_ca c_unread_where_dead psN hr (by decide) rfl (da_cons (d_v 2 (pv 2)) (da_cons (d_pr p_Record_dead hr (by decide) (d_v 0 (pv 0))) da_nil))))) (b_one (s_ra (ow1 := []) (ps_err e_InvalidWindow rfl tkN hr (by decide) rfl (da_cons (d_v 2 (pv 2)) da_nil)) rfl)) b_nil)
      (b_cons (s_if (ow1 := []) (ow' := []) (dt_cmp o_ge (d_bi b_len rfl B.len boot_len (da_cons (d_pr p_Record_glances hr (by decide) (d_v 0 (pv 0))) da_nil)) (d_gi g_MOST_GLANCES) (nomark _)) (b_one s_never) b_nil)
      (b_one (s_ret (ow1 := []) (d_ca c_with_glances psN hr (by decide) rfl (da_cons (d_v 0 (pv 0)) (da_cons (d_op o_add (d_pr p_Record_glances hr (by decide) (d_v 0 (pv 0))) (d_tup (da_cons (d_tup (da_cons (d_v 1 (pv 1)) (da_cons (d_v 2 (pv 2)) da_nil))) da_nil))) da_nil)))))))))
theorem ok_l_right {cdv : Value} {f : Addr} {fd : FuncData} (F : Fun K "_law_right" "_law_right" s_l_right f fd) (hc : fd.code = cdv) (B : Bn mg) (c_l_pick : CalG P w K mg base 2 "_law_pick" (spL K cm cs T m_l_pick)) (c_can : CalN P w K mg base 5 "can" (spD K cm cs m_can)) (c_letters : CalN P w K mg base 7 "letters" (spD K cm cs m_letters)) (c_must : CalN P w K mg base 6 "must" (spD K cm cs m_must)) (c_sure : CalN P w K mg base 7 "sure" (spD K cm cs m_sure)) (c_can_window_time_record : CalKN P w K mg base 5 "can" ["window", "time", "record"] (fun _ zs => layL [.k 2, .k 1, .k 0] [] [] zs) (spD K cm cs m_can)) (c_letters_place_time_record : CalKN P w K mg base 7 "letters" ["place", "time", "record"] (fun _ zs => layL [.k 2, .k 1, .k 0] [] [] zs) (spD K cm cs m_letters)) (c_must_window_time_record : CalKN P w K mg base 6 "must" ["window", "time", "record"] (fun _ zs => layL [.k 2, .k 1, .k 0] [] [] zs) (spD K cm cs m_must)) (c_sure_time_record : CalKN P w K mg base 7 "sure" ["time", "record"] (fun _ zs => layL [.k 1, .k 0] [] [] zs) (spD K cm cs m_sure)) (c_l_caught : CauC P w K mg base cm errTab) (lt : LamT base mg T cdv (("_law_right" : Str) ++ (".<locals>." : Str))) (k_Record : mg "Record" = some (.ref (cm "Record"))) (s_Record : ("Record" : Str) ∈ cs) {z_Record_1_dead_groups : List V} (df_Record_1_dead_groups : Dfl K cm cs [.int 1, .int 20, .tup [.int 1]] z_Record_1_dead_groups) (f_Record_1_dead_groups : MakNK P w K mg base 4 "Record" (cm "Record") 1 ["dead", "groups"] (fun vs zs => layS [.p 0, .k 0, .d 0, .d 1, .d 2, .k 1] vs z_Record_1_dead_groups zs) (spI K cm cs "Record" m_Record_init)) (q_Record_seen : MetN P w K mg base 7 (cm "Record") "seen" (spD K cm cs m_Record_seen)) (p_Record_told : PrpN P w K mg base 1 (cm "Record") "told" (spD K cm cs (noE m_Record_told))) : FnOkG P w K mg base CX0 11 f fd ["_law_cup_here"] (spL K cm cs T m_l_right) :=
  F.okL (ow := []) hc sc_l_right fun A outer s H Hs E cup qt hr => (b_cons (s_set (ow1 := []) (ps_set (i := 1) sc_l_right.nd rfl (Or.inr rfl) (d_me q_Record_seen ps0 hr (by decide) (d_own (do_mkK s_Record f_Record_1_dead_groups (layS_lays [.p 0, .k 0, .d 0, .d 1, .d 2, .k 1] df_Record_1_dead_groups) ps0 hr (by decide) rfl (da_cons d_int da_nil) (dk_cons (d_tup (da_cons d_int da_nil)) (dk_cons (d_tup (da_cons d_str da_nil)) dk_nil)))) (da_cons d_int (da_cons d_str da_nil)))))
      (b_cons (s_for (ow1 := []) (t := (.nm 2)) PassesOwn.never rfl (di_r1 d_int B.range) (pg_name (i := 2) sc_l_right.nd rfl (Or.inl rfl)) (fun _ => (b_weak (b_cons (s_set (ow1 := []) (ps_set (i := 3) sc_l_right.nd rfl (Or.inr rfl) (d_cl c_l_pick (noE_no _) qt hr (by decide) rfl (da_cons (d_v 0 (pv 0)) (da_cons (d_lst (da_cons d_non (da_cons d_int (da_cons (d_tup da_nil) (da_cons (d_pr p_Record_told hr (by decide) (d_v 1 (pv 1))) (da_cons (d_lst da_nil) (da_cons d_dic (da_cons d_bl (da_cons d_str da_nil))))))))) da_nil)))))
      (b_cons (s_set (ow1 := []) (ps_set (i := 4) sc_l_right.nd rfl (Or.inr rfl) (d_cl c_l_pick (noE_no _) qt hr (by decide) rfl (da_cons (d_v 0 (pv 0)) (da_cons (d_lst (da_cons (d_neg d_int) (da_cons d_non (da_cons d_bl (da_cons d_str (da_cons (d_tup (da_cons d_int da_nil)) (da_cons (d_lst da_nil) (da_cons d_dic (da_cons (d_op o_add (d_op o_pow d_int d_int) d_int) da_nil))))))))) da_nil)))))
      (b_cons (s_set (ow1 := []) (ps_set (i := 5) sc_l_right.nd rfl (Or.inr rfl) (d_cl c_l_pick (noE_no _) qt hr (by decide) rfl (da_cons (d_v 0 (pv 0)) (da_cons (d_lst (da_cons (d_neg d_int) (da_cons d_int (da_cons d_non (da_cons d_bl (da_cons d_str (da_cons (d_tup (da_cons d_int da_nil)) (da_cons (d_lst da_nil) (da_cons d_dic da_nil))))))))) da_nil)))))
      (b_cons (s_set (ow1 := []) (ps_set (i := 6) sc_l_right.nd rfl (Or.inr rfl) (d_cl c_l_pick (noE_no _) qt hr (by decide) rfl (da_cons (d_v 0 (pv 0)) (da_cons (d_lst (da_cons d_non (da_cons d_str (da_cons d_str (da_cons d_str (da_cons d_str (da_cons d_str (da_cons (d_tup (da_cons d_str (da_cons d_str (da_cons d_str da_nil)))) (da_cons (d_lst da_nil) (da_cons d_dic (da_cons d_str (da_cons d_int (da_cons d_str (da_cons d_str da_nil)))))))))))))) da_nil)))))
      (b_cons (s_setO (ow1 := []) (ps_set (i := 7) sc_l_right.nd rfl (Or.inl rfl) (do_lst (da_cons (d_cau c_l_caught rfl lt qt hr (lamS_by (sc := defScope s_l_right) (by decide +kernel)) (fun _ _ _ _ _ _ _ qt hr px => (d_ca c_letters px hr (by decide) rfl (da_cons (d_v 3 (pv 3)) (da_cons (d_v 4 (pv 4)) (da_cons (d_v 5 (pv 5)) da_nil)))))) da_nil))))
      (b_cons (s_app (ow1 := [7]) (i := 7) (ps_expr (pe_bm PySem.F.plainAttrs_list PySem.F.slot_list_append PySem.F.type_list_append mt_append (pv 7) (pa_cons (d_cau c_l_caught rfl lt qt hr (lamS_by (sc := defScope s_l_right) (by decide +kernel)) (fun _ _ _ _ _ _ _ qt hr px => (d_ca c_sure px hr (by decide) rfl (da_cons (d_v 3 (pv 3)) (da_cons (d_v 4 (pv 4)) da_nil))))) pa_nil))))
      (b_cons (s_app (ow1 := [7]) (i := 7) (ps_expr (pe_bm PySem.F.plainAttrs_list PySem.F.slot_list_append PySem.F.type_list_append mt_append (pv 7) (pa_cons (d_cau c_l_caught rfl lt qt hr (lamS_by (sc := defScope s_l_right) (by decide +kernel)) (fun _ _ _ _ _ _ _ qt hr px => (d_ca c_can px hr (by decide) rfl (da_cons (d_v 3 (pv 3)) (da_cons (d_v 4 (pv 4)) (da_cons (d_v 6 (pv 6)) da_nil)))))) pa_nil))))
      (b_cons (s_app (ow1 := [7]) (i := 7) (ps_expr (pe_bm PySem.F.plainAttrs_list PySem.F.slot_list_append PySem.F.type_list_append mt_append (pv 7) (pa_cons (d_cau c_l_caught rfl lt qt hr (lamS_by (sc := defScope s_l_right) (by decide +kernel)) (fun _ _ _ _ _ _ _ qt hr px => (d_caK c_must_window_time_record px hr (by decide) rfl (dk_cons (d_v 6 (pv 6)) (dk_cons (d_v 4 (pv 4)) (dk_cons (d_v 3 (pv 3)) dk_nil)))))) pa_nil))))
      (b_cons (s_if (ow1 := []) (ow' := [7]) (dt_cmp (o_ne (ru hr)) (d_v 7 (pv 7)) (d_op o_mul (d_lst (da_cons (d_lst (da_cons d_int (da_cons d_int (da_cons d_int (da_cons (d_bi (b_repr qt (ruH hr)) rfl B.repr boot_repr (da_cons (d_v 3 (pv 3)) da_nil)) da_nil))))) da_nil)) d_int) (nomark _)) (b_one (s_ret (ow1 := [7]) d_bl)) b_nil)
      (b_cons (s_setO (ow1 := []) (ps_set (i := 7) sc_l_right.nd rfl (Or.inl rfl) (do_lst (da_cons (d_cau c_l_caught rfl lt qt hr (lamS_by (sc := defScope s_l_right) (by decide +kernel)) (fun _ _ _ _ _ _ _ qt hr px => (d_ca c_letters px hr (by decide) rfl (da_cons (d_v 1 (pv 1)) (da_cons (d_v 4 (pv 4)) (da_cons (d_v 5 (pv 5)) da_nil)))))) da_nil))))
      (b_cons (s_app (ow1 := [7]) (i := 7) (ps_expr (pe_bm PySem.F.plainAttrs_list PySem.F.slot_list_append PySem.F.type_list_append mt_append (pv 7) (pa_cons (d_cau c_l_caught rfl lt qt hr (lamS_by (sc := defScope s_l_right) (by decide +kernel)) (fun _ _ _ _ _ _ _ qt hr px => (d_caK c_sure_time_record px hr (by decide) rfl (dk_cons (d_v 4 (pv 4)) (dk_cons (d_v 1 (pv 1)) dk_nil))))) pa_nil))))
      (b_cons (s_app (ow1 := [7]) (i := 7) (ps_expr (pe_bm PySem.F.plainAttrs_list PySem.F.slot_list_append PySem.F.type_list_append mt_append (pv 7) (pa_cons (d_cau c_l_caught rfl lt qt hr (lamS_by (sc := defScope s_l_right) (by decide +kernel)) (fun _ _ _ _ _ _ _ qt hr px => (d_ca c_can px hr (by decide) rfl (da_cons (d_v 1 (pv 1)) (da_cons (d_v 4 (pv 4)) (da_cons (d_v 6 (pv 6)) da_nil)))))) pa_nil))))
      (b_cons (s_app (ow1 := [7]) (i := 7) (ps_expr (pe_bm PySem.F.plainAttrs_list PySem.F.slot_list_append PySem.F.type_list_append mt_append (pv 7) (pa_cons (d_cau c_l_caught rfl lt qt hr (lamS_by (sc := defScope s_l_right) (by decide +kernel)) (fun _ _ _ _ _ _ _ qt hr px => (d_ca c_must px hr (by decide) rfl (da_cons (d_v 1 (pv 1)) (da_cons (d_v 4 (pv 4)) (da_cons (d_v 6 (pv 6)) da_nil)))))) pa_nil))))
      (b_cons (s_if (ow1 := []) (ow' := [7]) (dt_cmp (o_ne (ru hr)) (d_v 7 (pv 7)) (d_op o_mul (d_lst (da_cons (d_lst (da_cons d_int (da_cons d_int (da_cons d_int (da_cons (d_bi (b_repr qt (ruH hr)) rfl B.repr boot_repr (da_cons (d_v 4 (pv 4)) da_nil)) da_nil))))) da_nil)) d_int) (nomark _)) (b_one (s_ret (ow1 := [7]) d_bl)) b_nil)
      (b_cons (s_setO (ow1 := []) (ps_set (i := 7) sc_l_right.nd rfl (Or.inl rfl) (do_lst (da_cons (d_cau c_l_caught rfl lt qt hr (lamS_by (sc := defScope s_l_right) (by decide +kernel)) (fun _ _ _ _ _ _ _ qt hr px => (d_ca c_letters px hr (by decide) rfl (da_cons (d_v 1 (pv 1)) (da_cons d_int (da_cons (d_v 5 (pv 5)) da_nil)))))) da_nil))))
      (b_cons (s_app (ow1 := [7]) (i := 7) (ps_expr (pe_bm PySem.F.plainAttrs_list PySem.F.slot_list_append PySem.F.type_list_append mt_append (pv 7) (pa_cons (d_cau c_l_caught rfl lt qt hr (lamS_by (sc := defScope s_l_right) (by decide +kernel)) (fun _ _ _ _ _ _ _ qt hr px => (d_caK c_letters_place_time_record px hr (by decide) rfl (dk_cons (d_v 5 (pv 5)) (dk_cons d_int (dk_cons (d_v 1 (pv 1)) dk_nil)))))) pa_nil))))
      (b_cons (s_if (ow1 := []) (ow' := [7]) (dt_cmp (o_ne (ru hr)) (d_v 7 (pv 7)) (d_op o_mul (d_lst (da_cons (d_lst (da_cons d_int (da_cons d_int (da_cons d_int (da_cons (d_bi (b_repr qt (ruH hr)) rfl B.repr boot_repr (da_cons (d_v 5 (pv 5)) da_nil)) da_nil))))) da_nil)) d_int) (nomark _)) (b_one (s_ret (ow1 := [7]) d_bl)) b_nil)
      (b_cons (s_setO (ow1 := []) (ps_set (i := 7) sc_l_right.nd rfl (Or.inl rfl) (do_lst (da_cons (d_cau c_l_caught rfl lt qt hr (lamS_by (sc := defScope s_l_right) (by decide +kernel)) (fun _ _ _ _ _ _ _ qt hr px => (d_ca c_can px hr (by decide) rfl (da_cons (d_v 1 (pv 1)) (da_cons d_int (da_cons (d_v 6 (pv 6)) da_nil)))))) da_nil))))
      (b_cons (s_app (ow1 := [7]) (i := 7) (ps_expr (pe_bm PySem.F.plainAttrs_list PySem.F.slot_list_append PySem.F.type_list_append mt_append (pv 7) (pa_cons (d_cau c_l_caught rfl lt qt hr (lamS_by (sc := defScope s_l_right) (by decide +kernel)) (fun _ _ _ _ _ _ _ qt hr px => (d_ca c_must px hr (by decide) rfl (da_cons (d_v 1 (pv 1)) (da_cons d_int (da_cons (d_v 6 (pv 6)) da_nil)))))) pa_nil))))
      (b_cons (s_app (ow1 := [7]) (i := 7) (ps_expr (pe_bm PySem.F.plainAttrs_list PySem.F.slot_list_append PySem.F.type_list_append mt_append (pv 7) (pa_cons (d_cau c_l_caught rfl lt qt hr (lamS_by (sc := defScope s_l_right) (by decide +kernel)) (fun _ _ _ _ _ _ _ qt hr px => (d_caK c_can_window_time_record px hr (by decide) rfl (dk_cons (d_v 6 (pv 6)) (dk_cons d_int (dk_cons (d_v 1 (pv 1)) dk_nil)))))) pa_nil))))
      (b_one (s_if (ow1 := []) (ow' := [7]) (dt_cmp (o_ne (ru hr)) (d_v 7 (pv 7)) (d_op o_mul (d_lst (da_cons (d_lst (da_cons d_int (da_cons d_int (da_cons d_int (da_cons (d_bi (b_repr qt (ruH hr)) rfl B.repr boot_repr (da_cons (d_v 6 (pv 6)) da_nil)) da_nil))))) da_nil)) d_int) (nomark _)) (b_one (s_ret (ow1 := [7]) d_bl)) b_nil)))))))))))))))))))))))))
      (b_one (s_ret (ow1 := []) d_bl))))
theorem ok_law {cdv : Value} {f : Addr} {fd : FuncData} (F : Fun K "law" "law" s_law f fd) (hc : fd.code = cdv) (B : Bn mg) (c_l_right : CalG P w K mg base 11 "_law_right" (spL K cm cs T m_l_right)) (c_can : CalN P w K mg base 5 "can" (spD K cm cs m_can)) (c_letters : CalN P w K mg base 7 "letters" (spD K cm cs m_letters)) (c_l_caught : CauC P w K mg base cm errTab) (lt : LamT base mg T cdv (("law" : Str) ++ (".<locals>." : Str))) (k_Record : mg "Record" = some (.ref (cm "Record"))) (s_Record : ("Record" : Str) ∈ cs) (c_l_cup : CalG P w K mg base 1 "_law_cup" (spCupX K)) {z_Record_1_groups : List V} (df_Record_1_groups : Dfl K cm cs [.tup [], .int 1, .int 20, .tup [.int 1]] z_Record_1_groups) (f_Record_1_groups : MakNK P w K mg base 4 "Record" (cm "Record") 1 ["groups"] (fun vs zs => layS [.p 0, .d 0, .d 1, .d 2, .d 3, .k 0] vs z_Record_1_groups zs) (spI K cm cs "Record" m_Record_init)) : FnOkG P w K mg base CX0 15 f fd ["_law_script"] (spD0 K cm cs T m_law) :=
  F.okL0 (ow := [2]) hc sc_law fun A outer s H Hs E qt hr => (b_cons (s_set (ow1 := []) (ps_set (i := 1) sc_law.nd rfl (Or.inr rfl) (d_own (do_mkK s_Record f_Record_1_groups (layS_lays [.p 0, .d 0, .d 1, .d 2, .d 3, .k 0] df_Record_1_groups) ps0 hr (by decide) rfl (da_cons d_int da_nil) (dk_cons (d_tup (da_cons d_str da_nil)) dk_nil)))))
      (b_cons (s_setO (ow1 := []) (ps_set (i := 2) sc_law.nd rfl (Or.inl rfl) (do_lst (da_cons (d_cau c_l_caught rfl lt qt hr (lamS_by (sc := defScope s_law) (by decide +kernel)) (fun _ _ _ _ _ _ _ qt hr px => (d_ca c_can px hr (by decide) rfl (da_cons (d_v 1 (pv 1)) (da_cons (d_op o_pow d_int d_int) (da_cons d_str da_nil)))))) da_nil))))
      (b_cons (s_app (ow1 := [2]) (i := 2) (ps_expr (pe_bm PySem.F.plainAttrs_list PySem.F.slot_list_append PySem.F.type_list_append mt_append (pv 2) (pa_cons (d_cau c_l_caught rfl lt qt hr (lamS_by (sc := defScope s_law) (by decide +kernel)) (fun _ _ _ _ _ _ _ qt hr px => (d_ca c_can px hr (by decide) rfl (da_cons (d_v 1 (pv 1)) (da_cons d_int (da_cons d_str da_nil)))))) pa_nil))))
      (b_cons (s_if (ow1 := []) (ow' := [2]) (PW.pt (dw_or (dt_cmp (o_ne (ru hr)) (d_v 2 (pv 2)) (d_lst (da_cons (d_lst (da_cons d_str (da_cons d_bl da_nil))) (da_cons (d_lst (da_cons d_int (da_cons d_int (da_cons d_int (da_cons (d_bi (b_repr qt (ruH hr)) rfl B.repr boot_repr (da_cons d_str da_nil)) da_nil))))) da_nil))) (nomark _)) (dw_or1 (dt_cmp (o_ne (ru hr)) (d_ix i_ix (d_cau c_l_caught rfl lt qt hr (lamS_by (sc := defScope s_law) (by decide +kernel)) (fun _ _ _ _ _ _ _ qt hr px => (d_ca c_letters px hr (by decide) rfl (da_cons (d_v 1 (pv 1)) (da_cons d_int (da_cons d_int da_nil)))))) d_int (fun _ _ => rfl)) d_str (nomark _))))) (b_one (s_ret (ow1 := [2]) d_bl)) b_nil)
      (b_one (s_ret (ow1 := [2]) (d_bi (b_all rfl) rfl B.all boot_all (da_cons (d_own (do_lc (own := [("_law_spot", 3)]) (t := (.nm 3)) rfl sc_law.nd (di_r1 (d_bi (b_max rfl) rfl B.max boot_max (da_cons d_int (da_cons (d_bi (b_min rfl) rfl B.min boot_min (da_cons (d_bi b_len rfl B.len boot_len (da_cons (d_v 0 (pv 0)) da_nil)) (da_cons d_int da_nil))) da_nil))) B.range) (blkOk_by (N := ["_law_script", "_law_mine", "_law_seen", "_law_spot"]) (sc := defScope s_law) (by decide +kernel)) (fun _ _ _ _ _ => (pg_name (i := 3) sc_law.nd rfl (Or.inl rfl))) (fun _ _ _ _ _ => dts_nil) (fun _ _ _ _ _ => (d_cup c_l_cup c_l_right qt hr (by decide) (by decide) rfl rfl (da_cons (d_v 0 (pv 0)) (da_cons (d_v 3 (pv 3)) da_nil)))))) da_nil))))))))
end
end L2.G
set_option Elab.async false
set_option linter.all false
set_option maxRecDepth 100000
set_option maxHeartbeats 4000000
namespace L2.G
open PySem PySem.Spec PyProof.Rows L2H
local macro_rules | `(tactic| walk_at "rd") => `(tactic| first | simp only [cxOf, tSeq, tMethK, tMeth, tMake, tMakeK, tProp, rLenI, rTxtI, rTruI, rEqI, tJs, tFmt, wipe, tBM, tBM0, tyV, cJoin, rIxS, sFld, tAsg, tOp, tUn, tCB, tCons, tNil, tVar, tC, rI, rI0, rU, cIx, cSet, cLen, cInt, cDivmod, cTup, cIsiB, cIsiC, cFld, tyN, isB_NoneType_int, isB_NoneType_str, isB_NoneType_bool, isB_NoneType_tuple, isB_bool_int, isB_bool_str, isB_bool_bool, isB_bool_tuple, isB_int_int, isB_int_str, isB_int_bool, isB_int_tuple, isB_str_int, isB_str_str, isB_str_bool, isB_str_tuple, isB_list_int, isB_list_str, isB_list_bool, isB_list_tuple, isB_tuple_int, isB_tuple_str, isB_tuple_bool, isB_tuple_tuple, isB_dict_int, isB_dict_str, isB_dict_bool, isB_dict_tuple, gSub, start, tIfS, tTest, tB, tNot, tAnd, tOr, tAndV, tOrV, tNotV, tChain, tIf, tSl, tPart, tNoPart, rSlL, rSlS, tLst, tTup, tYes, tRet, tNext, tDrop, gCons, gNil, gName, tCall, tPar, rEq, rNe, scal_ss, scal_ii, scal_bb, scal_nn, tNever,
  List.map_cons, List.map_nil, List.length_cons, List.length_nil, List.replicate, List.cons_append, List.nil_append, List.append_nil, List.getElem?_cons_zero, List.getElem?_cons_succ, List.set_cons_zero, List.set_cons_succ, List.getElem?_nil, Nat.reduceAdd, Nat.reduceSub, List.replicate_succ, List.replicate_zero,
  Option.some.injEq, V.int.injEq, V.ref.injEq, V.str.injEq, V.bl.injEq, V.ty.injEq, List.cons.injEq, and_true, true_and, and_assoc, exists_false, false_and, or_false, false_or, and_false, exists_eq_left', exists_and_left, exists_eq_left, upd_same, atI0, atI1, ixN20, ixN21, decide_eq_true_eq, if_true, if_false, reduceIte, Bool.false_eq_true, Bool.not_true, Bool.not_false, Bool.not_eq_true', decide_eq_false_iff_not,  reduceCtorEq, eq_self, decide_true, decide_false, not_true_eq_false, not_false_eq_true, id_eq] | skip)
theorem sc_l_classes : FnScope ["_law_e", "_law_found", "_law_above", "_law_at"] ["_law_e"] (defScope s_l_classes) := ⟨rfl, rfl, rfl, by decide +kernel, rfl, by decide +kernel, by decide +kernel⟩
section
variable {P : Program} {w : World} {K : PySem.W.Frag} {mg : Str → Option Value} {base : Heap}
theorem ok_classes {f : Addr} {fd : FuncData} (T : TCl K mg) (F : Fun K "_law_classes" "_law_classes" s_l_classes f fd) (B : Bn mg) : FnE P w K mg base 1 f fd ["_law_e"] (spClasses T) := by
  refine F.okE sc_l_classes (fun p vs H Q E h => ?_) (fun cdv A outer s H vs Q p h1 hr h => ?_)
  · obtain ⟨D, dd, fs, kit, ab, rfl, _⟩ := h
    rfl
  · obtain ⟨D, dd, fs, kit, ab, rfl, XC, hz, hf, hd, KT, fin⟩ := h
    have hp : p ∈ (cxH CX0 P w K mg base ["_law_e", "_law_found", "_law_above", "_law_at"] "_law_classes" (defScope s_l_classes) f cdv A outer s H E0 p).pn := List.mem_singleton.mpr rfl
    have hot : L2H.HotC (cxH CX0 P w K mg base ["_law_e", "_law_found", "_law_above", "_law_at"] "_law_classes" (defScope s_l_classes) f cdv A outer s H E0 p) := ⟨p, h1, hp⟩
    refine ⟨_, (pss_cons (ps_cut (ps_set (i := 1) sc_l_classes.nd rfl (Or.inr rfl) (pe_lst (pa_cons (pe_callB (call_isP XC hp hz hf) rfl B.isinstance boot_isinstance (pa_cons (pv 0) (pa_cons (pe_glob (v := .ref (T.cl 0)) rfl (T.g_NotASign) rfl) pa_nil))) (pa_cons (pe_callB (call_isP XC hp hz hf) rfl B.isinstance boot_isinstance (pa_cons (pv 0) (pa_cons (pe_glob (v := .ref (T.cl 1)) rfl (T.g_NotARecord) rfl) pa_nil))) (pa_cons (pe_callB (call_isP XC hp hz hf) rfl B.isinstance boot_isinstance (pa_cons (pv 0) (pa_cons (pe_glob (v := .ref (T.cl 2)) rfl (T.g_InvalidText) rfl) pa_nil))) (pa_cons (pe_callB (call_isP XC hp hz hf) rfl B.isinstance boot_isinstance (pa_cons (pv 0) (pa_cons (pe_glob (v := .ref (T.cl 3)) rfl (T.g_InvalidPace) rfl) pa_nil))) pa_nil)))))))
      (pss_cons (ps_cut (ps_set (i := 1) sc_l_classes.nd rfl (Or.inr rfl) (pe_op op_cat (pv 1) (pe_lst (pa_cons (pe_callB (call_isP XC hp hz hf) rfl B.isinstance boot_isinstance (pa_cons (pv 0) (pa_cons (pe_glob (v := .ref (T.cl 4)) rfl (T.g_InvalidWidth) rfl) pa_nil))) (pa_cons (pe_callB (call_isP XC hp hz hf) rfl B.isinstance boot_isinstance (pa_cons (pv 0) (pa_cons (pe_glob (v := .ref (T.cl 5)) rfl (T.g_InvalidPlace) rfl) pa_nil))) (pa_cons (pe_callB (call_isP XC hp hz hf) rfl B.isinstance boot_isinstance (pa_cons (pv 0) (pa_cons (pe_glob (v := .ref (T.cl 6)) rfl (T.g_InvalidLength) rfl) pa_nil))) pa_nil)))))))
      (pss_cons (ps_cut (ps_set (i := 1) sc_l_classes.nd rfl (Or.inr rfl) (pe_op op_cat (pv 1) (pe_lst (pa_cons (pe_callB (call_isP XC hp hz hf) rfl B.isinstance boot_isinstance (pa_cons (pv 0) (pa_cons (pe_glob (v := .ref (T.cl 7)) rfl (T.g_InvalidTime) rfl) pa_nil))) (pa_cons (pe_callB (call_isP XC hp hz hf) rfl B.isinstance boot_isinstance (pa_cons (pv 0) (pa_cons (pe_glob (v := .ref (T.cl 8)) rfl (T.g_InvalidWindow) rfl) pa_nil))) (pa_cons (pe_callB (call_isP XC hp hz hf) rfl B.isinstance boot_isinstance (pa_cons (pv 0) (pa_cons (pe_glob (v := .ref (T.cl 9)) rfl (T.g_InvalidName) rfl) pa_nil))) pa_nil)))))))
      (pss_cons (ps_cut (ps_set (i := 1) sc_l_classes.nd rfl (Or.inr rfl) (pe_op op_cat (pv 1) (pe_lst (pa_cons (pe_callB (call_isP XC hp hz hf) rfl B.isinstance boot_isinstance (pa_cons (pv 0) (pa_cons (pe_glob (v := .ref (T.cl 10)) rfl (T.g_InvalidClaim) rfl) pa_nil))) (pa_cons (pe_callB (call_isP XC hp hz hf) rfl B.isinstance boot_isinstance (pa_cons (pv 0) (pa_cons (pe_glob (v := .ref (T.cl 11)) rfl (T.g_InvalidIndex) rfl) pa_nil))) (pa_cons (pe_callB (call_isP XC hp hz hf) rfl B.isinstance boot_isinstance (pa_cons (pv 0) (pa_cons (pe_glob (v := .ref (T.cl 12)) rfl (T.g_InvalidLine) rfl) pa_nil))) pa_nil)))))))
      (pss_cons (ps_cut (ps_set (i := 1) sc_l_classes.nd rfl (Or.inr rfl) (pe_op op_cat (pv 1) (pe_lst (pa_cons (pe_callB (call_isP XC hp hz hf) rfl B.isinstance boot_isinstance (pa_cons (pv 0) (pa_cons (pe_glob (v := .ref (T.cl 13)) rfl (T.g_InvalidDead) rfl) pa_nil))) (pa_cons (pe_callB (call_isP XC hp hz hf) rfl B.isinstance boot_isinstance (pa_cons (pv 0) (pa_cons (pe_glob (v := .ref (T.cl 14)) rfl (T.g_InvalidPaces) rfl) pa_nil))) (pa_cons (pe_callB (call_isP XC hp hz hf) rfl B.isinstance boot_isinstance (pa_cons (pv 0) (pa_cons (pe_glob (v := .ref (T.cl 15)) rfl (T.g_InvalidGroups) rfl) pa_nil))) pa_nil)))))))
      (pss_cons (ps_cut (ps_set (i := 1) sc_l_classes.nd rfl (Or.inr rfl) (pe_op op_cat (pv 1) (pe_lst (pa_cons (pe_callB (call_isP XC hp hz hf) rfl B.isinstance boot_isinstance (pa_cons (pv 0) (pa_cons (pe_glob (v := .ref (T.cl 16)) rfl (T.g_InvalidTimes) rfl) pa_nil))) (pa_cons (pe_callB (call_isP XC hp hz hf) rfl B.isinstance boot_isinstance (pa_cons (pv 0) (pa_cons (pe_glob (v := .ref (T.cl 17)) rfl (T.g_InvalidDeeds) rfl) pa_nil))) (pa_cons (pe_callB (call_isP XC hp hz hf) rfl B.isinstance boot_isinstance (pa_cons (pv 0) (pa_cons (pe_glob (v := .ref (T.cl 18)) rfl (T.g_UnknownName) rfl) pa_nil))) pa_nil)))))))
      (pss_cons (ps_cut (ps_set (i := 1) sc_l_classes.nd rfl (Or.inr rfl) (pe_op op_cat (pv 1) (pe_lst (pa_cons (pe_callB (call_isP XC hp hz hf) rfl B.isinstance boot_isinstance (pa_cons (pv 0) (pa_cons (pe_glob (v := .ref (T.cl 19)) rfl (T.g_InUse) rfl) pa_nil))) (pa_cons (pe_callB (call_isP XC hp hz hf) rfl B.isinstance boot_isinstance (pa_cons (pv 0) (pa_cons (pe_glob (v := .ref (T.cl 20)) rfl (T.g_TooMany) rfl) pa_nil))) (pa_cons (pe_callB (call_isP XC hp hz hf) rfl B.isinstance boot_isinstance (pa_cons (pv 0) (pa_cons (pe_glob (v := .ref (T.cl 21)) rfl (T.g_OtherKind) rfl) pa_nil))) (pa_cons (pe_callB (call_isP XC hp hz hf) rfl B.isinstance boot_isinstance (pa_cons (pv 0) (pa_cons (pe_glob (v := .ref (T.cl 22)) rfl (T.g_Broken) rfl) pa_nil))) pa_nil))))))))
      (pss_cons (ps_cut (ps_expr (pe_bm PySem.F.plainAttrs_list PySem.F.slot_list_append PySem.F.type_list_append mt_append (pv 1) (pa_cons (pe_callB (call_isP XC hp hz hf) rfl B.isinstance boot_isinstance (pa_cons (pv 0) (pa_cons (pe_glob (v := .ref (T.cl 23)) rfl (T.g_NothingToUndo) rfl) pa_nil))) pa_nil))))
      (pss_cons (ps_cut (ps_set (i := 2) sc_l_classes.nd rfl (Or.inr rfl) (pe_lst (pa_cons (pe_callB (call_isP XC hp hz hf) rfl B.isinstance boot_isinstance (pa_cons (pv 0) (pa_cons (pe_glob (v := .ref (T.cl 24)) rfl (T.g_WrongValue) rfl) pa_nil))) (pa_cons (pe_callB (call_isP XC hp hz hf) rfl B.isinstance boot_isinstance (pa_cons (pv 0) (pa_cons (pe_glob (v := .ref (T.cl 25)) rfl (T.g_WrongName) rfl) pa_nil))) (pa_cons (pe_callB (call_isP XC hp hz hf) rfl B.isinstance boot_isinstance (pa_cons (pv 0) (pa_cons (pe_glob (v := .ref (T.cl 26)) rfl (T.g_NoAnswer) rfl) pa_nil))) pa_nil))))))
      (pss_cons (ps_cut (ps_set (i := 2) sc_l_classes.nd rfl (Or.inr rfl) (pe_op op_cat (pv 2) (pe_lst (pa_cons (pe_callB (call_isP XC hp hz hf) rfl B.isinstance boot_isinstance (pa_cons (pv 0) (pa_cons (pe_bltn (v := .ty "ValueError") rfl T.b_ValueError PyProof.Rows.Boot.«ValueError» rfl) pa_nil))) (pa_cons (pe_callB (call_isP XC hp hz hf) rfl B.isinstance boot_isinstance (pa_cons (pv 0) (pa_cons (pe_bltn (v := .ty "LookupError") rfl T.b_LookupError PyProof.Rows.Boot.«LookupError» rfl) pa_nil))) (pa_cons (pe_callB (call_isP XC hp hz hf) rfl B.isinstance boot_isinstance (pa_cons (pv 0) (pa_cons (pe_bltn (v := .ty "ArithmeticError") rfl T.b_ArithmeticError PyProof.Rows.Boot.«ArithmeticError» rfl) pa_nil))) pa_nil)))))))
      (pss_one (ps_ret (pe_op op_cat (pe_lcH (own := [("_law_at", 3)]) (g := gName 3) hot sc_l_classes.nd (pi_range1H rfl B.range (pa_cons (pe_cut pe_int) pa_nil)) (blkOk_by (N := ["_law_e", "_law_found", "_law_above", "_law_at"]) (sc := defScope s_l_classes) (by decide +kernel)) (fun _ _ _ _ _ => (pg_name (i := 3) sc_l_classes.nd rfl (Or.inl rfl))) (fun _ _ _ _ _ => (pts_one (pt_val (pe_ix ix_c (pv 1) (pv 3) (fun _ _ => rfl))))) (fun _ _ _ _ _ => (pv 3))) (pe_lcH (own := [("_law_at", 3)]) (g := gName 3) hot sc_l_classes.nd (pi_range1H rfl B.range (pa_cons (pe_cut pe_int) pa_nil)) (blkOk_by (N := ["_law_e", "_law_found", "_law_above", "_law_at"]) (sc := defScope s_l_classes) (by decide +kernel)) (fun _ _ _ _ _ => (pg_name (i := 3) sc_l_classes.nd rfl (Or.inl rfl))) (fun _ _ _ _ _ => (pts_one (pt_val (pe_ix ix_c (pv 2) (pv 3) (fun _ _ => rfl))))) (fun _ _ _ _ _ => (pe_op op_add pe_int (pv 3))))))))))))))))), ?_⟩
    obtain ⟨R, hR⟩ : ∃ R : St → Hp → Prop, R = fun σ' H' => ∃ L, σ' = [some (.ref p.1), some (.ref L), none, none] ∧ Same H H' ∧ H' L = some (.lst [V.bl (kit 0), V.bl (kit 1), V.bl (kit 2), V.bl (kit 3)]) ∧ H L = none := ⟨_, rfl⟩
    refine ⟨R, ?_, ?_⟩
    · walk_at "rd"
      refine isP_ref hd (KT.own 0 (by decide)) (isP_ref hd (KT.own 1 (by decide)) (isP_ref hd (KT.own 2 (by decide)) (isP_ref hd (KT.own 3 (by decide)) ?_)))
      refine ⟨by rw [sizeLine_eq]; decide, fun L hL => ?_⟩
      rw [hR]
      exact ⟨L, rfl, same_new hL, upd_same, hL⟩
    rw [hR]
    clear hR R
    rintro _ H1 ⟨L1, rfl, e1, l1, n1⟩
    obtain ⟨R, hR⟩ : ∃ R : St → Hp → Prop, R = fun σ' H' => ∃ L, σ' = [some (.ref p.1), some (.ref L), none, none] ∧ Same H H' ∧ H' L = some (.lst [V.bl (kit 0), V.bl (kit 1), V.bl (kit 2), V.bl (kit 3), V.bl (kit 4), V.bl (kit 5), V.bl (kit 6)]) ∧ H L = none := ⟨_, rfl⟩
    refine ⟨R, ?_, ?_⟩
    · walk_at "rd"
      refine isP_ref (e1 _ _ hd) (KT.own 4 (by decide)) (isP_ref (e1 _ _ hd) (KT.own 5 (by decide)) (isP_ref (e1 _ _ hd) (KT.own 6 (by decide)) ?_))
      refine ⟨by rw [sizeLine_eq]; decide, fun N hN => ?_⟩
      refine ⟨L1, N, _, _, rfl, rfl, (upd_ne (ne_old l1 hN)).trans l1, upd_same, by rw [sizeLine_eq]; simp, fun q hq => ?_⟩
      rw [hR]
      exact ⟨q, rfl, fun a o ha => same_new hq a o (same_new hN a o (e1 a o ha)), upd_same, same_none (fun a o ha => same_new hN a o (e1 a o ha)) hq⟩
    rw [hR]
    clear hR R
    rintro _ H2 ⟨L2, rfl, e2, l2, n2⟩
    obtain ⟨R, hR⟩ : ∃ R : St → Hp → Prop, R = fun σ' H' => ∃ L, σ' = [some (.ref p.1), some (.ref L), none, none] ∧ Same H H' ∧ H' L = some (.lst [V.bl (kit 0), V.bl (kit 1), V.bl (kit 2), V.bl (kit 3), V.bl (kit 4), V.bl (kit 5), V.bl (kit 6), V.bl (kit 7), V.bl (kit 8), V.bl (kit 9)]) ∧ H L = none := ⟨_, rfl⟩
    refine ⟨R, ?_, ?_⟩
    · walk_at "rd"
      refine isP_ref (e2 _ _ hd) (KT.own 7 (by decide)) (isP_ref (e2 _ _ hd) (KT.own 8 (by decide)) (isP_ref (e2 _ _ hd) (KT.own 9 (by decide)) ?_))
      refine ⟨by rw [sizeLine_eq]; decide, fun N hN => ?_⟩
      refine ⟨L2, N, _, _, rfl, rfl, (upd_ne (ne_old l2 hN)).trans l2, upd_same, by rw [sizeLine_eq]; simp, fun q hq => ?_⟩
      rw [hR]
      exact ⟨q, rfl, fun a o ha => same_new hq a o (same_new hN a o (e2 a o ha)), upd_same, same_none (fun a o ha => same_new hN a o (e2 a o ha)) hq⟩
    rw [hR]
    clear hR R
    rintro _ H3 ⟨L3, rfl, e3, l3, n3⟩
    obtain ⟨R, hR⟩ : ∃ R : St → Hp → Prop, R = fun σ' H' => ∃ L, σ' = [some (.ref p.1), some (.ref L), none, none] ∧ Same H H' ∧ H' L = some (.lst [V.bl (kit 0), V.bl (kit 1), V.bl (kit 2), V.bl (kit 3), V.bl (kit 4), V.bl (kit 5), V.bl (kit 6), V.bl (kit 7), V.bl (kit 8), V.bl (kit 9), V.bl (kit 10), V.bl (kit 11), V.bl (kit 12)]) ∧ H L = none := ⟨_, rfl⟩
    refine ⟨R, ?_, ?_⟩
    · walk_at "rd"
      refine isP_ref (e3 _ _ hd) (KT.own 10 (by decide)) (isP_ref (e3 _ _ hd) (KT.own 11 (by decide)) (isP_ref (e3 _ _ hd) (KT.own 12 (by decide)) ?_))
      refine ⟨by rw [sizeLine_eq]; decide, fun N hN => ?_⟩
      refine ⟨L3, N, _, _, rfl, rfl, (upd_ne (ne_old l3 hN)).trans l3, upd_same, by rw [sizeLine_eq]; simp, fun q hq => ?_⟩
      rw [hR]
      exact ⟨q, rfl, fun a o ha => same_new hq a o (same_new hN a o (e3 a o ha)), upd_same, same_none (fun a o ha => same_new hN a o (e3 a o ha)) hq⟩
    rw [hR]
    clear hR R
    rintro _ H4 ⟨L4, rfl, e4, l4, n4⟩
    obtain ⟨R, hR⟩ : ∃ R : St → Hp → Prop, R = fun σ' H' => ∃ L, σ' = [some (.ref p.1), some (.ref L), none, none] ∧ Same H H' ∧ H' L = some (.lst [V.bl (kit 0), V.bl (kit 1), V.bl (kit 2), V.bl (kit 3), V.bl (kit 4), V.bl (kit 5), V.bl (kit 6), V.bl (kit 7), V.bl (kit 8), V.bl (kit 9), V.bl (kit 10), V.bl (kit 11), V.bl (kit 12), V.bl (kit 13), V.bl (kit 14), V.bl (kit 15)]) ∧ H L = none := ⟨_, rfl⟩
    refine ⟨R, ?_, ?_⟩
    · walk_at "rd"
      refine isP_ref (e4 _ _ hd) (KT.own 13 (by decide)) (isP_ref (e4 _ _ hd) (KT.own 14 (by decide)) (isP_ref (e4 _ _ hd) (KT.own 15 (by decide)) ?_))
      refine ⟨by rw [sizeLine_eq]; decide, fun N hN => ?_⟩
      refine ⟨L4, N, _, _, rfl, rfl, (upd_ne (ne_old l4 hN)).trans l4, upd_same, by rw [sizeLine_eq]; simp, fun q hq => ?_⟩
      rw [hR]
      exact ⟨q, rfl, fun a o ha => same_new hq a o (same_new hN a o (e4 a o ha)), upd_same, same_none (fun a o ha => same_new hN a o (e4 a o ha)) hq⟩
    rw [hR]
    clear hR R
    rintro _ H5 ⟨L5, rfl, e5, l5, n5⟩
    obtain ⟨R, hR⟩ : ∃ R : St → Hp → Prop, R = fun σ' H' => ∃ L, σ' = [some (.ref p.1), some (.ref L), none, none] ∧ Same H H' ∧ H' L = some (.lst [V.bl (kit 0), V.bl (kit 1), V.bl (kit 2), V.bl (kit 3), V.bl (kit 4), V.bl (kit 5), V.bl (kit 6), V.bl (kit 7), V.bl (kit 8), V.bl (kit 9), V.bl (kit 10), V.bl (kit 11), V.bl (kit 12), V.bl (kit 13), V.bl (kit 14), V.bl (kit 15), V.bl (kit 16), V.bl (kit 17), V.bl (kit 18)]) ∧ H L = none := ⟨_, rfl⟩
    refine ⟨R, ?_, ?_⟩
    · walk_at "rd"
      refine isP_ref (e5 _ _ hd) (KT.own 16 (by decide)) (isP_ref (e5 _ _ hd) (KT.own 17 (by decide)) (isP_ref (e5 _ _ hd) (KT.own 18 (by decide)) ?_))
      refine ⟨by rw [sizeLine_eq]; decide, fun N hN => ?_⟩
      refine ⟨L5, N, _, _, rfl, rfl, (upd_ne (ne_old l5 hN)).trans l5, upd_same, by rw [sizeLine_eq]; simp, fun q hq => ?_⟩
      rw [hR]
      exact ⟨q, rfl, fun a o ha => same_new hq a o (same_new hN a o (e5 a o ha)), upd_same, same_none (fun a o ha => same_new hN a o (e5 a o ha)) hq⟩
    rw [hR]
    clear hR R
    rintro _ H6 ⟨L6, rfl, e6, l6, n6⟩
    obtain ⟨R, hR⟩ : ∃ R : St → Hp → Prop, R = fun σ' H' => ∃ L, σ' = [some (.ref p.1), some (.ref L), none, none] ∧ Same H H' ∧ H' L = some (.lst [V.bl (kit 0), V.bl (kit 1), V.bl (kit 2), V.bl (kit 3), V.bl (kit 4), V.bl (kit 5), V.bl (kit 6), V.bl (kit 7), V.bl (kit 8), V.bl (kit 9), V.bl (kit 10), V.bl (kit 11), V.bl (kit 12), V.bl (kit 13), V.bl (kit 14), V.bl (kit 15), V.bl (kit 16), V.bl (kit 17), V.bl (kit 18), V.bl (kit 19), V.bl (kit 20), V.bl (kit 21), V.bl (kit 22)]) ∧ H L = none := ⟨_, rfl⟩
    refine ⟨R, ?_, ?_⟩
    · walk_at "rd"
      refine isP_ref (e6 _ _ hd) (KT.own 19 (by decide)) (isP_ref (e6 _ _ hd) (KT.own 20 (by decide)) (isP_ref (e6 _ _ hd) (KT.own 21 (by decide)) (isP_ref (e6 _ _ hd) (KT.own 22 (by decide)) ?_)))
      refine ⟨by rw [sizeLine_eq]; decide, fun N hN => ?_⟩
      refine ⟨L6, N, _, _, rfl, rfl, (upd_ne (ne_old l6 hN)).trans l6, upd_same, by rw [sizeLine_eq]; simp, fun q hq => ?_⟩
      rw [hR]
      exact ⟨q, rfl, fun a o ha => same_new hq a o (same_new hN a o (e6 a o ha)), upd_same, same_none (fun a o ha => same_new hN a o (e6 a o ha)) hq⟩
    rw [hR]
    clear hR R
    rintro _ H7 ⟨L7, rfl, e7, l7, n7⟩
    obtain ⟨R, hR⟩ : ∃ R : St → Hp → Prop, R = fun σ' H' => ∃ L, σ' = [some (.ref p.1), some (.ref L), none, none] ∧ Same H H' ∧ H' L = some (.lst [V.bl (kit 0), V.bl (kit 1), V.bl (kit 2), V.bl (kit 3), V.bl (kit 4), V.bl (kit 5), V.bl (kit 6), V.bl (kit 7), V.bl (kit 8), V.bl (kit 9), V.bl (kit 10), V.bl (kit 11), V.bl (kit 12), V.bl (kit 13), V.bl (kit 14), V.bl (kit 15), V.bl (kit 16), V.bl (kit 17), V.bl (kit 18), V.bl (kit 19), V.bl (kit 20), V.bl (kit 21), V.bl (kit 22), V.bl (kit 23)]) := ⟨_, rfl⟩
    refine ⟨R, ?_, ?_⟩
    · walk_at "rd"
      refine ⟨.inl ⟨_, .inl (.inl l7)⟩, isP_ref (e7 _ _ hd) (KT.own 23 (by decide)) ?_⟩
      refine ⟨L7, _, _, rfl, rfl, l7, by rw [sizeLine_eq]; simp, ?_⟩
      rw [hR]
      exact ⟨L7, rfl, same_mut e7 n7, upd_same⟩
    rw [hR]
    clear hR R
    rintro _ H8 ⟨L8, rfl, e8, l8⟩
    obtain ⟨R, hR⟩ : ∃ R : St → Hp → Prop, R = fun σ' H' => ∃ L M, σ' = [some (.ref p.1), some (.ref L), some (.ref M), none] ∧ Same H H' ∧ H' L = some (.lst [V.bl (kit 0), V.bl (kit 1), V.bl (kit 2), V.bl (kit 3), V.bl (kit 4), V.bl (kit 5), V.bl (kit 6), V.bl (kit 7), V.bl (kit 8), V.bl (kit 9), V.bl (kit 10), V.bl (kit 11), V.bl (kit 12), V.bl (kit 13), V.bl (kit 14), V.bl (kit 15), V.bl (kit 16), V.bl (kit 17), V.bl (kit 18), V.bl (kit 19), V.bl (kit 20), V.bl (kit 21), V.bl (kit 22), V.bl (kit 23)]) ∧ H' M = some (.lst [V.bl (ab 0), V.bl (ab 1), V.bl (ab 2)]) := ⟨_, rfl⟩
    refine ⟨R, ?_, ?_⟩
    · walk_at "rd"
      refine isP_ref (e8 _ _ hd) (KT.top 0 (by decide)) (isP_ref (e8 _ _ hd) (KT.top 1 (by decide)) (isP_ref (e8 _ _ hd) (KT.top 2 (by decide)) ?_))
      refine ⟨by rw [sizeLine_eq]; decide, fun M hM => ?_⟩
      rw [hR]
      exact ⟨L8, M, rfl, fun a o ha => same_new hM a o (e8 a o ha), (upd_ne (ne_old l8 hM)).trans l8, upd_same⟩
    rw [hR]
    clear hR R
    rintro _ H9 ⟨L9, M9, rfl, e9, l9, m9⟩
    obtain ⟨R, hR⟩ : ∃ R : St → Hp → Prop, R = fun σ' H' => ∃ L M, σ' = [some (.ref p.1), some (.ref L), some (.ref M), none] ∧ Same H H' ∧ H' L = some (.lst [V.bl (kit 0), V.bl (kit 1), V.bl (kit 2), V.bl (kit 3), V.bl (kit 4), V.bl (kit 5), V.bl (kit 6), V.bl (kit 7), V.bl (kit 8), V.bl (kit 9), V.bl (kit 10), V.bl (kit 11), V.bl (kit 12), V.bl (kit 13), V.bl (kit 14), V.bl (kit 15), V.bl (kit 16), V.bl (kit 17), V.bl (kit 18), V.bl (kit 19), V.bl (kit 20), V.bl (kit 21), V.bl (kit 22), V.bl (kit 23)]) ∧ H' M = some (.lst [V.bl (ab 0), V.bl (ab 1), V.bl (ab 2), V.bl (ab 3), V.bl (ab 4), V.bl (ab 5)]) := ⟨_, rfl⟩
    refine ⟨R, ?_, ?_⟩
    · walk_at "rd"
      refine isP_ty (e9 _ _ hd) KT.ve (isP_ty (e9 _ _ hd) KT.le (isP_ty (e9 _ _ hd) KT.ae ?_))
      refine ⟨by rw [sizeLine_eq]; decide, fun N hN => ?_⟩
      refine ⟨M9, N, _, _, rfl, rfl, (upd_ne (ne_old m9 hN)).trans m9, upd_same, by rw [sizeLine_eq]; simp, fun q hq => ?_⟩
      rw [hR]
      have lq : L9 ≠ q := ne_old ((upd_ne (ne_old l9 hN)).trans l9) hq
      exact ⟨L9, q, rfl, fun a o ha => same_new hq a o (same_new hN a o (e9 a o ha)), (upd_ne lq).trans ((upd_ne (ne_old l9 hN)).trans l9), upd_same⟩
    rw [hR]
    clear hR R
    rintro _ H10 ⟨L, M, rfl, e, l, m⟩
    have kl : ∀ i, i < 24 → atI [V.bl (kit 0), V.bl (kit 1), V.bl (kit 2), V.bl (kit 3), V.bl (kit 4), V.bl (kit 5), V.bl (kit 6), V.bl (kit 7), V.bl (kit 8), V.bl (kit 9), V.bl (kit 10), V.bl (kit 11), V.bl (kit 12), V.bl (kit 13), V.bl (kit 14), V.bl (kit 15), V.bl (kit 16), V.bl (kit 17), V.bl (kit 18), V.bl (kit 19), V.bl (kit 20), V.bl (kit 21), V.bl (kit 22), V.bl (kit 23)] ((i : Nat) : Int) = some (.bl (kit i)) := fun i hi => atI_nat (by
      rw [show ([V.bl (kit 0), V.bl (kit 1), V.bl (kit 2), V.bl (kit 3), V.bl (kit 4), V.bl (kit 5), V.bl (kit 6), V.bl (kit 7), V.bl (kit 8), V.bl (kit 9), V.bl (kit 10), V.bl (kit 11), V.bl (kit 12), V.bl (kit 13), V.bl (kit 14), V.bl (kit 15), V.bl (kit 16), V.bl (kit 17), V.bl (kit 18), V.bl (kit 19), V.bl (kit 20), V.bl (kit 21), V.bl (kit 22), V.bl (kit 23)] : List V) = (List.range 24).map (fun i => V.bl (kit i)) from rfl, List.getElem?_map, List.getElem?_range hi]
      rfl)
    have al : ∀ i, i < 6 → atI [V.bl (ab 0), V.bl (ab 1), V.bl (ab 2), V.bl (ab 3), V.bl (ab 4), V.bl (ab 5)] ((i : Nat) : Int) = some (.bl (ab i)) := fun i hi => atI_nat (by
      rw [show ([V.bl (ab 0), V.bl (ab 1), V.bl (ab 2), V.bl (ab 3), V.bl (ab 4), V.bl (ab 5)] : List V) = (List.range 6).map (fun i => V.bl (ab i)) from rfl, List.getElem?_map, List.getElem?_range hi]
      rfl)
    simp only [tOp, tRet, List.map_cons, List.map_nil]
    refine lc_rng_if 24 kit (fun i => V.int i) ⟨rfl, rfl⟩ (by decide) (fun i N acc R hi hN r => ?_) (fun i N acc R hi hN hb r => ?_) (fun N hN => ?_)
    · walk_at "rd"
      simp only [upd_ne (ne_old l hN), l, kl i hi]
      exact ⟨_, rfl, r⟩
    · walk_at "rd"
      exact r
    have mN := (upd_ne (o := .lst (((List.range 24).filter kit).map fun i : Nat => V.int i)) (ne_old m hN)).trans m
    refine lc_rng_if 6 ab (fun i => V.int (30 + i)) ⟨rfl, rfl⟩ (by decide) (fun i O acc R hi hO r => ?_) (fun i O acc R hi hO hb r => ?_) (fun O hO => ?_)
    · walk_at "rd"
      simp only [upd_ne (ne_old mN hO), mN, al i hi]
      exact ⟨_, rfl, r⟩
    · walk_at "rd"
      exact r
    have nO : N ≠ O := ne_old upd_same hO
    refine ⟨N, O, _, _, rfl, rfl, (upd_ne nO).trans upd_same, upd_same, ?_, fun q hq => fin q _ (fun a o ha => same_new hq a o (same_new hO a o (same_new hN a o (e a o ha)))) upd_same⟩
    have l1 := List.length_filter_le kit (List.range 24)
    have l2 := List.length_filter_le ab (List.range 6)
    simp only [List.length_map, List.length_range, sizeLine_eq] at l1 l2 ⊢
    omega
end
theorem sc_l_caught : FnScope ["_law_act", "_law_e", "_law_found"] ["_law_act"] (defScope s_l_caught) := ⟨rfl, rfl, rfl, by decide +kernel, rfl, by decide +kernel, by decide +kernel⟩
section
variable {X : Cx}
theorem caught_gives {g f : Addr} {fd : FuncData} {cdv : Value} {q : Str} {rR : List V → Hp → VK → Prop} (T : TCl X.K X.mg) (B : Bn X.mg)
    (FC : FnE X.prog X.w X.K X.mg X.base 1 f fd ["_law_e"] (spClasses T)) (mC : X.mg "_law_classes" = some (.ref f)) (kC : PySem.W.keepIn X.K (.ref f) = true) (bC : Binds X.K fd ["_law_e"] [])
    (mR : ∀ xs H (Q Q' : VK), (∀ v H', Same H H' → Q v H' → Q' v H') → rR xs H Q → rR xs H Q') (qt : Quiet X.A) (hrp : ∀ Y : Cx, Y.prog = X.prog → Y.w = X.w → Y.K = X.K → RoomH 1 Y.A → Quiet Y.A → CallR Y (.builtin "repr") rR) :
    GivesN X ["_law_act", "_law_e", "_law_found"] "_law_caught" (defScope s_l_caught) g cdv (defBody s_l_caught) "_law_act" q (TCaught T rR) := by
  intro f1 c' s H Q tl hr act hc h
  refine ⟨_, pss_one (ps_try_as3 (X := (getCx X ["_law_act", "_law_e", "_law_found"] "_law_caught" (defScope s_l_caught) g cdv s H).nox) (i := 1) rfl rfl sc_l_caught.nd rfl rfl rfl T.g_WrongValue rfl T.g_WrongName rfl T.g_NoAnswer
    (tb := fun W D σ H => ∃ Ec : XK, σ[0]? = some (some (.ref f1)) ∧ H c' = some (LamX.CodeO c' q) ∧ (∀ cls d H', Ec cls d H' → W cls d σ H') ∧ tl Ec H fun v H' => [V.str "given", v].length ≤ sizeLine ∧ ∀ L, H' L = none → D.rt (.ref L) (upd H' L (.lst [.str "given", v])))
    (fun W pn xe tk => ?_) (fun a oe cls d pn hz hf => (pss_cons (ps_set (i := 2) sc_l_caught.nd rfl (Or.inl rfl) (pe_cls (Y := (((getCx X ["_law_act", "_law_e", "_law_found"] "_law_caught" (defScope s_l_caught) g cdv s H).nox).suite a ((a, oe) :: pn))) (T := T) (x := "_law_classes") rfl rfl FC (hot_suite hz hf) List.mem_cons_self hz.zc hf (roomH_mark hr _) (Nat.le_refl _) rfl mC kC bC (pa_cons (pv 1) pa_nil) mono1))
      (pss_cons (ps_cut (ps_if (PW.pt (pw_or (pt_cmpR op_lt (pe_ix ix_c (pv 2) pe_int (fun _ _ => rfl)) pe_int (nomark _)) (pw_or1 (pt_cmpR (show OpR (((getCx X ["_law_act", "_law_e", "_law_found"] "_law_caught" (defScope s_l_caught) g cdv s H).nox).suite a ((a, oe) :: pn)) (compareOp .In) (rIn X.K false) from op_in_seq) (pe_ix ix_c (pv 2) pe_int (fun _ _ => rfl)) (pe_lst (pa_cons pe_int (pa_cons pe_int pa_nil))) (by rfl))))) (pss_one (ps_ret (pe_op op_cat (pv 2) (pe_lst (pa_cons (pe_callB (hrp _ rfl rfl rfl (roomH_mark hr _) qt) rfl B.repr boot_repr (pa_cons (pe_xfA hz.zc hf (pv 1)) pa_nil)) pa_nil))))) pss_nil))
      (pss_cons (ps_if (pt_cmpR op_eq (pe_ix ix_c (pv 2) pe_int (fun _ _ => rfl)) pe_int (nomark _)) (pss_one (ps_ret (pe_op op_cat (pv 2) (pe_lst (pa_cons (pe_callB (hrp _ rfl rfl rfl (roomH_mark hr _) qt) rfl B.repr boot_repr (pa_cons (pe_xfA hz.zc hf (pv 1)) pa_nil)) pa_nil))))) pss_nil)
      (pss_one (ps_ret (pe_ifExp (pt_cmpR op_lt (pe_ix ix_c (pv 2) pe_int (fun _ _ => rfl)) pe_int (nomark _)) (pe_op op_cat (pv 2) (pe_lst (pa_cons (pe_callB (hrp _ rfl rfl rfl (roomH_mark hr _) qt) rfl B.repr boot_repr (pa_cons (pe_xfA hz.zc hf (pv 1)) pa_nil)) pa_nil))) (pv 2))))))))), ?_⟩
  · refine ⟨fun pins s' σ H' D I h' => ?_⟩
    obtain ⟨Ec, h1, h2, hW, h3⟩ := h'
    have ACT := act W pn xe Ec
    exact (pss_one (ps_ret (pe_lst (pa_cons pe_str (pa_cons (ACT _ _ tk) pa_nil))))).run pins s' σ H' D I ⟨h1, h2, hW, h3⟩
  · refine ⟨_, rfl, hc, ?_, h⟩
    rintro cls d H' ⟨D, dd, i, ab, y, rfl, rfl, hd, er, go⟩
    refine ⟨er.ex, fun a na => ?_⟩
    walk_at "rd"
    refine ⟨D, dd, _, _, ab, rfl, rfl, rfl, er.ec, hd, er.kt, fun L H2 e2 l2 => ?_⟩
    have cod : codesOf (fun j => j == i) ab = V.int i :: ((List.range 6).filter ab).map (fun i : Nat => V.int (30 + i)) := by
      have z : ∀ i, i < 23 → ((List.range 24).filter fun j => j == i) = [i] := by decide
      unfold codesOf
      rw [z i er.lt]
      rfl
    rw [cod] at l2
    walk_at "rd"
    have ll : (((List.range 6).filter ab).map (fun i : Nat => V.int (30 + i))).length ≤ 6 := by
      rw [List.length_map]
      exact List.length_filter_le _ _
    have say : ∀ (H3 : Hp) (fl : Str), fl = fldOf i → Same H2 H3 → tOp rCat (tVar 2) (tLst (tCons (tCB rR (tCons (tXfA X.K a (Value.ref D) (some dd) fl (tVar 1)) tNil)) tNil)) [some (V.ref f1), some (V.ref a), some (V.ref L)] H3 Q := by
      intro H3 fl ef e3
      subst ef
      have e13 : Same H' H3 := fun b o hb => e3 b o (e2 b o hb)
      refine ⟨.ref L, rfl, .ref a, rfl, rfl, D, dd, _, y, rfl, er.xf, er.no, rfl, e13 _ _ hd, ?_, mR _ _ _ _ (fun v H4 e4 k => ?_) (go H3 e13)⟩
      · simp [List.lookup]
      refine ⟨by rw [sizeLine_eq]; simp, fun N hN => ?_⟩
      have l4 := e4 _ _ (e3 _ _ l2)
      refine ⟨L, N, _, _, rfl, rfl, (upd_ne (ne_old l4 hN)).trans l4, upd_same, ?_, fun q hq => k q _ (same_none (same_new hN) hq) (fun b o hb => same_new hq b o (same_new hN b o hb)) upd_same⟩
      simp only [List.length_cons, List.length_nil, sizeLine_eq] at ll ⊢
      omega
    obtain ⟨GG, hG⟩ : ∃ G : TE, G = tOp rCat (tVar 2) (tLst (tCons (tCB rR (tCons (tXfA X.K a (Value.ref D) (some dd) (Str.ofString "given") (tVar 1)) tNil)) tNil)) := ⟨_, rfl⟩
    obtain ⟨GM, hM⟩ : ∃ G : TE, G = tOp rCat (tVar 2) (tLst (tCons (tCB rR (tCons (tXfA X.K a (Value.ref D) (some dd) (Str.ofString "most") (tVar 1)) tNil)) tNil)) := ⟨_, rfl⟩
    obtain ⟨GI, hI⟩ : ∃ G : TE, G = tOp rCat (tVar 2) (tLst (tCons (tCB rR (tCons (tXfA X.K a (Value.ref D) (some dd) (Str.ofString "index") (tVar 1)) tNil)) tNil)) := ⟨_, rfl⟩
    rw [← hG, ← hM, ← hI]
    have sG : (i < 13 ∨ i = 18 ∨ i = 21) → ∀ H3, Same H2 H3 → GG [some (V.ref f1), some (V.ref a), some (V.ref L)] H3 Q := fun z H3 e3 => by
      rw [hG]
      exact say H3 _ (by unfold fldOf; rw [if_pos z]) e3
    have sM : ¬ (i < 13 ∨ i = 18 ∨ i = 21) → i = 20 → ∀ H3, Same H2 H3 → GM [some (V.ref f1), some (V.ref a), some (V.ref L)] H3 Q := fun z z2 H3 e3 => by
      rw [hM]
      exact say H3 _ (by unfold fldOf; rw [if_neg z, if_pos z2]) e3
    have sI : ¬ (i < 13 ∨ i = 18 ∨ i = 21) → i ≠ 20 → ∀ H3, Same H2 H3 → GI [some (V.ref f1), some (V.ref a), some (V.ref L)] H3 Q := fun z z2 H3 e3 => by
      rw [hI]
      exact say H3 _ (by unfold fldOf; rw [if_neg z, if_neg z2]) e3
    clear say hG hM hI
    obtain ⟨R, hR⟩ : ∃ R : St → Hp → Prop, R = fun σ' H3 => σ' = [some (V.ref f1), some (V.ref a), some (V.ref L)] ∧ Same H2 H3 ∧ ¬ (i < 13 ∨ i = 18 ∨ i = 21) := ⟨_, rfl⟩
    refine ⟨R, ?_, ?_⟩
    · walk_at "rd"
      simp only [l2, atI0]
      refine ⟨_, rfl, ?_⟩
      split
      · rename_i z
        exact sG (.inl (by omega)) H2 (Same.refl _)
      rename_i z
      refine ⟨by rw [sizeLine_eq]; decide, fun N hN => ⟨N, _, rfl, .inl (.inl (.inl upd_same)), rfl, rfl, _, rfl, ?_⟩⟩
      have iv : (if false = true then !inV (V.int i) [V.int 18, V.int 21] else inV (V.int i) [V.int 18, V.int 21]) = decide (i = 18 ∨ i = 21) := by
        rw [if_neg (by simp)]
        have lt := er.lt
        have z : ∀ i : Nat, i < 23 → inV (V.int i) [V.int 18, V.int 21] = decide (i = 18 ∨ i = 21) := by decide
        exact z i lt
      rw [iv]
      by_cases hi : i = 18 ∨ i = 21
      · rw [if_pos (decide_eq_true hi)]
        exact sG (.inr hi) _ (same_new hN)
      · rw [if_neg (by simp only [decide_eq_true_eq]; exact hi), hR]
        exact ⟨rfl, same_new hN, fun y => y.elim (fun y => z (by omega)) hi⟩
    · rw [hR]
      rintro _ H3 ⟨rfl, e3, ni⟩
      have l3 := e3 _ _ l2
      walk_at "rd"
      simp only [l3, atI0]
      refine ⟨rfl, ?_⟩
      split
      · rename_i z
        exact sM ni (by cases z; rfl) H3 e3
      · rename_i z
        refine ⟨_, rfl, ?_⟩
        have lt := er.lt
        rw [if_pos (by omega)]
        exact sI ni (fun y => z (by rw [y]; rfl)) H3 e3
end
end L2.G
set_option Elab.async false
set_option linter.all false
set_option maxRecDepth 100000
set_option maxHeartbeats 4000000
namespace L2.G
open PySem PySem.Spec PyProof.Rows L2H
theorem sc_InvalidDead_init : FnScope ["self", "index"] ["self", "index"] (defScope s_InvalidDead_init) := ⟨rfl, rfl, rfl, by decide +kernel, rfl, by decide +kernel, by decide +kernel⟩
theorem sc_InvalidGroups_init : FnScope ["self", "index"] ["self", "index"] (defScope s_InvalidGroups_init) := ⟨rfl, rfl, rfl, by decide +kernel, rfl, by decide +kernel, by decide +kernel⟩
theorem sc_InvalidLength_init : FnScope ["self", "given"] ["self", "given"] (defScope s_InvalidLength_init) := ⟨rfl, rfl, rfl, by decide +kernel, rfl, by decide +kernel, by decide +kernel⟩
theorem sc_InvalidPaces_init : FnScope ["self", "index"] ["self", "index"] (defScope s_InvalidPaces_init) := ⟨rfl, rfl, rfl, by decide +kernel, rfl, by decide +kernel, by decide +kernel⟩
theorem sc_InvalidPlace_init : FnScope ["self", "given"] ["self", "given"] (defScope s_InvalidPlace_init) := ⟨rfl, rfl, rfl, by decide +kernel, rfl, by decide +kernel, by decide +kernel⟩
theorem sc_InvalidTime_init : FnScope ["self", "given"] ["self", "given"] (defScope s_InvalidTime_init) := ⟨rfl, rfl, rfl, by decide +kernel, rfl, by decide +kernel, by decide +kernel⟩
theorem sc_InvalidWidth_init : FnScope ["self", "given"] ["self", "given"] (defScope s_InvalidWidth_init) := ⟨rfl, rfl, rfl, by decide +kernel, rfl, by decide +kernel, by decide +kernel⟩
theorem sc_InvalidWindow_init : FnScope ["self", "given"] ["self", "given"] (defScope s_InvalidWindow_init) := ⟨rfl, rfl, rfl, by decide +kernel, rfl, by decide +kernel, by decide +kernel⟩
theorem sc_NotARecord_init : FnScope ["self", "given"] ["self", "given"] (defScope s_NotARecord_init) := ⟨rfl, rfl, rfl, by decide +kernel, rfl, by decide +kernel, by decide +kernel⟩
section
variable {P : Program} {w : World} {K : PySem.W.Frag} {mg : Str → Option Value} {base : Heap}
theorem ok_InvalidDead_err {f : Addr} {fd : FuncData} (F : Fun K "__init__" "InvalidDead.__init__" s_InvalidDead_init f fd) : FnOk P w K mg base CX0 1 f fd ["self", "index"] (spKeep K "index") := by
  refine F.ok sc_InvalidDead_init (fun vs H Q E h => ?_) (fun cdv A outer s H vs Q E hr h => ?_)
  · obtain ⟨a, C, y, rfl, _⟩ := h
    rfl
  · obtain ⟨a, C, y, rfl, ox, no, ha, k⟩ := h
    refine ⟨_, pss_one (ps_ostA (pv 0) (pv 1)), ?_⟩
    exact ⟨y, rfl, .ref a, rfl, a, C, rfl, ox, no, ha, k⟩
theorem ok_InvalidGroups_err {f : Addr} {fd : FuncData} (F : Fun K "__init__" "InvalidGroups.__init__" s_InvalidGroups_init f fd) : FnOk P w K mg base CX0 1 f fd ["self", "index"] (spKeep K "index") := by
  refine F.ok sc_InvalidGroups_init (fun vs H Q E h => ?_) (fun cdv A outer s H vs Q E hr h => ?_)
  · obtain ⟨a, C, y, rfl, _⟩ := h
    rfl
  · obtain ⟨a, C, y, rfl, ox, no, ha, k⟩ := h
    refine ⟨_, pss_one (ps_ostA (pv 0) (pv 1)), ?_⟩
    exact ⟨y, rfl, .ref a, rfl, a, C, rfl, ox, no, ha, k⟩
theorem ok_InvalidLength_err {f : Addr} {fd : FuncData} (F : Fun K "__init__" "InvalidLength.__init__" s_InvalidLength_init f fd) : FnOk P w K mg base CX0 1 f fd ["self", "given"] (spKeep K "given") := by
  refine F.ok sc_InvalidLength_init (fun vs H Q E h => ?_) (fun cdv A outer s H vs Q E hr h => ?_)
  · obtain ⟨a, C, y, rfl, _⟩ := h
    rfl
  · obtain ⟨a, C, y, rfl, ox, no, ha, k⟩ := h
    refine ⟨_, pss_one (ps_ostA (pv 0) (pv 1)), ?_⟩
    exact ⟨y, rfl, .ref a, rfl, a, C, rfl, ox, no, ha, k⟩
theorem ok_InvalidPaces_err {f : Addr} {fd : FuncData} (F : Fun K "__init__" "InvalidPaces.__init__" s_InvalidPaces_init f fd) : FnOk P w K mg base CX0 1 f fd ["self", "index"] (spKeep K "index") := by
  refine F.ok sc_InvalidPaces_init (fun vs H Q E h => ?_) (fun cdv A outer s H vs Q E hr h => ?_)
  · obtain ⟨a, C, y, rfl, _⟩ := h
    rfl
  · obtain ⟨a, C, y, rfl, ox, no, ha, k⟩ := h
    refine ⟨_, pss_one (ps_ostA (pv 0) (pv 1)), ?_⟩
    exact ⟨y, rfl, .ref a, rfl, a, C, rfl, ox, no, ha, k⟩
theorem ok_InvalidPlace_err {f : Addr} {fd : FuncData} (F : Fun K "__init__" "InvalidPlace.__init__" s_InvalidPlace_init f fd) : FnOk P w K mg base CX0 1 f fd ["self", "given"] (spKeep K "given") := by
  refine F.ok sc_InvalidPlace_init (fun vs H Q E h => ?_) (fun cdv A outer s H vs Q E hr h => ?_)
  · obtain ⟨a, C, y, rfl, _⟩ := h
    rfl
  · obtain ⟨a, C, y, rfl, ox, no, ha, k⟩ := h
    refine ⟨_, pss_one (ps_ostA (pv 0) (pv 1)), ?_⟩
    exact ⟨y, rfl, .ref a, rfl, a, C, rfl, ox, no, ha, k⟩
theorem ok_InvalidTime_err {f : Addr} {fd : FuncData} (F : Fun K "__init__" "InvalidTime.__init__" s_InvalidTime_init f fd) : FnOk P w K mg base CX0 1 f fd ["self", "given"] (spKeep K "given") := by
  refine F.ok sc_InvalidTime_init (fun vs H Q E h => ?_) (fun cdv A outer s H vs Q E hr h => ?_)
  · obtain ⟨a, C, y, rfl, _⟩ := h
    rfl
  · obtain ⟨a, C, y, rfl, ox, no, ha, k⟩ := h
    refine ⟨_, pss_one (ps_ostA (pv 0) (pv 1)), ?_⟩
    exact ⟨y, rfl, .ref a, rfl, a, C, rfl, ox, no, ha, k⟩
theorem ok_InvalidWidth_err {f : Addr} {fd : FuncData} (F : Fun K "__init__" "InvalidWidth.__init__" s_InvalidWidth_init f fd) : FnOk P w K mg base CX0 1 f fd ["self", "given"] (spKeep K "given") := by
  refine F.ok sc_InvalidWidth_init (fun vs H Q E h => ?_) (fun cdv A outer s H vs Q E hr h => ?_)
  · obtain ⟨a, C, y, rfl, _⟩ := h
    rfl
  · obtain ⟨a, C, y, rfl, ox, no, ha, k⟩ := h
    refine ⟨_, pss_one (ps_ostA (pv 0) (pv 1)), ?_⟩
    exact ⟨y, rfl, .ref a, rfl, a, C, rfl, ox, no, ha, k⟩
theorem ok_InvalidWindow_err {f : Addr} {fd : FuncData} (F : Fun K "__init__" "InvalidWindow.__init__" s_InvalidWindow_init f fd) : FnOk P w K mg base CX0 1 f fd ["self", "given"] (spKeep K "given") := by
  refine F.ok sc_InvalidWindow_init (fun vs H Q E h => ?_) (fun cdv A outer s H vs Q E hr h => ?_)
  · obtain ⟨a, C, y, rfl, _⟩ := h
    rfl
  · obtain ⟨a, C, y, rfl, ox, no, ha, k⟩ := h
    refine ⟨_, pss_one (ps_ostA (pv 0) (pv 1)), ?_⟩
    exact ⟨y, rfl, .ref a, rfl, a, C, rfl, ox, no, ha, k⟩
theorem ok_NotARecord_err {f : Addr} {fd : FuncData} (F : Fun K "__init__" "NotARecord.__init__" s_NotARecord_init f fd) : FnOk P w K mg base CX0 1 f fd ["self", "given"] (spKeep K "given") := by
  refine F.ok sc_NotARecord_init (fun vs H Q E h => ?_) (fun cdv A outer s H vs Q E hr h => ?_)
  · obtain ⟨a, C, y, rfl, _⟩ := h
    rfl
  · obtain ⟨a, C, y, rfl, ox, no, ha, k⟩ := h
    refine ⟨_, pss_one (ps_ostA (pv 0) (pv 1)), ?_⟩
    exact ⟨y, rfl, .ref a, rfl, a, C, rfl, ox, no, ha, k⟩
theorem cau_all (Tc : TCl K mg) (B : Bn mg) {f : Addr} {fd : FuncData} (FC : FnE P w K mg base 1 f fd ["_law_e"] (spClasses Tc)) (mC : mg "_law_classes" = some (.ref f)) (kC : PySem.W.keepIn K (.ref f) = true) (bC : Binds K fd ["_law_e"] []) {g : Addr} {cdv : Value} {q : Str} (Y : Cx) (e1 : Y.prog = P) (e2 : Y.w = w) (e3 : Y.K = K) (e4 : Y.mg = mg) (e5 : Y.base = base) (qt : Quiet Y.A) :
    GivesN Y ["_law_act", "_law_e", "_law_found"] "_law_caught" (defScope s_l_caught) g cdv (defBody s_l_caught) "_law_act" q (TCaught Tc (rRp K)) := by
  subst e1 e2 e3 e4 e5
  exact caught_gives Tc B FC mC kC bC rRp_mono qt (fun Z h1 h2 h3 hr q => by rw [← h3]; exact cr_rp q hr)
end
end L2.G
set_option Elab.async false
set_option linter.all false
set_option maxRecDepth 100000
set_option maxHeartbeats 4000000
namespace L2.G
open PySem PySem.Spec PyProof.Rows L2H
local macro_rules | `(tactic| walk_at "rd") => `(tactic| first | simp only [cxOf, tSeq, tMethK, tMeth, tMake, tMakeK, tProp, rLenI, rTxtI, rTruI, rEqI, tJs, tFmt, wipe, tBM, tBM0, tyV, cJoin, rIxS, sFld, tAsg, tOp, tUn, tCB, tCons, tNil, tVar, tC, rI, rI0, rU, cIx, cSet, cLen, cInt, cDivmod, cTup, cIsiB, cIsiC, cFld, tyN, isB_NoneType_int, isB_NoneType_str, isB_NoneType_bool, isB_NoneType_tuple, isB_bool_int, isB_bool_str, isB_bool_bool, isB_bool_tuple, isB_int_int, isB_int_str, isB_int_bool, isB_int_tuple, isB_str_int, isB_str_str, isB_str_bool, isB_str_tuple, isB_list_int, isB_list_str, isB_list_bool, isB_list_tuple, isB_tuple_int, isB_tuple_str, isB_tuple_bool, isB_tuple_tuple, isB_dict_int, isB_dict_str, isB_dict_bool, isB_dict_tuple, gSub, start, tIfS, tTest, tB, tNot, tAnd, tOr, tAndV, tOrV, tNotV, tChain, tIf, tSl, tPart, tNoPart, rSlL, rSlS, tLst, tTup, tYes, tRet, tNext, tDrop, gCons, gNil, gName, tCall, tPar, rEq, rNe, scal_ss, scal_ii, scal_bb, scal_nn, tNever,
  List.map_cons, List.map_nil, List.length_cons, List.length_nil, List.replicate, List.cons_append, List.nil_append, List.append_nil, List.getElem?_cons_zero, List.getElem?_cons_succ, List.set_cons_zero, List.set_cons_succ, List.getElem?_nil, Nat.reduceAdd, Nat.reduceSub, List.replicate_succ, List.replicate_zero,
  Option.some.injEq, V.int.injEq, V.ref.injEq, V.str.injEq, V.bl.injEq, V.ty.injEq, List.cons.injEq, and_true, true_and, and_assoc, exists_false, false_and, or_false, false_or, and_false, exists_eq_left', exists_and_left, exists_eq_left, upd_same, atI0, atI1, ixN20, ixN21, decide_eq_true_eq, if_true, if_false, reduceIte, Bool.false_eq_true, Bool.not_true, Bool.not_false, Bool.not_eq_true', decide_eq_false_iff_not,  reduceCtorEq, eq_self, decide_true, decide_false, not_true_eq_false, not_false_eq_true, id_eq] | skip)
theorem sc_l_sip : FnScope ["_law_cup_here", "_law_many", "_law_part"] ["_law_cup_here", "_law_many"] (defScope s_l_sip) := ⟨rfl, rfl, rfl, by decide +kernel, rfl, by decide +kernel, by decide +kernel⟩
theorem sc_l_cup : FnScope ["_law_script", "_law_spot", "_law_cell", "_law_part"] ["_law_script", "_law_spot"] (defScope s_l_cup) := ⟨rfl, rfl, rfl, by decide +kernel, rfl, by decide +kernel, by decide +kernel⟩
section
variable {P : Program} {w : World} {K : PySem.W.Frag} {mg : Str → Option Value} {base : Heap}
theorem ok_sip {f : Addr} {fd : FuncData} (F : Fun K "_law_sip" "_law_sip" s_l_sip f fd) (B : Bn mg) : FnOk P w K mg base CX0 1 f fd ["_law_cup_here", "_law_many"] spSipX := by
  refine F.ok sc_l_sip (fun vs H Q E h => ?_) (fun cdv A outer s H vs Q E hr h => ?_)
  · obtain ⟨p, n, a, b, rfl, _⟩ := h
    rfl
  · obtain ⟨p, n, a, b, rfl, hp, a0, a1, b0, n0, n1, k⟩ := h
    refine ⟨_, (pss_cons (ps_asg (pe_op op_mod (pe_callTy int_c rfl B.int boot_int (pa_cons (pe_op op_add (pe_op op_mul (pe_ix ix_c (pv 0) pe_int (fun _ _ => rfl)) pe_int) pe_int) pa_nil)) pe_int) (pg_sub (pv 0) pe_int set_c))
      (pss_cons (ps_if (pt_cmpR op_gt (pe_ix ix_c (pv 0) pe_int (fun _ _ => rfl)) pe_int (nomark _)) (pss_cons (ps_asg (pe_callB divmod_c rfl B.divmod boot_divmod (pa_cons (pe_ix ix_c (pv 0) pe_int (fun _ _ => rfl)) (pa_cons (pv 1) pa_nil))) (pg_tupC 2 rfl (pgs_cons (pg_sub (pv 0) pe_int set_c) (pgs_cons (pg_name (i := 2) sc_l_sip.nd rfl (Or.inl rfl)) pgs_nil))))
      (pss_one (ps_ret (pv 2)))) pss_nil)
      (pss_one (ps_ret (pe_op op_mod (pe_callTy int_c rfl B.int boot_int (pa_cons (pe_op op_fdiv (pe_ix ix_c (pv 0) pe_int (fun _ _ => rfl)) pe_int) pa_nil)) (pv 1)))))), ?_⟩
    walk_at "rd"
    simp only [hp]
    walk_at "rd"
    have m1 : CMul a 48271 := .inr ⟨by decide, by decide⟩
    refine ⟨m1, by decide, ?_⟩
    split
    · rename_i hb
      refine ⟨⟨n0, n1⟩, fun q hq => ?_⟩
      have npq : p ≠ q := fun e => by subst e; rw [upd_same] at hq; cases hq
      walk_at "rd"
      simp only [upd_ne npq]
      walk_at "rd"
      have es : sipF a b n = (b % n, ((a * 48271 + 11) % 2147483629, b / n)) := by unfold sipF; rw [if_pos hb]
      rw [es] at k
      refine k _ upd_same fun c o hc e => ?_
      rw [upd_ne hc, upd_ne, upd_ne hc]
      · exact e
      · intro z
        subst z
        rw [upd_ne hc, e] at hq
        cases hq
    · rename_i hb
      refine ⟨⟨by decide, by decide⟩, n0, ?_⟩
      have es : sipF a b n = (((a * 48271 + 11) % 2147483629 / 1021) % n, ((a * 48271 + 11) % 2147483629, b)) := by unfold sipF; rw [if_neg hb]
      rw [es] at k
      refine k _ upd_same fun c o hc e => ?_
      rw [upd_ne hc]
      exact e
theorem all_int_cut {ns : List Int} {lo hi : Option Int} {i : Nat} {x : V} (h : (cutV (ns.map V.int) lo hi)[i]? = some x) : ∃ n : Int, x = .int n := by
  have hm : x ∈ cutV (ns.map V.int) lo hi := List.mem_of_getElem? h
  unfold cutV at hm
  obtain ⟨n, _, e⟩ := List.mem_map.mp (List.mem_of_mem_drop (List.mem_of_mem_take hm))
  exact ⟨n, e.symm⟩
theorem ok_cup {f : Addr} {fd : FuncData} (F : Fun K "_law_cup" "_law_cup" s_l_cup f fd) (B : Bn mg) : FnOk P w K mg base CX0 1 f fd ["_law_script", "_law_spot"] (spCupX K) := by
  refine F.ok sc_l_cup (fun vs H Q E h => ?_) (fun cdv A outer s H vs Q E hr h => ?_)
  · obtain ⟨a, ns, j, rfl, _⟩ := h
    rfl
  · obtain ⟨a, ns, j, rfl, hS, l0, j0, k⟩ := h
    have hlen : LenV K (.ref a) H ns.length := .inl ⟨_, hS, by simp⟩
    refine ⟨_, (pss_cons (ps_cut (ps_set (i := 2) sc_l_cup.nd rfl (Or.inl rfl) (pe_ifExp (pt_cmpR op_lt (pv 1) (pe_callB call_len rfl B.len boot_len (pa_cons (pv 0) pa_nil)) (nomark _)) (pe_ix ix_list (pv 0) (pv 1) (fun _ _ => rfl)) (pe_op op_add (pe_op op_mul pe_int (pv 1)) pe_int))))
      (pss_cons (ps_for PassesOwn.never rfl (pi_list (pe_cut (pe_ifExp (pt_cmpR op_ge (pv 1) (pe_callB call_len rfl B.len boot_len (pa_cons (pv 0) pa_nil)) (nomark _)) (pe_slice sl_list (pv 0) po_none (po_some pe_int)) (pe_lst pa_nil)))) (pg_name (i := 3) sc_l_cup.nd rfl (Or.inl rfl)) (pss_one (ps_set (i := 2) sc_l_cup.nd rfl (Or.inl rfl) (pe_op op_mod (pe_callTy int_c rfl B.int boot_int (pa_cons (pe_op op_add (pe_op op_mul (pv 2) pe_int) (pv 3)) pa_nil)) pe_int))))
      (pss_one (ps_ret (pe_lst (pa_cons (pe_op op_mod (pe_callTy int_c rfl B.int boot_int (pa_cons (pe_op op_add (pe_op op_add (pe_op op_mul (pv 2) pe_int) (pe_op op_mul pe_int (pv 1))) pe_int) pa_nil)) pe_int) (pa_cons (pe_ifExp (PW.pt (pw_or (pt_cmpR op_lt (pv 2) pe_int (nomark _)) (pw_or1 (pt_cmpR op_ge (pv 2) (pe_op op_pow pe_int pe_int) (nomark _))))) (pe_callB call_abs rfl B.abs boot_abs (pa_cons (pv 2) pa_nil)) pe_int) pa_nil))))))), ?_⟩
    obtain ⟨R0, hR0⟩ : ∃ R : St → Hp → Prop, R = fun σ H' => H' = H ∧ ∃ c : Int, σ = [some (.ref a), some (.int j), some (.int c), none] := ⟨_, rfl⟩
    walk_at "rd"
    refine ⟨R0, ?_, ?_⟩
    · walk_at "rd"
      refine ⟨ns.length, hlen, ?_⟩
      split
      · rename_i hj
        have hj' : j < ns.length := by omega
        refine ⟨_, _, _, .int (ns[j]), rfl, rfl, hS, atI_nat (by simp [hj']), ?_⟩
        rw [hR0]
        exact ⟨rfl, _, rfl⟩
      · refine ⟨.inl ⟨by decide, by decide⟩, ?_⟩
        rw [hR0]
        exact ⟨rfl, _, rfl⟩
    · rw [hR0]
      rintro _ H0 ⟨rfl, c, rfl⟩
      obtain ⟨R1, hR1⟩ : ∃ R : VK, R = fun v H1 => ∃ (q : Addr) (xs : List V), v = .ref q ∧ Same H0 H1 ∧ H1 q = some (.lst xs) ∧ ∀ (i : Nat) x, xs[i]? = some x → ∃ n : Int, x = .int n := ⟨_, rfl⟩
      refine for_lstC R1 ?_ ?_
      · walk_at "rd"
        refine ⟨ns.length, hlen, ?_⟩
        split
        · refine ⟨_, hS, fun p hp => ?_⟩
          rw [hR1]
          exact ⟨p, _, rfl, Evl.Ex.new hp, upd_same, fun i x e => all_int_cut e⟩
        · refine ⟨by decide, fun p hp => ?_⟩
          rw [hR1]
          exact ⟨p, _, rfl, Evl.Ex.new hp, upd_same, fun i x e => by simp at e⟩
      · rw [hR1]
        rintro _ H1 ⟨q, xs, rfl, s1, hq, hx⟩
        obtain ⟨Pv, hPv⟩ : ∃ Pv : Nat → St → Hp → Prop, Pv = fun i σ H2 => H2 = H1 ∧ ∃ (c' : Int) (v : Option V), σ = [some (.ref a), some (.int j), some (.int c'), v] := ⟨_, rfl⟩
        refine ⟨q, xs, Pv, rfl, by rw [hPv]; exact ⟨rfl, c, none, rfl⟩, ?_, ?_, ?_⟩
        · rw [hPv]
          rintro i _ _ _ ⟨rfl, _⟩
          exact .inl (.inl hq)
        · intro i x σ2 H2 hi hp
          rw [hPv] at hp
          obtain ⟨rfl, c', v, rfl⟩ := hp
          obtain ⟨n, rfl⟩ := hx i x hi
          walk_at "rd"
          refine ⟨.inr ⟨by decide, by decide⟩, by decide, ?_⟩
          rw [hPv]
          exact ⟨rfl, _, _, rfl⟩
        · intro σ2 H2 hp
          rw [hPv] at hp
          obtain ⟨rfl, c', v, rfl⟩ := hp
          walk_at "rd"
          have fin : ∀ (b : Int) (p : Addr), 0 ≤ b → H2 p = none → Q (.ref p) (upd H2 p (.lst [.int ((c' * 4099 + 271 * ↑j + 17) % 2147483629), .int b])) := fun b p hb hp =>
            k p _ b _ (s1.free hp) (s1.trans (Evl.Ex.new hp)) upd_same (Int.emod_nonneg _ (by decide)) (Int.emod_lt_of_pos _ (by decide)) hb
          refine ⟨.inr ⟨by decide, by decide⟩, .inl ⟨by decide, by decide⟩, by decide, ?_⟩
          split
          · exact ⟨by decide, fun p hp => fin _ p (by omega) hp⟩
          · refine ⟨⟨by decide, by decide, by decide⟩, ?_⟩
            split
            · exact ⟨by decide, fun p hp => fin _ p (by omega) hp⟩
            · exact ⟨by decide, fun p hp => fin _ p (by omega) hp⟩
end
end L2.G
set_option Elab.async false
set_option linter.all false
set_option maxRecDepth 100000
set_option maxHeartbeats 2000000
namespace L2.G
open PySem PySem.Spec PyProof.Rows L2H
/-! what the proofs by data share: draws, loops, comprehensions, steps -/
def CuOk (c : Cu) : Prop := ∃ a b : Int, c = some (a, b) ∧ 0 ≤ a ∧ a < 2147483629 ∧ 0 ≤ b
theorem sip_in {n : Int} {c : Cu} (h : CuOk c) (hn : 0 < n) (h2 : n < 1073741824) : ∃ (i : Int) (c' : Cu), m_l_sip [.cup, .int n] c = .ok (.int i) c' ∧ 0 ≤ i ∧ i < n ∧ CuOk c' := by
  obtain ⟨a, b, rfl, a0, a1, b0⟩ := h
  have e : m_l_sip [.cup, .int n] (some (a, b)) = .ok (.int (sipF a b n).1) (some (sipF a b n).2) := by
    unfold m_l_sip noE sipD
    simp only [a0, a1, b0, hn, h2, and_self, if_true]
  refine ⟨_, _, e, ?_, ?_, (sipF a b n).2.1, (sipF a b n).2.2, rfl, ?_, ?_, ?_⟩ <;> unfold sipF <;> split <;> dsimp only
  · exact Int.emod_nonneg _ (by omega)
  · exact Int.emod_nonneg _ (by omega)
  · exact Int.emod_lt_of_pos _ hn
  · exact Int.emod_lt_of_pos _ hn
  · exact Int.emod_nonneg _ (by decide)
  · exact Int.emod_nonneg _ (by decide)
  · exact Int.emod_lt_of_pos _ (by decide)
  · exact Int.emod_lt_of_pos _ (by decide)
  · exact Int.ediv_nonneg b0 (by omega)
  · exact b0
theorem pick_in {ds : List D} {c : Cu} (h : CuOk c) (hn : 0 < ds.length) (h2 : ds.length < 1073741824) : ∃ d ∈ ds, ∃ c', m_l_pick [.cup, .lst ds] c = .ok d c' ∧ CuOk c' := by
  obtain ⟨i, c', e, i0, i1, hc⟩ := sip_in (n := (ds.length : Int)) h (by omega) (by omega)
  have hi : i.toNat < ds.length := by omega
  refine ⟨ds[i.toNat], List.getElem_mem hi, c', ?_, hc⟩
  have ea : atI ds i = some ds[i.toNat] := by
    simp only [atI, ixN]
    rw [if_pos i0, if_pos i1]
    simp [hi]
  simp [m_l_pick, noE, fnD, retS, opD, vD, caD, aD, biD, lenF, e, R.bind, ofO, ixF, ea]
/-- a list comprehension by a rule of its elements -/
theorem lcG_in {t : Tg} {ws : List Nat} {elt : PM D} {st : PSt} {Pd : D → Prop} (h : ∀ x c, CuOk c → ∃ st', asgT t x (wipeD st ws) = some st' ∧ ∃ d c', elt st' c = .ok d c' ∧ Pd d ∧ CuOk c') :
    ∀ (items : List D) (c : Cu), CuOk c → ∃ ds c', lcG t ws yesT elt st items c = .ok ds c' ∧ ds.length = items.length ∧ (∀ d ∈ ds, Pd d) ∧ CuOk c'
  | [], c, hc => ⟨[], c, by unfold lcG; rfl, rfl, by simp, hc⟩
  | x :: items, c, hc => by
    obtain ⟨st', e1, d, c1, e2, p, hc1⟩ := h x c hc
    obtain ⟨ds, c2, e3, l, q, hc2⟩ := lcG_in (ws := ws) h items c1 hc1
    refine ⟨d :: ds, c2, ?_, by simp [l], by simpa using ⟨p, q⟩, hc2⟩
    unfold lcG
    simp [e1, e2, e3, yesT, R.bind, nE]
theorem chr_a : (Str.ofString "a" : Str) = ⟨#[97]⟩ := by decide +kernel
theorem chr_b : (Str.ofString "b" : Str) = ⟨#[98]⟩ := by decide +kernel
theorem chr_c : (Str.ofString "c" : Str) = ⟨#[99]⟩ := by decide +kernel
theorem chr_m : (Str.ofString "-" : Str) = ⟨#[45]⟩ := by decide +kernel
theorem chr_0 : (Str.ofString "" : Str) = ⟨#[]⟩ := by decide +kernel
/-- texts of one sign each, joined -/
theorem join_in {l : List Nat} (h : l.length ≤ 1000) (hx : ∀ x ∈ l, x < 0x110000) : joinF (.str "") [.lst (l.map fun x => D.str ⟨#[x]⟩)] = some (.str ⟨l.toArray⟩) := by
  have so : strsOf (l.map fun x => D.str ⟨#[x]⟩) = some (l.map fun x => (⟨#[x]⟩ : Str)) := by
    clear h hx
    induction l with
    | nil => rfl
    | cons z zs ih => simp [strsOf, ih]
  have sz : sizeLine ≥ 1000 := by decide
  simp only [joinF, so, Option.bind_some, join_signs]
  rw [if_pos]
  refine ⟨?_, txtOk_iff.mpr ⟨by simp; omega, by simpa using hx⟩⟩
  have e1 : ((l.map fun x => (⟨#[x]⟩ : Str)).map (·.length)).sum = l.length := by
    clear h hx so
    induction l with
    | nil => rfl
    | cons z zs ih => simp only [List.map_cons, List.sum_cons, ih, List.length_cons]; show 1 + _ = _; omega
  rw [e1, chr_0]
  show l.length + _ * 0 ≤ _
  omega
theorem rgD_len : ∀ (n : Nat) (k : Int), (rgD k n).length = n
  | 0, k => rfl
  | n + 1, k => by simp [rgD, rgD_len n]
theorem strs_in {S : List Nat} : ∀ {ds : List D}, (∀ d ∈ ds, ∃ x ∈ S, d = .str ⟨#[x]⟩) → ∃ l : List Nat, ds = (l.map fun x => D.str ⟨#[x]⟩) ∧ ∀ x ∈ l, x ∈ S
  | [], _ => ⟨[], rfl, by simp⟩
  | d :: ds, q => by
    obtain ⟨z, hz, rfl⟩ := q d (by simp)
    obtain ⟨zs, e, hs⟩ := strs_in (S := S) (ds := ds) fun d hd => q d (List.mem_cons_of_mem _ hd)
    subst e
    refine ⟨z :: zs, rfl, fun x hx => ?_⟩
    rcases List.mem_cons.mp hx with rfl | h
    · exact hz
    · exact hs x h
/-- a list comprehension that keeps some of what is walked -/
theorem lcT_in {k : Nat} {ws : List Nat} {test : PM Bool} {st : PSt} (hk : k < (wipeD st ws).length) (h : ∀ x c, CuOk c → ∃ b c', test ((wipeD st ws).set k (some x)) c = .ok b c' ∧ CuOk c') :
    ∀ (items : List D) (c : Cu), CuOk c → ∃ ds c', lcG (.nm k) ws test (vD k) st items c = .ok ds c' ∧ ds.Sublist items ∧ CuOk c'
  | [], c, hc => ⟨[], c, by unfold lcG; rfl, .slnil, hc⟩
  | x :: items, c, hc => by
    obtain ⟨b, c1, e1, hc1⟩ := h x c hc
    obtain ⟨ds, c2, e3, l, hc2⟩ := lcT_in hk h items c1 hc1
    cases b with
    | true => exact ⟨x :: ds, c2, by unfold lcG; simp [asgT, e1, e3, vD, nE, R.bind, hk], l.cons₂ x, hc2⟩
    | false => exact ⟨ds, c2, by unfold lcG; simp [asgT, e1, e3, vD, nE, R.bind, hk], l.cons x, hc2⟩
theorem lcM_in {t : Tg} {ws : List Nat} {elt : PM D} {st : PSt} {Pd : D → Prop} : ∀ (items : List D) (c : Cu), CuOk c → (∀ x ∈ items, ∀ c, CuOk c → ∃ st', asgT t x (wipeD st ws) = some st' ∧ ∃ d c', elt st' c = .ok d c' ∧ Pd d ∧ CuOk c') →
    ∃ ds c', lcG t ws yesT elt st items c = .ok ds c' ∧ ds.length = items.length ∧ (∀ d ∈ ds, Pd d) ∧ CuOk c'
  | [], c, hc, _ => ⟨[], c, by unfold lcG; rfl, rfl, by simp, hc⟩
  | x :: items, c, hc, h => by
    obtain ⟨st', e1, d, c1, e2, p, hc1⟩ := h x (by simp) c hc
    obtain ⟨ds, c2, e3, l, q, hc2⟩ := lcM_in (t := t) (ws := ws) (elt := elt) (st := st) (Pd := Pd) items c1 hc1 fun x hx => h x (List.mem_cons_of_mem _ hx)
    refine ⟨d :: ds, c2, ?_, by simp [l], by simpa using ⟨p, q⟩, hc2⟩
    unfold lcG
    simp [e1, e2, e3, yesT, R.bind, nE]
theorem rgD_mem {n : Nat} {k : Int} {d : D} (h : d ∈ rgD k n) : ∃ j : Int, d = .int j ∧ k ≤ j ∧ j < k + n := by
  simp only [rgD, List.mem_map, List.mem_range] at h
  obtain ⟨i, hi, rfl⟩ := h
  exact ⟨_, rfl, by omega, by omega⟩
/-- a loop that comes to its end, by what holds behind each step -/
theorem loop_in {t : Tg} {f : PM Fl} {Inv : Nat → PSt → Cu → Prop} : ∀ (items : List D) (i : Nat) (st : PSt) (c : Cu), Inv i st c →
    (∀ j x, items[j]? = some x → ∀ st c, Inv (i + j) st c → ∃ st1, asgT t x st = some st1 ∧ ∃ st' c', f st1 c = .ok (.nx st') c' ∧ Inv (i + j + 1) st' c') →
    ∃ st' c', loopS t f items st c = .ok (.nx st') c' ∧ Inv (i + items.length) st' c'
  | [], i, st, c, h, _ => ⟨st, c, rfl, h⟩
  | x :: items, i, st, c, h, s => by
    obtain ⟨st1, e1, st', c', e2, h2⟩ := s 0 x rfl st c h
    obtain ⟨st3, c3, e3, h3⟩ := loop_in items (i + 1) st' c' h2 fun j x hx st c hi => by
      have := s (j + 1) x (by simpa using hx) st c (by rwa [show i + (j + 1) = i + 1 + j by omega])
      rwa [show i + (j + 1) + 1 = i + 1 + j + 1 by omega] at this
    refine ⟨st3, c3, ?_, by rwa [List.length_cons, show i + (items.length + 1) = i + 1 + items.length by omega]⟩
    simp only [loopS, e1, ofO, R.bind, e2, e3]
theorem enD_cons (i : Nat) (x : D) (xs : List D) : enD i (x :: xs) = .tup [.int (i : Nat), x] :: enD (i + 1) xs := rfl
def LETL : List Nat := [45, 97, 98, 99, 100, 101, 102, 103, 104, 105, 106, 107, 108, 109, 110, 111, 112, 113, 114, 115, 116, 117, 118, 119, 120, 121, 122]
def CAPL : List Nat := [65, 66, 67, 68, 69, 70, 71, 72, 73, 74, 75, 76, 77, 78, 79, 80, 81, 82, 83, 84, 85, 86, 87, 88, 89, 90]
theorem s_let : (Str.ofString "-abcdefghijklmnopqrstuvwxyz" : Str) = ⟨LETL.toArray⟩ := by decide +kernel
theorem s_cap : (Str.ofString "ABCDEFGHIJKLMNOPQRSTUVWXYZ" : Str) = ⟨CAPL.toArray⟩ := by decide +kernel
theorem s_q : (Str.ofString "?" : Str) = ⟨#[63]⟩ := by decide +kernel
theorem eqStr (n : Bool) (a b : Str) : eqF n (.str a) (.str b) = some (.bl (if n then !decide (a = b) else decide (a = b))) := by
  simp [eqF, okD, eqD, toP, PyData.eqv]
  cases n <;> simp <;> exact Bool.eq_iff_iff.mpr (by simp)
theorem eqInt (n : Bool) (a b : Int) : eqF n (.int a) (.int b) = some (.bl (if n then !decide (a = b) else decide (a = b))) := by
  simp [eqF, okD, eqD, toP, PyData.eqv]
  cases n <;> simp <;> exact Bool.eq_iff_iff.mpr (by simp)
theorem all_true {ds : List D} (h : ∀ d ∈ ds, d = .bl true) : allF [.lst ds] = some (.bl true) := by
  have e : blsOf ds = some (ds.map fun _ => true) := by
    induction ds with
    | nil => rfl
    | cons d ds ih =>
      rw [h d (by simp), blsOf, ih fun d hd => h d (List.mem_cons_of_mem _ hd)]
      rfl
  simp [allF, e]
/-- a comprehension whose elements change nothing -/
theorem lcP_in {t : Tg} {ws : List Nat} {elt : PM D} {st : PSt} {f : D → D} {c : Cu} : ∀ (items : List D), (∀ x ∈ items, ∃ st', asgT t x (wipeD st ws) = some st' ∧ elt st' c = .ok (f x) c) →
    lcG t ws yesT elt st items c = .ok (items.map f) c
  | [], _ => by unfold lcG; rfl
  | x :: items, h => by
    obtain ⟨st', e1, e2⟩ := h x (by simp)
    have e3 := lcP_in (t := t) (ws := ws) (elt := elt) (st := st) (f := f) (c := c) items fun x hx => h x (List.mem_cons_of_mem _ hx)
    unfold lcG
    simp [e1, e2, e3, yesT, R.bind, nE]
theorem seq_nx {f g : PM Fl} {st st' : PSt} {c c' : Cu} (h : f st c = .ok (.nx st') c') : seqS f g st c = g st' c' := by
  simp only [seqS, h, R.bind]
theorem seq_rt {f g : PM Fl} {st : PSt} {c c' : Cu} {d : D} (h : f st c = .ok (.rt d) c') : seqS f g st c = .ok (.rt d) c' := by
  simp only [seqS, h, R.bind]
theorem set_ok {i : Nat} {m : PM D} {st : PSt} {c c' : Cu} {d : D} (h : m st c = .ok d c') : setS i m st c = .ok (.nx (st.set i (some d))) c' := by
  simp only [setS, h, R.bind]
theorem ex_ok {m : PM D} {st : PSt} {c c' : Cu} {d : D} (h : m st c = .ok d c') : exS m st c = .ok (.nx st) c' := by
  simp only [exS, h, R.bind]
theorem ret_ok {m : PM D} {st : PSt} {c c' : Cu} {d : D} (h : m st c = .ok d c') : retS m st c = .ok (.rt d) c' := by
  simp only [retS, h, R.bind]
theorem if_no {t : PM Bool} {f g : PM Fl} {st : PSt} {c c' : Cu} (h : t st c = .ok false c') : ifS t f g st c = g st c' := by
  simp [ifS, h, R.bind]
theorem if_yes {t : PM Bool} {f g : PM Fl} {st : PSt} {c c' : Cu} (h : t st c = .ok true c') : ifS t f g st c = f st c' := by
  simp [ifS, h, R.bind]
theorem fn_rt {k n : Nat} {f : PM Fl} {ds : List D} {c c' : Cu} {d : D} (hk : ds.length = k) (h : f (ds.map some ++ List.replicate (n - k) none) c = .ok (.rt d) c') : fnD k n f ds c = .ok d c' := by
  simp only [fnD, hk, if_true, h, R.bind]
theorem fn_nx {k n : Nat} {f : PM Fl} {ds : List D} {c c' : Cu} {st : PSt} (hk : ds.length = k) (h : f (ds.map some ++ List.replicate (n - k) none) c = .ok (.nx st) c') : fnD k n f ds c = .ok .non c' := by
  simp only [fnD, hk, if_true, h, R.bind]
theorem noE_ok {m : Fd} {ds : List D} {c c' : Cu} {d : D} (h : m ds c = .ok d c') : noE m ds c = .ok d c' := by
  simp only [noE, h]
theorem ca_ok {m : Fd} {ms : List (PM D)} {st : PSt} {c c1 c' : Cu} {ds : List D} {d : D} (h : aD ms st c = .ok ds c1) (h2 : m ds c1 = .ok d c') : caD m ms st c = .ok d c' := by
  simp only [caD, h, R.bind, h2]
theorem pr_ok {C : Str} {m : Fd} {mo : PM D} {st : PSt} {c c1 c' : Cu} {ns : List Str} {ds : List D} {d : D} (h : mo st c = .ok (.ins C ns ds) c1) (h2 : m [.ins C ns ds] c1 = .ok d c') : prD C m mo st c = .ok d c' := by
  simp only [prD, h, R.bind, if_true, h2]
theorem for_ok {t : Tg} {it : PM (List D)} {f : PM Fl} {st : PSt} {c c1 : Cu} {ds : List D} (h : it st c = .ok ds c1) : forS t it f st c = loopS t f ds st c1 := by
  simp only [forS, h, R.bind]
/-- a comprehension that keeps what a test lets, and changes nothing -/
theorem lcF_in {k : Nat} {ws : List Nat} {test : PM Bool} {st : PSt} {c : Cu} (p : D → Bool) (hk : k < (wipeD st ws).length) : ∀ items : List D, (∀ x ∈ items, test ((wipeD st ws).set k (some x)) c = .ok (p x) c) →
    lcG (.nm k) ws test (vD k) st items c = .ok (items.filter p) c
  | [], _ => by unfold lcG; rfl
  | x :: items, h => by
    have e1 := h x (by simp)
    have e3 := lcF_in p hk items fun x hx => h x (List.mem_cons_of_mem _ hx)
    cases b : p x with
    | true => unfold lcG; simp [asgT, e1, e3, vD, nE, R.bind, hk, b]
    | false => unfold lcG; simp [asgT, e1, e3, vD, nE, R.bind, hk, b]
theorem in_ints (n : Bool) (j : Int) (l : List Int) : inF n (.int j) (.tup (l.map .int)) = some (.bl (if n then !decide (j ∈ l) else decide (j ∈ l))) := by
  have e1 : (l.map D.int).all (okD 0) = true := by simp [okD]
  have e2 : ((l.map D.int).any fun z => eqD z (.int j)) = decide (j ∈ l) := by
    rw [List.any_map]
    apply Bool.eq_iff_iff.mpr
    simp [eqD, toP, PyData.eqv]
  simp only [inF, e1, e2]
  simp [okD]
theorem ne_nil {ds : List Str} : eqF true (.lst (ds.map .str)) (.lst []) = some (.bl (decide (ds ≠ []))) := by
  have e1 : okD 60 (.lst (ds.map .str)) = true := by
    rw [show (60 : Nat) = 59 + 1 from rfl, okD_lst]
    simp [okD]
  have e2 : okD 60 (.lst []) = true := by rfl
  have e3 : eqD (.lst (ds.map .str)) (.lst []) = decide (ds = []) := by
    cases ds with
    | nil => rfl
    | cons x xs => rfl
  simp only [eqF, e1, e2, e3]
  simp
mutual
theorem eqv_rf : ∀ d : D, PyData.eqv (toP d) (toP d) = true
  | .non => by simp [toP, PyData.eqv]
  | .bl b => by simp [toP, PyData.eqv]
  | .int i => by simp [toP, PyData.eqv]
  | .str z => by simp [toP, PyData.eqv]
  | .tup ds => by
    simp only [toP, PyData.eqv]
    exact eqvs_rf ds
  | .lst ds => by
    simp only [toP, PyData.eqv]
    exact eqvs_rf ds
  | .dic => by simp [toP, PyData.eqv]
  | .ins _ _ _ => by simp [toP, PyData.eqv]
  | .cup => by simp [toP, PyData.eqv]
  | .scr _ => by simp [toP, PyData.eqv]
theorem eqvs_rf : ∀ ds : List D, PyData.eqvAll (toPs ds) (toPs ds) = true
  | [] => by simp [toPs, PyData.eqvAll]
  | d :: ds => by
    simp only [toPs, PyData.eqvAll, eqv_rf d, eqvs_rf ds, Bool.and_self]
end
theorem eqD_rf (d : D) : eqD d d = true := eqv_rf d
theorem eqvs_len : ∀ xs ys : List PyData, xs.length ≠ ys.length → PyData.eqvAll xs ys = false
  | [], [], h => absurd rfl h
  | [], _ :: _, _ => by simp [PyData.eqvAll]
  | _ :: _, [], _ => by simp [PyData.eqvAll]
  | x :: xs, y :: ys, h => by
    simp only [PyData.eqvAll, eqvs_len xs ys (by simpa using h), Bool.and_false]
theorem rgD_succ (a : Int) (n : Nat) : rgD a (n + 1) = .int a :: rgD (a + 1) n := by
  simp only [rgD, List.range_succ_eq_map, List.map_cons, List.map_map]
  congr 1
  · simp
  · apply List.map_congr_left
    intro i _
    simp only [Function.comp_apply]
    congr 1
    omega
theorem step_seq {f g : PM Fl} {st st1 : PSt} {c c1 : Cu} (P : R Fl → Prop) (h : f st c = .ok (.nx st1) c1) (k : P (g st1 c1)) : P (seqS f g st c) := by
  rw [seq_nx h]
  exact k
theorem for_seq {t : Tg} {it : PM (List D)} {f g : PM Fl} {st : PSt} {c c1 : Cu} {items : List D} (P : R Fl → Prop) (Inv : Nat → PSt → Cu → Prop) (hit : it st c = .ok items c1) (h0 : Inv 0 st c1)
    (step : ∀ j x, items[j]? = some x → ∀ st c, Inv j st c → ∃ st1, asgT t x st = some st1 ∧ ∃ st' c', f st1 c = .ok (.nx st') c' ∧ Inv (j + 1) st' c')
    (fin : ∀ st' c', Inv items.length st' c' → P (g st' c')) : P (seqS (forS t it f) g st c) := by
  obtain ⟨st', c', e, hi⟩ := loop_in (t := t) (f := f) (Inv := Inv) items 0 st c1 h0 (by simpa using step)
  rw [Nat.zero_add] at hi
  rw [seq_nx ((for_ok hit).trans e)]
  exact fin st' c' hi
theorem or_ff {a b : PM Bool} {st : PSt} {c c1 c2 : Cu} (h : a st c = .ok false c1) (h2 : b st c1 = .ok false c2) : orT a b st c = .ok false c2 := by
  simp [orT, h, h2, R.bind]
theorem tb_ok {m : PM D} {st : PSt} {c c1 : Cu} {b : Bool} (h : m st c = .ok (.bl b) c1) : tbD m st c = .ok b c1 := by
  simp [tbD, h, R.bind]
theorem op_ok {f : D → D → Option D} {a b : PM D} {st : PSt} {c c1 c2 : Cu} {x y z : D} (h : a st c = .ok x c1) (h2 : b st c1 = .ok y c2) (h3 : f x y = some z) : opD f a b st c = .ok z c2 := by
  simp [opD, h, h2, R.bind, h3, ofO]
theorem bi1_ok {f : List D → Option D} {a : PM D} {st : PSt} {c c1 : Cu} {x z : D} (h : a st c = .ok x c1) (h3 : f [x] = some z) : biD f [a] st c = .ok z c1 := by
  simp [biD, aD, h, R.bind, h3, ofO]
theorem not_ok {a : PM Bool} {st : PSt} {c c1 : Cu} {b : Bool} (h : a st c = .ok b c1) : notT a st c = .ok (!b) c1 := by
  simp [notT, h, R.bind]
theorem eqStr_ne (z : Str) : eqF true (.str z) (.str z) = some (.bl false) := by simp [eqStr]
theorem eqInt_ne (z : Int) : eqF true (.int z) (.int z) = some (.bl false) := by simp [eqInt]
theorem okD_mono : ∀ (n m : Nat) (d : D), n ≤ m → okD n d = true → okD m d = true := by
  intro n
  induction n with
  | zero => intro m d hm h; cases d <;> cases m <;> simp_all [okD]
  | succ n ih =>
    intro m d hm h
    obtain ⟨m, rfl⟩ : ∃ k, m = k + 1 := ⟨m - 1, by omega⟩
    cases d <;> simp_all [okD, okDs_all]
end L2.G
set_option Elab.async false
set_option linter.all false
set_option maxRecDepth 100000
set_option maxHeartbeats 2000000
namespace L2.G
open PySem PySem.Spec PyProof.Rows L2H
/-! records by data -/
theorem isW_in (i lo hi : Int) (c : Cu) : m_is_whole [.int i, .int lo, .int hi] c = .ok (.bl (decide (lo ≤ i ∧ i ≤ hi))) c := by
  have e1 : isT "int" (.int i) = some (.bl true) := by rfl
  have e2 : isT "bool" (.int i) = some (.bl false) := by rfl
  by_cases h : lo ≤ i
  · simp [m_is_whole, fnD, retS, andD, unD, chD, vD, R.bind, ofO, e1, e2, notF, cmpF, h]
  · simp [m_is_whole, fnD, retS, andD, unD, chD, vD, R.bind, ofO, e1, e2, notF, cmpF, h]
/-- rising from lo to hi -/
def Ris (lo hi : Int) : List Int → Prop
  | [] => True
  | x :: xs => lo ≤ x ∧ x ≤ hi ∧ Ris (x + 1) hi xs
theorem fnr_loop {lo hi : Int} (a b : D) : ∀ (l : List Int) (n : Nat) (fl : Int) (u v : Option D) (c : Cu), Ris fl hi l → ∃ fl' u' v',
    loopS (.tp [(.nm 4), (.nm 5)]) (seqS (ifS (notT (trD (caD m_is_whole [(vD 5), (vD 3), (vD 2)]))) (retS (vD 4)) passS) (setS 3 (opD addF (vD 5) (cD (.int 1))))) (enD n (l.map .int)) [some a, some b, some (.int hi), some (.int fl), u, v] c = .ok (.nx [some a, some b, some (.int hi), some fl', u', v']) c
  | [], n, fl, u, v, c, _ => ⟨_, _, _, rfl⟩
  | x :: l, n, fl, u, v, c, ⟨h1, h2, h3⟩ => by
    obtain ⟨fl', u', v', e⟩ := fnr_loop (lo := lo) a b l (n + 1) (x + 1) (some (.int n)) (some (.int x)) c h3
    refine ⟨fl', u', v', ?_⟩
    rw [List.map_cons, enD_cons]
    simp only [loopS, asgT, asgTs, ofO, R.bind, seqS, ifS, notT, trD, caD, aD, vD, Option.bind, List.set]
    simp [isW_in, h1, h2, R.bind, ofO, truF, passS, setS, opD, vD, cD, addF]
    exact e
theorem fnr_in {lo hi : Int} {l : List Int} {c : Cu} (h : Ris lo hi l) : m_first_not_rising [.tup (l.map .int), .int lo, .int hi] c = .ok .non c := by
  obtain ⟨fl, u, v, e⟩ := fnr_loop (lo := lo) (.tup (l.map .int)) (.int lo) l 0 lo none none c h
  simp [m_first_not_rising, fnD, seqS, setS, forS, itE, itT, vD, R.bind, retS, cD, e]
theorem dead_in {n : Int} {l : List Int} {c : Cu} (h : Ris 0 (n - 1) l) : m_check_dead [.tup (l.map .int), .int n] c = .ok .non c := by
  have e1 : isT "tuple" (.tup (l.map .int)) = some (.bl true) := by rfl
  simp [m_check_dead, fnD, seqS, setS, ifS, notT, trD, unD, vD, R.bind, ofO, e1, truF, passS, caD, aD, opD, cD, intF, fnr_in h, tbD, notNF, isNon]
theorem paces_in {l : List Int} {c : Cu} (h : Ris (-9) 9 l) (h0 : l ≠ []) : m_check_paces [.tup (l.map .int)] c = .ok .non c := by
  have e1 : isT "tuple" (.tup (l.map .int)) = some (.bl true) := by rfl
  have e2 : eqF false (.int l.length) (.int 0) = some (.bl false) := by
    simp [eqF, okD, eqD, toP, PyData.eqv, h0]
  simp [m_check_paces, fnD, seqS, setS, ifS, orT, notT, trD, unD, vD, R.bind, ofO, e1, truF, passS, caD, aD, opD, cD, biD, lenF, e2, tbD, negF, fnr_in h, notNF, isNon]
theorem length_in {i lo : Int} {c : Cu} (h : lo ≤ i) (h2 : i ≤ 40) : m_check_length [.int i, .int lo] c = .ok .non c := by
  simp [m_check_length, m_is_length, fnD, retS, ifS, notT, trD, vD, R.bind, ofO, truF, passS, caD, aD, cD, isW_in, h, h2]
theorem width_in {i : Int} {c : Cu} (h : 1 ≤ i) (h2 : i ≤ 8) : m_check_width [.int i] c = .ok .non c := by
  simp [m_check_width, fnD, retS, ifS, notT, trD, vD, R.bind, ofO, truF, passS, caD, aD, cD, isW_in, h, h2]
theorem time_in {i : Int} {c : Cu} (h : 0 ≤ i) (h2 : i ≤ 1000000000000000000000000000000) : m_check_time [.int i] c = .ok .non c := by
  simp [m_check_time, m_is_time, fnD, retS, ifS, notT, trD, vD, R.bind, ofO, truF, passS, caD, aD, cD, isW_in, h, h2]
def gsT (gs : List (List Nat)) : D := .tup (gs.map fun g => .str ⟨g.toArray⟩)
/-- the letters that agree with a sign of a reading -/
def letL (x : Nat) (gs : List (List Nat)) : List Nat := if x = 63 then LETL else if x ∈ LETL then [x] else if x ∈ CAPL then (gs.find? fun g => decide (x + 32 ∈ g)).getD [] else []
theorem low_cap : ∀ x ∈ CAPL, Txt.lower ⟨#[x]⟩ = ⟨#[x + 32]⟩ ∧ txtOk (Txt.lower ⟨#[x]⟩) = true ∧ (⟨#[x]⟩ : Str).length ≤ 5592405 := by decide +kernel
theorem lowF_cap {x : Nat} (h : x ∈ CAPL) : lowerF (.str ⟨#[x]⟩) [] = some (.str ⟨#[x + 32]⟩) := by
  obtain ⟨h1, h2, h3⟩ := low_cap x h
  rw [h1] at h2
  simp only [lowerF, h3, h1, h2, and_self, if_true]
theorem let_loop {x : Nat} (h : x ∈ CAPL) (y : D) : ∀ (gs : List (List Nat)) (u : Option D) (c : Cu), (∃ v, (gs.find? fun g => decide (x + 32 ∈ g)) = none ∧ loopS (.nm 2) (ifS (tbD (opD (inF false) (mtD lowerF (vD 0) []) (vD 2))) (retS (vD 2)) passS) (gs.map fun g => .str ⟨g.toArray⟩) [some (.str ⟨#[x]⟩), some y, u] c = .ok (.nx [some (.str ⟨#[x]⟩), some y, v]) c) ∨
    ∃ g, (gs.find? fun g => decide (x + 32 ∈ g)) = some g ∧ loopS (.nm 2) (ifS (tbD (opD (inF false) (mtD lowerF (vD 0) []) (vD 2))) (retS (vD 2)) passS) (gs.map fun g => .str ⟨g.toArray⟩) [some (.str ⟨#[x]⟩), some y, u] c = .ok (.rt (.str ⟨g.toArray⟩)) c
  | [], u, c => .inl ⟨u, rfl, rfl⟩
  | g :: gs, u, c => by
    by_cases hg : x + 32 ∈ g
    · refine .inr ⟨g, by simp [hg], ?_⟩
      simp [loopS, asgT, ofO, R.bind, ifS, tbD, opD, mtD, vD, isStrD, aD, lowF_cap h, inF, hg, retS]
    · have st : ∀ r, loopS (.nm 2) (ifS (tbD (opD (inF false) (mtD lowerF (vD 0) []) (vD 2))) (retS (vD 2)) passS) ((g :: gs).map fun g => .str ⟨g.toArray⟩) [some (.str ⟨#[x]⟩), some y, u] c = r ↔ loopS (.nm 2) (ifS (tbD (opD (inF false) (mtD lowerF (vD 0) []) (vD 2))) (retS (vD 2)) passS) (gs.map fun g => .str ⟨g.toArray⟩) [some (.str ⟨#[x]⟩), some y, some (.str ⟨g.toArray⟩)] c = r := by
        intro r
        rw [List.map_cons]
        conv => lhs; unfold loopS
        simp [asgT, ofO, R.bind, ifS, tbD, opD, mtD, vD, isStrD, aD, lowF_cap h, inF, hg, retS, passS]
      rcases let_loop h y gs (some (.str ⟨g.toArray⟩)) c with ⟨v, e1, e2⟩ | ⟨g', e1, e2⟩
      · exact .inl ⟨v, by simp [hg, e1], (st _).mpr e2⟩
      · exact .inr ⟨g', by simp [hg, e1], (st _).mpr e2⟩
theorem let_in (x : Nat) (gs : List (List Nat)) (c : Cu) : m_letters_for [.str ⟨#[x]⟩, gsT gs] c = .ok (.str ⟨(letL x gs).toArray⟩) c := by
  unfold letL gsT
  by_cases h1 : x = 63
  · simp [m_letters_for, fnD, seqS, ifS, tbD, opD, vD, cD, R.bind, ofO, eqStr, s_q, h1, retS, s_let]
  · by_cases h2 : x ∈ LETL
    · simp [m_letters_for, fnD, seqS, ifS, tbD, opD, vD, cD, R.bind, ofO, eqStr, s_q, h1, retS, s_let, inF, h2, passS]
    · by_cases h3 : x ∈ CAPL
      · rcases let_loop h3 (.tup (gs.map fun g => .str ⟨g.toArray⟩)) gs none c with ⟨v, e1, e2⟩ | ⟨g', e1, e2⟩
        · simp [m_letters_for, fnD, seqS, ifS, tbD, opD, vD, cD, R.bind, ofO, eqStr, s_q, h1, retS, s_let, inF, h2, passS, s_cap, h3, forS, itT, e1, e2, chr_0]
        · simp [m_letters_for, fnD, seqS, ifS, tbD, opD, vD, cD, R.bind, ofO, eqStr, s_q, h1, retS, s_let, inF, h2, passS, s_cap, h3, forS, itT, e1, e2, chr_0]
      · simp [m_letters_for, fnD, seqS, ifS, tbD, opD, vD, cD, R.bind, ofO, eqStr, s_q, h1, retS, s_let, inF, h2, passS, s_cap, h3, chr_0]
theorem reading_in {r : List Nat} {n : Int} {gs : List (List Nat)} {c : Cu} (h : (r.length : Int) = n) (h2 : ∀ x ∈ r, letL x gs ≠ []) : m_check_window [.str ⟨r.toArray⟩, .int n, gsT gs] c = .ok .non c := by
  have e1 : isT "str" (.str ⟨r.toArray⟩) = some (.bl true) := rfl
  have el : (Str.length ⟨r.toArray⟩ : Int) = n := by simp [Str.length, h]
  have e2 := lcP_in (c := c) (t := .nm 3) (ws := [3]) (elt := opD (eqF true) (caD m_letters_for [vD 3, vD 2]) (cD (.str ""))) (st := [some (.str ⟨r.toArray⟩), some (.int n), some (gsT gs), none]) (f := fun _ => .bl true) (r.map chS) (by
    intro x hx
    obtain ⟨y, hy, rfl⟩ := List.mem_map.mp hx
    have hl := h2 y hy
    refine ⟨_, rfl, ?_⟩
    simp [opD, caD, aD, vD, cD, R.bind, wipeD, chS, let_in, ofO, eqStr, chr_0, hl])
  have e3 : allF [.lst ((r.map chS).map fun _ => D.bl true)] = some (.bl true) := all_true (by simp)
  have e4 : m_is_reading [.str ⟨r.toArray⟩, .int n, gsT gs] c = .ok (.bl true) c := by
    simp [m_is_reading, fnD, seqS, ifS, orT, notT, trD, unD, vD, R.bind, ofO, e1, truF, tbD, opD, biD, lenF, aD, el, eqInt, passS, retS, lcD, itS, e2, e3]
    simp [Function.comp_def] at e2 e3 ⊢
    simp [e3, ofO, R.bind]
  simp [m_check_window, fnD, ifS, notT, trD, caD, aD, vD, R.bind, e4, ofO, truF, passS]
theorem unread_in {r : List Nat} {l : List Int} {c : Cu} (h : ∀ j ∈ l, 0 ≤ j ∧ r[j.toNat]? = some 63) : m_unread_where_dead [.str ⟨r.toArray⟩, .tup (l.map .int)] c = .ok (.bl true) c := by
  have e2 := lcP_in (c := c) (t := .nm 2) (ws := [2]) (elt := opD (eqF false) (opD ixF (vD 0) (vD 2)) (cD (.str "?"))) (st := [some (.str ⟨r.toArray⟩), some (.tup (l.map .int)), none]) (f := fun _ => .bl true) (l.map .int) (by
    intro x hx
    obtain ⟨y, hy, rfl⟩ := List.mem_map.mp hx
    obtain ⟨h0, h1⟩ := h y hy
    have hn : y.toNat < r.length := (List.getElem?_eq_some_iff.mp h1).1
    refine ⟨_, rfl, ?_⟩
    have ea : atI r y = some 63 := by
      simp only [atI, ixN]
      rw [if_pos h0, if_pos (by omega)]
      simp [h1]
    simp [opD, vD, cD, R.bind, wipeD, ixF, ea, chS, ofO, eqStr, s_q])
  have e3 : allF [.lst ((l.map D.int).map fun _ => D.bl true)] = some (.bl true) := all_true (by simp)
  simp [m_unread_where_dead, fnD, retS, biD, aD, lcD, itT, vD, R.bind, e2]
  simp [Function.comp_def] at e3 ⊢
  simp [e3, ofO, R.bind]
def SML : List Nat := [97, 98, 99, 100, 101, 102, 103, 104, 105, 106, 107, 108, 109, 110, 111, 112, 113, 114, 115, 116, 117, 118, 119, 120, 121, 122]
theorem s_sml : (Str.ofString "abcdefghijklmnopqrstuvwxyz" : Str) = ⟨SML.toArray⟩ := by decide +kernel
/-- groups, beside letters that are used -/
def GOk (u : List Nat) : List (List Nat) → Prop
  | [] => True
  | g :: gs => (2 ≤ g.length ∧ u.length + g.length ≤ 1000 ∧ ∀ y ∈ g, y ∈ SML ∧ y ∉ u ∧ Txt.count ⟨g.toArray⟩ ⟨#[y]⟩ = 1) ∧ GOk (u ++ g) gs
theorem isG_in {g u : List Nat} {c : Cu} (h : 2 ≤ g.length) (h2 : ∀ y ∈ g, y ∈ SML ∧ y ∉ u ∧ Txt.count ⟨g.toArray⟩ ⟨#[y]⟩ = 1) : m_is_group [.str ⟨g.toArray⟩, .str ⟨u.toArray⟩] c = .ok (.bl true) c := by
  have e1 : isT "str" (.str ⟨g.toArray⟩) = some (.bl true) := rfl
  have el : (Str.length ⟨g.toArray⟩ : Int) = g.length := by simp [Str.length]
  have hl : ¬ ((g.length : Int) < 2) := by omega
  have e2 := lcP_in (c := c) (t := .nm 2) (ws := [2]) (elt := andD (opD (inF false) (vD 2) (cD (.str "abcdefghijklmnopqrstuvwxyz"))) (andD (opD (inF true) (vD 2) (vD 1)) (opD (eqF false) (mtD countF (vD 0) [(vD 2)]) (cD (.int 1))))) (st := [some (.str ⟨g.toArray⟩), some (.str ⟨u.toArray⟩), none]) (f := fun _ => .bl true) (g.map chS) (by
    intro x hx
    obtain ⟨y, hy, rfl⟩ := List.mem_map.mp hx
    obtain ⟨h1, h3, h4⟩ := h2 y hy
    refine ⟨_, rfl, ?_⟩
    simp [andD, opD, vD, cD, R.bind, wipeD, chS, ofO, inF, s_sml, h1, h3, mtD, isStrD, aD, countF, h4, eqInt])
  have e3 : allF [.lst ((g.map chS).map fun _ => D.bl true)] = some (.bl true) := all_true (by simp)
  simp [m_is_group, fnD, seqS, ifS, orT, notT, trD, unD, vD, R.bind, ofO, e1, truF, tbD, opD, biD, lenF, aD, el, cmpF, cD, hl, passS, retS, lcD, itS]
  simp [Function.comp_def] at e2 e3 ⊢
  simp [e2, e3, ofO, R.bind]
theorem fng_loop (a : D) : ∀ (gs : List (List Nat)) (n : Nat) (u : List Nat) (x y : Option D) (c : Cu), GOk u gs → ∃ u' x' y',
    loopS (.tp [(.nm 2), (.nm 3)]) (seqS (ifS (notT (trD (caD m_is_group [(vD 3), (vD 1)]))) (retS (vD 2)) passS) (augS 1 addI (vD 3))) (enD n (gs.map fun g => .str ⟨g.toArray⟩)) [some a, some (.str ⟨u.toArray⟩), x, y] c = .ok (.nx [some a, some u', x', y']) c
  | [], n, u, x, y, c, _ => ⟨_, _, _, rfl⟩
  | g :: gs, n, u, x, y, c, ⟨⟨h1, h1', h2⟩, h3⟩ => by
    obtain ⟨u', x', y', e⟩ := fng_loop a gs (n + 1) (u ++ g) (some (.int n)) (some (.str ⟨g.toArray⟩)) c h3
    refine ⟨u', x', y', ?_⟩
    have sz : sizeLine ≥ 1000 := by decide
    have ea : addI (.str ⟨u.toArray⟩) (.str ⟨g.toArray⟩) = some (.str ⟨(u ++ g).toArray⟩) := by
      simp only [addI]
      rw [if_pos (by show u.toArray.size + g.toArray.size ≤ _; simp; omega)]
      congr 2
      show (⟨u.toArray ++ g.toArray⟩ : Str) = _
      simp
    rw [List.map_cons, enD_cons]
    simp only [loopS, asgT, asgTs, ofO, R.bind, seqS, ifS, notT, trD, caD, aD, vD, Option.bind, List.set]
    simp [isG_in h1 h2, R.bind, ofO, truF, passS, augS, vD, ea]
    exact e
theorem groups_in {gs : List (List Nat)} {c : Cu} (h : GOk [] gs) : m_check_groups [gsT gs] c = .ok .non c := by
  obtain ⟨u', x', y', e⟩ := fng_loop (gsT gs) gs 0 [] none none c h
  have e1 : isT "tuple" (gsT gs) = some (.bl true) := rfl
  have e2 : m_first_no_group [gsT gs] c = .ok .non c := by
    unfold gsT at e ⊢
    simp [m_first_no_group, fnD, seqS, setS, forS, itE, itT, vD, R.bind, retS, cD, chr_0, e]
  simp [m_check_groups, fnD, seqS, setS, ifS, notT, trD, unD, vD, R.bind, ofO, e1, truF, passS, caD, aD, e2, opD, cD, tbD, notNF, isNon]
/-- what is known of a record -/
structure Kn where
  n : Int
  l : List Int
  lo : Int
  hi : Int
  p : List Int
  gs : List (List Nat)
structure Kn.Ok (k : Kn) : Prop where
  n1 : 1 ≤ k.n
  n8 : k.n ≤ 8
  dead : Ris 0 (k.n - 1) k.l
  lo1 : 1 ≤ k.lo
  lh : k.lo ≤ k.hi
  hi40 : k.hi ≤ 40
  pac : Ris (-9) 9 k.p
  p0 : k.p ≠ []
  grp : GOk [] k.gs
def Kn.T (k : Kn) : D := .tup [.int k.n, .tup (k.l.map .int), .int k.lo, .int k.hi, .tup (k.p.map .int), gsT k.gs]
/-- what is told of a record -/
def Kn.told (k : Kn) (gl : List D) : D := .tup [.int k.n, .tup (k.l.map .int), .int k.lo, .int k.hi, .tup (k.p.map .int), gsT k.gs, .tup gl]
def Kn.rc (k : Kn) (gl : List D) : D := .ins "Record" ["kept"] [k.told gl]
theorem init_in {k : Kn} (h : k.Ok) (c : Cu) : m_Record_init [.int k.n, .tup (k.l.map .int), .int k.lo, .int k.hi, .tup (k.p.map .int), gsT k.gs] c = .ok (k.rc []) c := by
  have e1 := width_in (c := c) h.n1 h.n8
  have e2 := dead_in (c := c) h.dead
  have e3 := length_in (c := c) h.lo1 (by have := h.lh; have := h.hi40; omega)
  have e4 := length_in (c := c) h.lh h.hi40
  have e5 := paces_in (c := c) h.pac h.p0
  have e6 := groups_in (c := c) h.grp
  simp [m_Record_init, inD, seqS, exS, caD, aD, vD, cD, R.bind, e1, e2, e3, e4, e5, e6, fldS, tupD, ofO, inst0, putI, putP, Kn.rc, Kn.told]
theorem told_in (k : Kn) (gl : List D) (c : Cu) : m_Record_told [k.rc gl] c = .ok (k.told gl) c := by
  simp [m_Record_told, fnD, retS, unD, vD, R.bind, ofO, fldF, Kn.rc]
/-- a glance -/
structure Gl where
  t : Int
  r : List Nat
def Gl.D (g : Gl) : D := .tup [.int g.t, .str ⟨g.r.toArray⟩]
structure Gl.Ok (k : Kn) (g : Gl) : Prop where
  t0 : 0 ≤ g.t
  t1 : g.t ≤ 1000000000000000000000000000000
  len : (g.r.length : Int) = k.n
  lt : ∀ x ∈ g.r, letL x k.gs ≠ []
  dead : ∀ j ∈ k.l, 0 ≤ j ∧ g.r[j.toNat]? = some 63
theorem at_k (k : Kn) (gl : List D) (c : Cu) : m_Record_width [k.rc gl] c = .ok (.int k.n) c ∧ m_Record_dead [k.rc gl] c = .ok (.tup (k.l.map .int)) c ∧ m_Record_least [k.rc gl] c = .ok (.int k.lo) c ∧ m_Record_most [k.rc gl] c = .ok (.int k.hi) c ∧ m_Record_paces [k.rc gl] c = .ok (.tup (k.p.map .int)) c ∧ m_Record_groups [k.rc gl] c = .ok (gsT k.gs) c ∧ m_Record_glances [k.rc gl] c = .ok (.tup gl) c := by
  refine ⟨?_, ?_, ?_, ?_, ?_, ?_, ?_⟩
  · simp [m_Record_width, fnD, retS, opD, unD, vD, cD, R.bind, ofO, fldF, Kn.rc, Kn.told, ixF, atI, ixN]
  · simp [m_Record_dead, fnD, retS, opD, unD, vD, cD, R.bind, ofO, fldF, Kn.rc, Kn.told, ixF, atI, ixN]
  · simp [m_Record_least, fnD, retS, opD, unD, vD, cD, R.bind, ofO, fldF, Kn.rc, Kn.told, ixF, atI, ixN]
  · simp [m_Record_most, fnD, retS, opD, unD, vD, cD, R.bind, ofO, fldF, Kn.rc, Kn.told, ixF, atI, ixN]
  · simp [m_Record_paces, fnD, retS, opD, unD, vD, cD, R.bind, ofO, fldF, Kn.rc, Kn.told, ixF, atI, ixN]
  · simp [m_Record_groups, fnD, retS, opD, unD, vD, cD, R.bind, ofO, fldF, Kn.rc, Kn.told, ixF, atI, ixN]
  · simp [m_Record_glances, fnD, retS, opD, unD, vD, cD, R.bind, ofO, fldF, Kn.rc, Kn.told, ixF, atI, ixN]
theorem with_in {k : Kn} (h : k.Ok) (gl gl' : List D) (c : Cu) : m_with_glances [k.rc gl, .tup gl'] c = .ok (k.rc gl') c := by
  have e1 := init_in h c
  have e2 := told_in k gl c
  have ec : cutF (k.told gl) none (some 6) = some k.T := by rfl
  have e3 : prD "Record" (noE m_Record_told) (vD 0) (some (k.rc gl) :: some (.tup gl') :: List.replicate 7 none) c = .ok (k.told gl) c := by
    simp only [prD, vD, List.getElem?_cons_zero, R.bind, Kn.rc, if_true]
    simp only [Kn.rc] at e2
    simp only [noE, e2]
  have e4 : slD (prD "Record" (noE m_Record_told) (vD 0)) paN (paS (cD (.int 6))) (some (k.rc gl) :: some (.tup gl') :: List.replicate 7 none) c = .ok k.T c := by
    simp only [slD, e3, R.bind, paN, paS, cD, ec, ofO]
  have e5 : asgS (.tp [(.nm 2), (.nm 3), (.nm 4), (.nm 5), (.nm 6), (.nm 7)]) (slD (prD "Record" (noE m_Record_told) (vD 0)) paN (paS (cD (.int 6)))) (some (k.rc gl) :: some (.tup gl') :: List.replicate 7 none) c = .ok (.nx [some (k.rc gl), some (.tup gl'), some (.int k.n), some (.tup (k.l.map .int)), some (.int k.lo), some (.int k.hi), some (.tup (k.p.map .int)), some (gsT k.gs), none]) c := by
    simp only [asgS, e4, R.bind, Kn.T]
    rfl
  have e6 : ∀ x y, seqS (setS 8 (mkD m_Record_init (fun ds zs => layL [.p 0, .k 0, .k 1, .k 2, .k 3, .k 4] ds [] zs) [(vD 2)] [(vD 3), (vD 4), (vD 5), (vD 6), (vD 7)])) (seqS (fldS "Record" 8 "kept" (tupD [(vD 2), (vD 3), (vD 4), (vD 5), (vD 6), (vD 7), (vD 1)])) (retS (vD 8))) [x, some y, some (.int k.n), some (.tup (k.l.map .int)), some (.int k.lo), some (.int k.hi), some (.tup (k.p.map .int)), some (gsT k.gs), none] c = .ok (.rt (.ins "Record" ["kept"] [.tup [.int k.n, .tup (k.l.map .int), .int k.lo, .int k.hi, .tup (k.p.map .int), gsT k.gs, y]])) c := by
    intro x y
    simp [seqS, R.bind, setS, mkD, aD, vD, layL, Src.at, e1, Kn.rc, fldS, tupD, putI, putP, retS]
  refine fn_rt rfl ?_
  show seqS _ _ (some (k.rc gl) :: some (.tup gl') :: List.replicate 7 none) c = _
  rw [seq_nx e5, e6]
  rfl
theorem seen1_in {k : Kn} (h : k.Ok) {g : Gl} (hg : g.Ok k) {gl : List D} (hl : gl.length < 12) (c : Cu) : m_Record_seen [k.rc gl, .int g.t, .str ⟨g.r.toArray⟩] c = .ok (k.rc (gl ++ [g.D])) c := by
  have e1 := time_in (c := c) hg.t0 hg.t1
  have e2 := reading_in (c := c) hg.len hg.lt
  have e3 := unread_in (c := c) hg.dead
  obtain ⟨a1, a2, _, _, _, a6, a7⟩ := at_k k gl c
  have e4 := with_in h gl (gl ++ [g.D]) c
  have hc : ¬ (12 ≤ (gl.length : Int)) := by omega
  have sz : sizeLine ≥ 1000 := by decide
  have ea : addF (.tup gl) (.tup [g.D]) = some (.tup (gl ++ [g.D])) := by
    simp only [addF]
    rw [if_pos (by simp; omega)]
  simp only [Kn.rc] at a1 a2 a6 a7 e4 ⊢
  simp only [Gl.D] at e4 ea ⊢
  simp [m_Record_seen, fnD, seqS, exS, ifS, notT, trD, tbD, caD, aD, vD, cD, R.bind, prD, noE, e1, e2, e3, a1, a2, a6, a7, ofO, truF, passS, opD, biD, lenF, cmpF, hc, retS, tupD, ea, e4]
theorem sk_ne : ¬ (Str.ofString "seen" = Str.ofString "kept") := by decide +kernel
end L2.G
set_option Elab.async false
set_option linter.all false
set_option maxRecDepth 100000
set_option maxHeartbeats 4000000
namespace L2.G
open PySem PySem.Spec PyProof.Rows L2H
/-! k15 by data -/
def okW (lo hi : Int) : D → Bool
  | .int i => decide (lo ≤ i ∧ i ≤ hi)
  | _ => false
theorem isW_any {d : D} (h : (tyD d).isSome = true) (lo hi : Int) (c : Cu) : m_is_whole [d, .int lo, .int hi] c = .ok (.bl (okW lo hi d)) c := by
  cases d with
  | int i =>
    have e1 : isT "int" (.int i) = some (.bl true) := by rfl
    have e2 : isT "bool" (.int i) = some (.bl false) := by rfl
    by_cases h : lo ≤ i <;> simp [m_is_whole, fnD, retS, andD, unD, chD, vD, R.bind, ofO, e1, e2, notF, cmpF, h, okW]
  | bl b =>
    have e1 : isT "int" (.bl b) = some (.bl true) := by rfl
    have e2 : isT "bool" (.bl b) = some (.bl true) := by rfl
    simp [m_is_whole, fnD, retS, andD, unD, chD, vD, R.bind, ofO, e1, e2, notF, okW]
  | non =>
    have e1 : isT "int" .non = some (.bl false) := by rfl
    simp [m_is_whole, fnD, retS, andD, unD, vD, R.bind, ofO, e1, okW]
  | str z =>
    have e1 : isT "int" (.str z) = some (.bl false) := by rfl
    simp [m_is_whole, fnD, retS, andD, unD, vD, R.bind, ofO, e1, okW]
  | tup ds =>
    have e1 : isT "int" (.tup ds) = some (.bl false) := by rfl
    simp [m_is_whole, fnD, retS, andD, unD, vD, R.bind, ofO, e1, okW]
  | lst ds =>
    have e1 : isT "int" (.lst ds) = some (.bl false) := by rfl
    simp [m_is_whole, fnD, retS, andD, unD, vD, R.bind, ofO, e1, okW]
  | dic =>
    have e1 : isT "int" .dic = some (.bl false) := by rfl
    simp [m_is_whole, fnD, retS, andD, unD, vD, R.bind, ofO, e1, okW]
  | ins _ _ _ => cases h
  | cup => cases h
  | scr _ => cases h
def isS : D → Bool
  | .str _ => true
  | _ => false
theorem isT_str {d : D} (h : (tyD d).isSome = true) : isT "str" d = some (.bl (isS d)) := by
  cases d with
  | ins _ _ _ => cases h
  | cup => cases h
  | scr _ => cases h
  | _ => rfl
theorem all_map (l : List Nat) (p : Nat → Bool) : allF [.lst (l.map fun x => D.bl (p x))] = some (.bl (l.all p)) := by
  have : (l.map fun x => D.bl (p x)) = (l.map p).map D.bl := by rw [List.map_map]; rfl
  rw [this, allF, blsOf_map, Option.map_some, List.all_map]
  rfl
theorem time_any {d : D} (h : (tyD d).isSome = true) (c : Cu) : m_check_time [d] c = if okW 0 1000000000000000000000000000000 d = true then .ok .non c else .er ⟨"InvalidTime", ["given"], [d]⟩ c := by
  have e := isW_any h 0 1000000000000000000000000000000 c
  cases b : okW 0 1000000000000000000000000000000 d <;> simp [m_check_time, m_is_time, fnD, retS, ifS, notT, trD, vD, cD, R.bind, ofO, truF, passS, caD, aD, e, b, raS]
theorem place_any {d : D} (h : (tyD d).isSome = true) (n : Int) (c : Cu) : m_check_place [d, .int n] c = if okW 0 (n - 1) d = true then .ok .non c else .er ⟨"InvalidPlace", ["given"], [d]⟩ c := by
  have e := isW_any h 0 (n - 1) c
  cases b : okW 0 (n - 1) d <;> simp [m_check_place, fnD, retS, ifS, notT, trD, vD, cD, opD, intF, R.bind, ofO, truF, passS, caD, aD, e, b, raS]
def okR (n : Nat) (gs : List (List Nat)) (d : D) : Bool := match d with
  | .str z => decide (z.length = n) && z.cps.toList.all fun x => !(letL x gs).isEmpty
  | _ => false
theorem rd_any {d : D} (h : (tyD d).isSome = true) (n : Nat) (gs : List (List Nat)) (c : Cu) : m_check_window [d, .int n, gsT gs] c = if okR n gs d = true then .ok .non c else .er ⟨"InvalidWindow", ["given"], [d]⟩ c := by
  have e1 := isT_str h
  have e4 : m_is_reading [d, .int n, gsT gs] c = .ok (.bl (okR n gs d)) c := by
    cases d with
    | str z =>
      have e2 := lcP_in (c := c) (t := .nm 3) (ws := [3]) (elt := opD (eqF true) (caD m_letters_for [vD 3, vD 2]) (cD (.str ""))) (st := [some (.str z), some (.int n), some (gsT gs), none]) (f := fun d => match d with | .str y => .bl (match y.cps.toList with | [x] => !(letL x gs).isEmpty | _ => false) | d => d) (z.cps.toList.map chS) (by
        intro x hx
        obtain ⟨y, hy, rfl⟩ := List.mem_map.mp hx
        refine ⟨_, rfl, ?_⟩
        have q : (decide ((⟨(letL y gs).toArray⟩ : Str) = ⟨#[]⟩)) = (letL y gs).isEmpty := by
          cases letL y gs <;> simp
        simp only [opD, caD, aD, vD, cD, R.bind, wipeD, chS, ofO, eqStr, chr_0]
        simp [let_in, R.bind, eqStr, chr_0]
        cases letL y gs <;> simp)
      have e3 := all_map z.cps.toList fun x => !(letL x gs).isEmpty
      have e2' : (z.cps.toList.map chS).map (fun d : D => match d with | .str y => D.bl (match y.cps.toList with | [x] => !(letL x gs).isEmpty | _ => false) | d => d) = z.cps.toList.map fun x => D.bl (!(letL x gs).isEmpty) := by
        rw [List.map_map]
        rfl
      rw [e2'] at e2
      by_cases hl : z.length = n
      · have hl' : ((z.length : Nat) : Int) = (n : Int) := by omega
        simp [m_is_reading, fnD, seqS, ifS, orT, notT, trD, tbD, unD, vD, cD, R.bind, ofO, e1, isS, truF, biD, aD, lenF, opD, eqInt, hl', passS, retS, lcD, itS, e2, e3, okR, hl]
      · have hl' : ¬ ((z.length : Nat) : Int) = (n : Int) := by omega
        simp [m_is_reading, fnD, seqS, ifS, orT, notT, trD, tbD, unD, vD, cD, R.bind, ofO, e1, isS, truF, biD, aD, lenF, opD, eqInt, hl', retS, okR, hl]
    | ins _ _ _ => cases h
    | cup => cases h
    | scr _ => cases h
    | _ => simp [m_is_reading, fnD, seqS, ifS, orT, notT, trD, unD, vD, cD, R.bind, ofO, e1, isS, truF, retS, okR]
  cases b : okR n gs d <;> simp [m_check_window, fnD, ifS, notT, trD, caD, aD, vD, R.bind, e4, b, ofO, truF, passS, raS]
theorem isC_no {d : D} (h : (tyD d).isSome = true) : isC "Record" d = some (.bl false) := by
  cases d with
  | ins _ _ _ => cases h
  | cup => cases h
  | scr _ => cases h
  | _ => rfl
theorem cr_er {d : D} (h : (tyD d).isSome = true) (c : Cu) : m_check_record [d] c = .er ⟨"NotARecord", ["given"], [d]⟩ c := by
  have e := isC_no h
  simp [m_check_record, fnD, ifS, notT, trD, unD, vD, R.bind, ofO, e, truF, raS, aD]
theorem cr_ok (k : Kn) (gl : List D) (c : Cu) : m_check_record [k.rc gl] c = .ok .non c := by
  have e : isC "Record" (k.rc gl) = some (.bl true) := by simp [isC, Kn.rc]
  simp [m_check_record, fnD, ifS, notT, trD, unD, vD, R.bind, ofO, e, truF, passS]
theorem fnD_er {k n : Nat} {f : PM Fl} {ds : List D} {c c' : Cu} {x : Xc} (hk : ds.length = k) (h : f (ds.map some ++ List.replicate (n - k) none) c = .er x c') : fnD k n f ds c = .er x c' := by
  simp only [fnD, hk, if_true, h, R.bind]
/-- the four functions where the record is refused -/
theorem rec_er {d x y : D} (h : (tyD d).isSome = true) (c : Cu) : m_letters [d, x, y] c = .er ⟨"NotARecord", ["given"], [d]⟩ c ∧ m_sure [d, x] c = .er ⟨"NotARecord", ["given"], [d]⟩ c ∧ m_can [d, x, y] c = .er ⟨"NotARecord", ["given"], [d]⟩ c ∧ m_must [d, x, y] c = .er ⟨"NotARecord", ["given"], [d]⟩ c := by
  have e := cr_er h c
  refine ⟨?_, ?_, ?_, ?_⟩
  · simp [m_letters, fnD, seqS, exS, caD, aD, vD, R.bind, e]
  · simp [m_sure, fnD, seqS, exS, caD, aD, vD, R.bind, e]
  · simp [m_can, fnD, seqS, exS, caD, aD, vD, R.bind, e]
  · simp [m_must, fnD, seqS, exS, caD, aD, vD, R.bind, e]
/-- where the time is refused -/
theorem tm_er {k : Kn} {gl : List D} {x y : D} (h : (tyD x).isSome = true) (hn : okW 0 1000000000000000000000000000000 x = false) (c : Cu) : m_letters [k.rc gl, x, y] c = .er ⟨"InvalidTime", ["given"], [x]⟩ c ∧ m_sure [k.rc gl, x] c = .er ⟨"InvalidTime", ["given"], [x]⟩ c ∧ m_can [k.rc gl, x, y] c = .er ⟨"InvalidTime", ["given"], [x]⟩ c ∧ m_must [k.rc gl, x, y] c = .er ⟨"InvalidTime", ["given"], [x]⟩ c := by
  have e := cr_ok k gl c
  have e2 := time_any h c
  refine ⟨?_, ?_, ?_, ?_⟩
  · simp [m_letters, fnD, seqS, exS, caD, aD, vD, R.bind, e, e2, hn]
  · simp [m_sure, fnD, seqS, exS, caD, aD, vD, R.bind, e, e2, hn]
  · simp [m_can, fnD, seqS, exS, caD, aD, vD, R.bind, e, e2, hn]
  · simp [m_must, fnD, seqS, exS, caD, aD, vD, R.bind, e, e2, hn]
theorem pl_er {k : Kn} {gl : List D} {y : D} {t : Int} (ht : 0 ≤ t ∧ t ≤ 1000000000000000000000000000000) (h : (tyD y).isSome = true) (hn : okW 0 (k.n - 1) y = false) (c : Cu) : m_letters [k.rc gl, .int t, y] c = .er ⟨"InvalidPlace", ["given"], [y]⟩ c := by
  have e := cr_ok k gl c
  have e2 := time_in (c := c) ht.1 ht.2
  have e3 := place_any h k.n c
  have p : ∀ st c, st[0]? = some (some (k.rc gl)) → prD "Record" (noE m_Record_width) (vD 0) st c = .ok (.int k.n) c := fun st c hs => pr_ok (ns := ["kept"]) (ds := [k.told gl]) (c1 := c) (by simp only [vD, hs]; rfl) (noE_ok (at_k k gl c).1)
  refine (fnD_er (k := 3) (n := 3) rfl ?_)
  show seqS _ _ [some (k.rc gl), some (.int t), some y] c = _
  rw [seq_nx (ex_ok (ca_ok (c1 := c) (ds := [k.rc gl]) rfl e)), seq_nx (ex_ok (ca_ok (c1 := c) (ds := [.int t]) rfl e2))]
  have a1 : aD [(vD 2), (prD "Record" (noE m_Record_width) (vD 0))] [some (k.rc gl), some (.int t), some y] c = .ok [y, .int k.n] c := by
    simp only [aD, p [some (k.rc gl), some (.int t), some y] c rfl, R.bind]
    rfl
  simp only [seqS, exS, caD, a1, R.bind, e3, hn]
  simp
theorem wd_er {k : Kn} {gl : List D} {y : D} {t : Int} {n : Nat} (hkn : k.n = n) (ht : 0 ≤ t ∧ t ≤ 1000000000000000000000000000000) (h : (tyD y).isSome = true) (hn : okR n k.gs y = false) (c : Cu) : m_can [k.rc gl, .int t, y] c = .er ⟨"InvalidWindow", ["given"], [y]⟩ c ∧ m_must [k.rc gl, .int t, y] c = .er ⟨"InvalidWindow", ["given"], [y]⟩ c := by
  have e := cr_ok k gl c
  have e2 := time_in (c := c) ht.1 ht.2
  have e3 := rd_any h n k.gs c
  have p : ∀ st c, st[0]? = some (some (k.rc gl)) → prD "Record" (noE m_Record_width) (vD 0) st c = .ok (.int n) c := fun st c hs => pr_ok (ns := ["kept"]) (ds := [k.told gl]) (c1 := c) (by simp only [vD, hs]; rfl) (noE_ok (by rw [← hkn]; exact (at_k k gl c).1))
  have p2 : ∀ st c, st[0]? = some (some (k.rc gl)) → prD "Record" (noE m_Record_groups) (vD 0) st c = .ok (gsT k.gs) c := fun st c hs => pr_ok (ns := ["kept"]) (ds := [k.told gl]) (c1 := c) (by simp only [vD, hs]; rfl) (noE_ok (at_k k gl c).2.2.2.2.2.1)
  have a1 : ∀ st c, st[0]? = some (some (k.rc gl)) → st[2]? = some (some y) → aD [(vD 2), (prD "Record" (noE m_Record_width) (vD 0)), (prD "Record" (noE m_Record_groups) (vD 0))] st c = .ok [y, .int n, gsT k.gs] c := fun st c h0 h2 => by
    have v2 : vD 2 st c = .ok y c := by simp only [vD, h2]
    simp only [aD, v2, p _ c h0, p2 _ c h0, R.bind]
  constructor
  · refine (fnD_er (k := 3) (n := 4) rfl ?_)
    show seqS _ _ [some (k.rc gl), some (.int t), some y, none] c = _
    rw [seq_nx (ex_ok (ca_ok (c1 := c) (ds := [k.rc gl]) rfl e)), seq_nx (ex_ok (ca_ok (c1 := c) (ds := [.int t]) rfl e2))]
    simp only [seqS, exS, caD, a1 [some (k.rc gl), some (.int t), some y, none] c rfl rfl, R.bind, e3, hn]
    simp
  · refine (fnD_er (k := 3) (n := 5) rfl ?_)
    show seqS _ _ [some (k.rc gl), some (.int t), some y, none, none] c = _
    rw [seq_nx (ex_ok (ca_ok (c1 := c) (ds := [k.rc gl]) rfl e)), seq_nx (ex_ok (ca_ok (c1 := c) (ds := [.int t]) rfl e2))]
    simp only [seqS, exS, caD, a1 [some (k.rc gl), some (.int t), some y, none, none] c rfl rfl, R.bind, e3, hn]
    simp
end L2.G
set_option Elab.async false
set_option linter.all false
set_option maxRecDepth 100000
set_option maxHeartbeats 4000000
namespace L2.G
open PySem PySem.Spec PyProof.Rows L2H
/-! what is caught, by data: the common steps -/
def plD (d : D) : Bool := (tyD d).isSome && shwOk d
theorem pl_of {d : D} (h : plD d = true) : (tyD d).isSome = true ∧ shwOk d = true := by simpa [plD] using h
def toldD (i : Int) (d : D) : D := .lst [.int i, .int 30, .int 33, .str (shwD d)]
theorem cau_er {me : PM D} {st : PSt} {c c' : Cu} {C : Str} {i : Nat} {d : D} (e : me st c = .er ⟨C, ["given"], [d]⟩ c') (t : errTab C = some (i, [30, 33])) (f : fldOf i = "given") (s : shwOk d = true) : cauD errTab me st c = .ok (toldD i d) c' := by
  simp [cauD, e, t, f, s, toldD]
theorem cau_ok {me : PM D} {st : PSt} {c c' : Cu} {d : D} (e : me st c = .ok d c') : cauD errTab me st c = .ok (.lst [.str "given", d]) c' := by
  simp [cauD, e]
theorem okD_rep {x : D} (h : okD 4 x = true) (n : Nat) : okD 60 (.lst (List.replicate n x)) = true := by
  rw [show (60 : Nat) = 59 + 1 from rfl, okD_lst, List.all_eq_true]
  intro y hy
  rw [List.mem_replicate] at hy
  rw [hy.2]
  exact okD_mono 4 59 _ (by decide) h
theorem neN {x : D} (n : Nat) (h : okD 4 x = true) : eqF true (.lst (List.replicate n x)) (.lst (List.replicate n x)) = some (.bl false) := by
  simp [eqF, okD_rep h, eqD_rf]
theorem eqN {x : D} (n : Nat) (h : okD 4 x = true) : eqF false (.lst (List.replicate n x)) (.lst (List.replicate n x)) = some (.bl true) := by
  simp [eqF, okD_rep h, eqD_rf]
theorem mul_1 (n : Nat) (hn : n ≤ 1000) (x : D) : mulF (.lst [x]) (.int n) = some (.lst (List.replicate n x)) := by
  simp only [mulF]
  rw [if_pos (by rw [sizeLine_eq]; simp; omega)]
  simp
theorem told4 (i : Int) (d : D) : okD 4 (toldD i d) = true := rfl
theorem c0 (d : D) (st : PSt) (c : Cu) : cD d st c = .ok d c := rfl
theorem pass0 (st : PSt) (c : Cu) : passS st c = .ok (.nx st) c := rfl
theorem tellD {i : Int} {k : Nat} {d : D} {st : PSt} {c : Cu} (hv : vD k st c = .ok d c) (s : shwOk d = true) : lstD [(cD (.int i)), (cD (.int 30)), (cD (.int 33)), (biD reprF [(vD k)])] st c = .ok (toldD i d) c := by
  have r : reprF [d] = some (.str (shwD d)) := by simp only [reprF, s, if_true]
  have e := bi1_ok hv r
  simp only [lstD, aD, c0, R.bind, e]
  rfl
theorem l1_ok {m : PM D} {st : PSt} {c c' : Cu} {d : D} (h : m st c = .ok d c') : lstD [m] st c = .ok (.lst [d]) c' := by
  simp only [lstD, aD, h, R.bind]
theorem app_ok {i : Nat} {m : PM D} {st : PSt} {c c' : Cu} {ds : List D} {d : D} (hs : st[i]? = some (some (.lst ds))) (h : m st c = .ok d c') (hl : ds.length < 1000) : appS i m st c = .ok (.nx (st.set i (some (.lst (ds ++ [d]))))) c' := by
  have sz := sizeLine_eq
  unfold appS
  rw [hs]
  simp only [h, R.bind]
  rw [if_pos (by omega)]
theorem p30 : powF (.int 10) (.int 30) = some (.int (10 ^ 30)) := by
  simp only [powF]
  rw [if_pos (by decide)]
  rfl
theorem ca_er {m : Fd} {ms : List (PM D)} {st : PSt} {c c1 c' : Cu} {ds : List D} {x : Xc} (h : aD ms st c = .ok ds c1) (h2 : m ds c1 = .er x c') : caD m ms st c = .er x c' := by
  simp only [caD, h, R.bind, h2]
theorem sta_er {m : Fd} {ls : List Src} {ms : List (PM D)} {st : PSt} {c c1 c' : Cu} {zs ds : List D} {x : Xc} (h : aD ms st c = .ok zs c1) (hl : layL ls ([] : List D) [] zs = ds) (h2 : m ds c1 = .er x c') : staKD m ls ms st c = .er x c' := by
  subst hl
  simp only [staKD, h, R.bind, h2]
theorem sta_ok {m : Fd} {ls : List Src} {ms : List (PM D)} {st : PSt} {c c1 c' : Cu} {zs ds : List D} {d : D} (h : aD ms st c = .ok zs c1) (hl : layL ls ([] : List D) [] zs = ds) (h2 : m ds c1 = .ok d c') : staKD m ls ms st c = .ok d c' := by
  subst hl
  simp only [staKD, h, R.bind, h2]
/-- the row that is told, as often as asked: the test is false -/
theorem all_told {i : Int} {n k q : Nat} {d : D} {st : PSt} {c : Cu} (hs : vD q st c = .ok (.lst (List.replicate n (toldD i d))) c) (hk : vD k st c = .ok d c) (s : shwOk d = true) (hn : n ≤ 1000) : ifS (tbD (opD (eqF true) (vD q) (opD mulF (lstD [(lstD [(cD (.int i)), (cD (.int 30)), (cD (.int 33)), (biD reprF [(vD k)])])]) (cD (.int n))))) (retS (cD (.bl false))) passS st c = .ok (.nx st) c :=
  (if_no (tb_ok (op_ok hs (op_ok (l1_ok (tellD hk s)) (c0 _ _ _) (mul_1 n hn _)) (neN n (told4 _ _))))).trans (pass0 _ _)
end L2.G
set_option Elab.async false
set_option linter.all false
set_option maxRecDepth 100000
set_option maxHeartbeats 8000000
namespace L2.G
open PySem PySem.Spec PyProof.Rows L2H
def K0 : Kn := ⟨3, [1], 1, 20, [1], [[111, 99]]⟩
def G0 : Gl := ⟨0, [97, 63, 98]⟩
def MINE : D := K0.rc [G0.D]
theorem K0_ok : K0.Ok := ⟨by decide, by decide, ⟨by decide, by decide, trivial⟩, by decide, by decide, by decide, ⟨by decide, by decide, trivial⟩, by decide, ⟨⟨by decide, by decide, by decide +kernel⟩, trivial⟩⟩
theorem G0_ok : G0.Ok K0 := ⟨by decide, by decide, by decide, by decide +kernel, by decide +kernel⟩
def BDL : List D := [.non, .int 3, .tup [], K0.told [G0.D], .lst [], .dic, .bl true, .str "ab at 1"]
def ATL : List D := [.int (-1), .non, .bl true, .str "3", .tup [.int 3], .lst [], .dic, .int (10 ^ 30 + 1)]
def JL : List D := [.int (-1), .int 3, .non, .bl true, .str "0", .tup [.int 0], .lst [], .dic]
def WL : List D := [.non, .str "ab", .str "abcd", .str "", .str "A??", .str "1??", .tup [.str "a", .str "b", .str "c"], .lst [], .dic, .str "a b", .int 3, .str "??i ", .str "??X"]
theorem BDL_ok : BDL.all plD = true := by decide +kernel
theorem ATL_ok : ATL.all (fun d => plD d && !(okW 0 1000000000000000000000000000000 d)) = true := by decide +kernel
theorem JL_ok : JL.all (fun d => plD d && !(okW 0 (K0.n - 1) d)) = true := by decide +kernel
theorem WL_ok : WL.all (fun d => plD d && !(okR 3 K0.gs d)) = true := by decide +kernel
theorem et0 : errTab "NotARecord" = some (1, [30, 33]) ∧ errTab "InvalidTime" = some (7, [30, 33]) ∧ errTab "InvalidPlace" = some (5, [30, 33]) ∧ errTab "InvalidWindow" = some (8, [30, 33]) := by decide +kernel
theorem fo0 : fldOf 1 = "given" ∧ fldOf 7 = "given" ∧ fldOf 5 = "given" ∧ fldOf 8 = "given" := by decide +kernel
theorem init3 (c : Cu) : m_Record_init [.int 3, .tup [.int 1], .int 1, .int 20, .tup [.int 1], .tup [.str "oc"]] c = .ok (K0.rc []) c := by
  have e : (Str.ofString "oc" : Str) = ⟨#[111, 99]⟩ := by decide +kernel
  rw [e]
  exact init_in K0_ok c
theorem seen3 (c : Cu) : m_Record_seen [K0.rc [], .int 0, .str "a?b"] c = .ok MINE c := by
  have e : (Str.ofString "a?b" : Str) = ⟨#[97, 63, 98]⟩ := by decide +kernel
  rw [e]
  exact seen1_in K0_ok G0_ok (gl := []) (by decide) c
theorem right_in {c : Cu} (hc : CuOk c) : ∃ c', m_l_right [.cup] c = .ok (.bl true) c' := by
  let Q : R Fl → Prop := fun r => ∃ c', r = .ok (.rt (.bl true)) c'
  suffices h : Q _ from by
    obtain ⟨c', e⟩ := h
    exact ⟨c', noE_ok (fn_rt rfl e)⟩
  have sz := sizeLine_eq
  obtain ⟨x1, x7, x5, x8⟩ := et0
  obtain ⟨y1, y7, y5, y8⟩ := fo0
  have tm4 : (0 : Int) ≤ 4 ∧ (4 : Int) ≤ 1000000000000000000000000000000 := by decide
  show Q (seqS _ _ [some .cup, none, none, none, none, none, none, none] c)
  refine step_seq Q (st1 := [some .cup, some MINE, none, none, none, none, none, none]) (c1 := c) (by
    refine (set_ok (d := MINE) (c' := c) ?_).trans rfl
    have i1 := init3 c
    have i2 := seen3 c
    simp only [meD, mkD, aD, cD, tupD, R.bind, layL, Src.at, List.map, List.append, i1]
    simp only [Kn.rc] at i2 i1 ⊢
    simp [i1, R.bind, Src.at]
    rw [if_neg sk_ne]
    exact i2) ?_
  let Inv : Nat → PSt → Cu → Prop := fun j st c => CuOk c ∧ ∃ (a b d e f g : Option D), st = [some .cup, some MINE, a, b, d, e, f, g]
  refine for_seq Q Inv (c1 := c) (items := rgD 0 6) (by simp [itR1, cD, R.bind]) ⟨hc, _, _, _, _, _, _, rfl⟩ ?_ ?_
  · rintro j x hx st c ⟨hc, a, b, d, e, f, g, rfl⟩
    refine ⟨_, rfl, ?_⟩
    let Pq : R Fl → Prop := fun r => ∃ st' c', r = .ok (.nx st') c' ∧ Inv (j + 1) st' c'
    show Pq (seqS _ _ [some .cup, some MINE, some x, b, d, e, f, g] c)
    obtain ⟨bd, hbd, c1, e1, hc1⟩ := pick_in (ds := BDL) hc (by decide) (by decide)
    obtain ⟨at_, hat, c2, e2, hc2⟩ := pick_in (ds := ATL) hc1 (by decide) (by decide)
    obtain ⟨jj, hjj, c3, e3, hc3⟩ := pick_in (ds := JL) hc2 (by decide) (by decide)
    obtain ⟨wd, hwd, c4, e4, hc4⟩ := pick_in (ds := WL) hc3 (by decide) (by decide)
    have pb := List.all_eq_true.mp BDL_ok bd hbd
    have pa := List.all_eq_true.mp ATL_ok at_ hat
    have pj := List.all_eq_true.mp JL_ok jj hjj
    have pw := List.all_eq_true.mp WL_ok wd hwd
    simp only [Bool.and_eq_true, Bool.not_eq_true'] at pa pj pw
    obtain ⟨tb, sb⟩ := pl_of pb
    obtain ⟨ta, sa⟩ := pl_of pa.1
    obtain ⟨tj, sj⟩ := pl_of pj.1
    obtain ⟨tw, sw⟩ := pl_of pw.1
    refine step_seq Pq (st1 := [some .cup, some MINE, some x, some bd, d, e, f, g]) (c1 := c1) ((set_ok (ca_ok (c1 := c) (ds := [.cup, .lst BDL]) (by
      have pt : prD "Record" (noE m_Record_told) (vD 1) [some .cup, some MINE, some x, b, d, e, f, g] c = .ok (K0.told [G0.D]) c := pr_ok (ns := ["kept"]) (ds := [K0.told [G0.D]]) (c1 := c) rfl (noE_ok (told_in K0 [G0.D] c))
      simp only [aD, lstD, cD, tupD, pt, R.bind]
      rfl) e1)).trans rfl) ?_
    refine step_seq Pq (st1 := [some .cup, some MINE, some x, some bd, some at_, e, f, g]) (c1 := c2) ((set_ok (ca_ok (c1 := c1) (ds := [.cup, .lst ATL]) (by simp only [aD, lstD, opD, cD, tupD, unD, negF, R.bind, ofO, p30, addF]; rfl) e2)).trans rfl) ?_
    refine step_seq Pq (st1 := [some .cup, some MINE, some x, some bd, some at_, some jj, f, g]) (c1 := c3) ((set_ok (ca_ok (c1 := c2) (ds := [.cup, .lst JL]) (by simp only [aD, lstD, opD, cD, tupD, unD, negF, R.bind, ofO]; rfl) e3)).trans rfl) ?_
    refine step_seq Pq (st1 := [some .cup, some MINE, some x, some bd, some at_, some jj, some wd, g]) (c1 := c4) ((set_ok (ca_ok (c1 := c3) (ds := [.cup, .lst WL]) (by simp only [aD, lstD, opD, cD, tupD, unD, negF, R.bind, ofO]; rfl) e4)).trans rfl) ?_
    refine step_seq Pq (st1 := [some .cup, some MINE, some x, some bd, some at_, some jj, some wd, some (.lst (List.replicate 1 (toldD 1 bd)))]) (c1 := c4) ((set_ok (l1_ok (cau_er (i := 1) (ca_er (st := [some .cup, some MINE, some x, some bd, some at_, some jj, some wd, g]) (c := c4) (c1 := c4) (ds := [bd, at_, jj]) rfl ((rec_er tb c4).1)) x1 y1 sb))).trans rfl) ?_
    refine step_seq Pq (st1 := [some .cup, some MINE, some x, some bd, some at_, some jj, some wd, some (.lst (List.replicate 2 (toldD 1 bd)))]) (c1 := c4) ((app_ok (i := 7) (ds := List.replicate 1 (toldD 1 bd)) rfl (cau_er (i := 1) (ca_er (st := [some .cup, some MINE, some x, some bd, some at_, some jj, some wd, some (.lst (List.replicate 1 (toldD 1 bd)))]) (c := c4) (c1 := c4) (ds := [bd, at_]) rfl ((rec_er (y := .non) tb c4).2.1)) x1 y1 sb) (by simp)).trans rfl) ?_
    refine step_seq Pq (st1 := [some .cup, some MINE, some x, some bd, some at_, some jj, some wd, some (.lst (List.replicate 3 (toldD 1 bd)))]) (c1 := c4) ((app_ok (i := 7) (ds := List.replicate 2 (toldD 1 bd)) rfl (cau_er (i := 1) (ca_er (st := [some .cup, some MINE, some x, some bd, some at_, some jj, some wd, some (.lst (List.replicate 2 (toldD 1 bd)))]) (c := c4) (c1 := c4) (ds := [bd, at_, wd]) rfl ((rec_er tb c4).2.2.1)) x1 y1 sb) (by simp)).trans rfl) ?_
    refine step_seq Pq (st1 := [some .cup, some MINE, some x, some bd, some at_, some jj, some wd, some (.lst (List.replicate 4 (toldD 1 bd)))]) (c1 := c4) ((app_ok (i := 7) (ds := List.replicate 3 (toldD 1 bd)) rfl (cau_er (i := 1) (sta_er (st := [some .cup, some MINE, some x, some bd, some at_, some jj, some wd, some (.lst (List.replicate 3 (toldD 1 bd)))]) (c := c4) (c1 := c4) (zs := [wd, at_, bd]) (ds := [bd, at_, wd]) rfl rfl ((rec_er tb c4).2.2.2)) x1 y1 sb) (by simp)).trans rfl) ?_
    refine step_seq Pq (st1 := [some .cup, some MINE, some x, some bd, some at_, some jj, some wd, some (.lst (List.replicate 4 (toldD 1 bd)))]) (c1 := c4) (all_told (n := 4) (i := 1) (d := bd) (k := 3) (q := 7) (st := [some .cup, some MINE, some x, some bd, some at_, some jj, some wd, some (.lst (List.replicate 4 (toldD 1 bd)))]) (c := c4) rfl rfl sb (by decide)) ?_
    refine step_seq Pq (st1 := [some .cup, some MINE, some x, some bd, some at_, some jj, some wd, some (.lst (List.replicate 1 (toldD 7 at_)))]) (c1 := c4) ((set_ok (l1_ok (cau_er (i := 7) (ca_er (st := [some .cup, some MINE, some x, some bd, some at_, some jj, some wd, some (.lst (List.replicate 4 (toldD 1 bd)))]) (c := c4) (c1 := c4) (ds := [MINE, at_, jj]) rfl ((tm_er ta pa.2 c4).1)) x7 y7 sa))).trans rfl) ?_
    refine step_seq Pq (st1 := [some .cup, some MINE, some x, some bd, some at_, some jj, some wd, some (.lst (List.replicate 2 (toldD 7 at_)))]) (c1 := c4) ((app_ok (i := 7) (ds := List.replicate 1 (toldD 7 at_)) rfl (cau_er (i := 7) (sta_er (st := [some .cup, some MINE, some x, some bd, some at_, some jj, some wd, some (.lst (List.replicate 1 (toldD 7 at_)))]) (c := c4) (c1 := c4) (zs := [at_, MINE]) (ds := [MINE, at_]) rfl rfl ((tm_er (y := .non) ta pa.2 c4).2.1)) x7 y7 sa) (by simp)).trans rfl) ?_
    refine step_seq Pq (st1 := [some .cup, some MINE, some x, some bd, some at_, some jj, some wd, some (.lst (List.replicate 3 (toldD 7 at_)))]) (c1 := c4) ((app_ok (i := 7) (ds := List.replicate 2 (toldD 7 at_)) rfl (cau_er (i := 7) (ca_er (st := [some .cup, some MINE, some x, some bd, some at_, some jj, some wd, some (.lst (List.replicate 2 (toldD 7 at_)))]) (c := c4) (c1 := c4) (ds := [MINE, at_, wd]) rfl ((tm_er ta pa.2 c4).2.2.1)) x7 y7 sa) (by simp)).trans rfl) ?_
    refine step_seq Pq (st1 := [some .cup, some MINE, some x, some bd, some at_, some jj, some wd, some (.lst (List.replicate 4 (toldD 7 at_)))]) (c1 := c4) ((app_ok (i := 7) (ds := List.replicate 3 (toldD 7 at_)) rfl (cau_er (i := 7) (ca_er (st := [some .cup, some MINE, some x, some bd, some at_, some jj, some wd, some (.lst (List.replicate 3 (toldD 7 at_)))]) (c := c4) (c1 := c4) (ds := [MINE, at_, wd]) rfl ((tm_er ta pa.2 c4).2.2.2)) x7 y7 sa) (by simp)).trans rfl) ?_
    refine step_seq Pq (st1 := [some .cup, some MINE, some x, some bd, some at_, some jj, some wd, some (.lst (List.replicate 4 (toldD 7 at_)))]) (c1 := c4) (all_told (n := 4) (i := 7) (d := at_) (k := 4) (q := 7) (st := [some .cup, some MINE, some x, some bd, some at_, some jj, some wd, some (.lst (List.replicate 4 (toldD 7 at_)))]) (c := c4) rfl rfl sa (by decide)) ?_
    refine step_seq Pq (st1 := [some .cup, some MINE, some x, some bd, some at_, some jj, some wd, some (.lst (List.replicate 1 (toldD 5 jj)))]) (c1 := c4) ((set_ok (l1_ok (cau_er (i := 5) (ca_er (st := [some .cup, some MINE, some x, some bd, some at_, some jj, some wd, some (.lst (List.replicate 4 (toldD 7 at_)))]) (c := c4) (c1 := c4) (ds := [MINE, .int 4, jj]) rfl (pl_er tm4 tj pj.2 c4)) x5 y5 sj))).trans rfl) ?_
    refine step_seq Pq (st1 := [some .cup, some MINE, some x, some bd, some at_, some jj, some wd, some (.lst (List.replicate 2 (toldD 5 jj)))]) (c1 := c4) ((app_ok (i := 7) (ds := List.replicate 1 (toldD 5 jj)) rfl (cau_er (i := 5) (sta_er (st := [some .cup, some MINE, some x, some bd, some at_, some jj, some wd, some (.lst (List.replicate 1 (toldD 5 jj)))]) (c := c4) (c1 := c4) (zs := [jj, .int 4, MINE]) (ds := [MINE, .int 4, jj]) rfl rfl (pl_er tm4 tj pj.2 c4)) x5 y5 sj) (by simp)).trans rfl) ?_
    refine step_seq Pq (st1 := [some .cup, some MINE, some x, some bd, some at_, some jj, some wd, some (.lst (List.replicate 2 (toldD 5 jj)))]) (c1 := c4) (all_told (n := 2) (i := 5) (d := jj) (k := 5) (q := 7) (st := [some .cup, some MINE, some x, some bd, some at_, some jj, some wd, some (.lst (List.replicate 2 (toldD 5 jj)))]) (c := c4) rfl rfl sj (by decide)) ?_
    refine step_seq Pq (st1 := [some .cup, some MINE, some x, some bd, some at_, some jj, some wd, some (.lst (List.replicate 1 (toldD 8 wd)))]) (c1 := c4) ((set_ok (l1_ok (cau_er (i := 8) (ca_er (st := [some .cup, some MINE, some x, some bd, some at_, some jj, some wd, some (.lst (List.replicate 2 (toldD 5 jj)))]) (c := c4) (c1 := c4) (ds := [MINE, .int 4, wd]) rfl ((wd_er (n := 3) rfl tm4 tw pw.2 c4).1)) x8 y8 sw))).trans rfl) ?_
    refine step_seq Pq (st1 := [some .cup, some MINE, some x, some bd, some at_, some jj, some wd, some (.lst (List.replicate 2 (toldD 8 wd)))]) (c1 := c4) ((app_ok (i := 7) (ds := List.replicate 1 (toldD 8 wd)) rfl (cau_er (i := 8) (ca_er (st := [some .cup, some MINE, some x, some bd, some at_, some jj, some wd, some (.lst (List.replicate 1 (toldD 8 wd)))]) (c := c4) (c1 := c4) (ds := [MINE, .int 4, wd]) rfl ((wd_er (n := 3) rfl tm4 tw pw.2 c4).2)) x8 y8 sw) (by simp)).trans rfl) ?_
    refine step_seq Pq (st1 := [some .cup, some MINE, some x, some bd, some at_, some jj, some wd, some (.lst (List.replicate 3 (toldD 8 wd)))]) (c1 := c4) ((app_ok (i := 7) (ds := List.replicate 2 (toldD 8 wd)) rfl (cau_er (i := 8) (sta_er (st := [some .cup, some MINE, some x, some bd, some at_, some jj, some wd, some (.lst (List.replicate 2 (toldD 8 wd)))]) (c := c4) (c1 := c4) (zs := [wd, .int 4, MINE]) (ds := [MINE, .int 4, wd]) rfl rfl ((wd_er (n := 3) rfl tm4 tw pw.2 c4).1)) x8 y8 sw) (by simp)).trans rfl) ?_
    exact ⟨_, c4, all_told (n := 3) (i := 8) (d := wd) (k := 6) (q := 7) (st := [some .cup, some MINE, some x, some bd, some at_, some jj, some wd, some (.lst (List.replicate 3 (toldD 8 wd)))]) (c := c4) rfl rfl sw (by decide), hc4, _, _, _, _, _, _, rfl⟩
  · rintro st c ⟨hc, a, b, d, e, f, g, rfl⟩
    exact ⟨c, rfl⟩
end L2.G
set_option Elab.async false
set_option linter.all false
set_option maxRecDepth 100000
set_option maxHeartbeats 8000000
namespace L2.G
open PySem PySem.Spec PyProof.Rows L2H
def K1 : Kn := ⟨2, [], 1, 20, [1], [[111, 99]]⟩
theorem K1_ok : K1.Ok := ⟨by decide, by decide, trivial, by decide, by decide, by decide, ⟨by decide, by decide, trivial⟩, by decide, ⟨⟨by decide, by decide, by decide +kernel⟩, trivial⟩⟩
theorem init2 (c : Cu) : m_Record_init [.int 2, .tup [], .int 1, .int 20, .tup [.int 1], .tup [.str "oc"]] c = .ok (K1.rc []) c := by
  have e : (Str.ofString "oc" : Str) = ⟨#[111, 99]⟩ := by decide +kernel
  rw [e]
  exact init_in K1_ok c
def isOkB (r : R D) : Bool := match r with
  | .ok (.bl true) none => true
  | _ => false
def isOkA (r : R D) : Bool := match r with
  | .ok _ none => true
  | _ => false
theorem isOkB_of {r : R D} (h : isOkB r = true) : r = .ok (.bl true) none := by
  unfold isOkB at h
  split at h
  · rfl
  · cases h
theorem isOkA_of {r : R D} (h : isOkA r = true) : ∃ d, r = .ok d none := by
  unfold isOkA at h
  split at h
  · exact ⟨_, rfl⟩
  · cases h
theorem can1 : m_can [K1.rc [], .int (10 ^ 30), .str "O-"] none = .ok (.bl true) none := isOkB_of (by decide +kernel)
theorem let1 : ∃ d, m_letters [K1.rc [], .int 0, .int 1] none = .ok d none := isOkA_of (by decide +kernel)
theorem ixG (d : D) : ixF (.lst [.str "given", d]) (.int 0) = some (.str "given") := rfl
theorem law_in (ns : List Int) (hn : ns.length ≤ 63) : m_law [.scr ns] none = .ok (.bl true) none := by
  let Q : R Fl → Prop := fun r => r = .ok (.rt (.bl true)) none
  obtain ⟨x1, x7, x5, x8⟩ := et0
  obtain ⟨y1, y7, y5, y8⟩ := fo0
  refine noE_ok (fn_rt rfl ?_)
  let M : D := K1.rc []
  show Q (seqS _ _ [some (.scr ns), none, none, none] none)
  refine step_seq Q (st1 := [some (.scr ns), some M, none, none]) (c1 := none) (by
    refine (set_ok (d := M) (c' := none) ?_).trans rfl
    have i1 := init2 none
    simp only [mkD, aD, cD, tupD, R.bind, layL, Src.at, List.map, List.append]
    simpa [Src.at] using i1) ?_
  have k1 : caD m_can [(vD 1), (opD powF (cD (.int 10)) (cD (.int 30))), (cD (.str "O-"))] [some (.scr ns), some M, none, none] none = .ok (.bl true) none := ca_ok (c1 := none) (ds := [M, .int (10 ^ 30), .str "O-"]) (by simp only [aD, vD, opD, cD, R.bind, ofO, p30]; rfl) can1
  refine step_seq Q (st1 := [some (.scr ns), some M, some (.lst [.lst [.str "given", .bl true]]), none]) (c1 := none) ((set_ok (l1_ok (cau_ok k1))).trans rfl) ?_
  have s8 : shwOk (.str "A-") = true := by decide +kernel
  have k2 : caD m_can [(vD 1), (cD (.int 0)), (cD (.str "A-"))] [some (.scr ns), some M, some (.lst [.lst [.str "given", .bl true]]), none] none = .er ⟨"InvalidWindow", ["given"], [.str "A-"]⟩ none := ca_er (c1 := none) (ds := [M, .int 0, .str "A-"]) rfl (wd_er (n := 2) rfl ⟨by decide, by decide⟩ rfl (by decide +kernel) none).1
  let S : PSt := [some (.scr ns), some M, some (.lst [.lst [.str "given", .bl true], toldD 8 (.str "A-")]), none]
  refine step_seq Q (st1 := S) (c1 := none) ((app_ok (i := 2) (ds := [.lst [.str "given", .bl true]]) rfl (cau_er (i := 8) k2 x8 y8 s8) (by simp)).trans rfl) ?_
  have t1 : tbD (opD (eqF true) (vD 2) (lstD [(lstD [(cD (.str "given")), (cD (.bl true))]), (lstD [(cD (.int 8)), (cD (.int 30)), (cD (.int 33)), (biD reprF [(cD (.str "A-"))])])])) S none = .ok false none := by
    have r : reprF [.str "A-"] = some (.str (shwD (.str "A-"))) := by simp only [reprF]; rw [if_pos s8]
    have e := bi1_ok (f := reprF) (c0 (.str "A-") S none) r
    refine tb_ok (op_ok (x := .lst [.lst [.str "given", .bl true], toldD 8 (.str "A-")]) (y := .lst [.lst [.str "given", .bl true], toldD 8 (.str "A-")]) (c1 := none) (c2 := none) rfl ?_ ?_)
    · simp only [lstD, aD, c0, R.bind, e]
      rfl
    · have ok : okD 60 (.lst [.lst [.str "given", .bl true], toldD 8 (.str "A-")]) = true := rfl
      simp [eqF, ok, eqD_rf]
  have t2 : tbD (opD (eqF true) (opD ixF (cauD errTab (caD m_letters [(vD 1), (cD (.int 0)), (cD (.int 1))])) (cD (.int 0))) (cD (.str "given"))) S none = .ok false none := by
    obtain ⟨d, hd⟩ := let1
    have k3 : caD m_letters [(vD 1), (cD (.int 0)), (cD (.int 1))] S none = .ok d none := ca_ok (c1 := none) (ds := [M, .int 0, .int 1]) rfl hd
    exact tb_ok (op_ok (op_ok (cau_ok k3) (c0 _ _ _) (ixG d)) (c0 _ _ _) (eqStr_ne _))
  refine step_seq Q (st1 := S) (c1 := none) ((if_no (or_ff t1 t2)).trans (pass0 _ _)) ?_
  let n : Int := if (2 : Int) < (if 6 < (ns.length : Int) then 6 else (ns.length : Int)) then (if 6 < (ns.length : Int) then 6 else (ns.length : Int)) else 2
  have hn2 : n ≤ 6 ∧ 0 ≤ n := by
    show (if (2 : Int) < (if 6 < (ns.length : Int) then 6 else (ns.length : Int)) then (if 6 < (ns.length : Int) then 6 else (ns.length : Int)) else 2) ≤ 6 ∧ 0 ≤ (if (2 : Int) < (if 6 < (ns.length : Int) then 6 else (ns.length : Int)) then (if 6 < (ns.length : Int) then 6 else (ns.length : Int)) else 2)
    split <;> split <;> omega
  have it : itR1 (biD maxF [(cD (.int 2)), (biD minF [(biD lenF [(vD 0)]), (cD (.int 6))])]) S none = .ok (rgD 0 n.toNat) none := by
    have hm : biD maxF [(cD (.int 2)), (biD minF [(biD lenF [(vD 0)]), (cD (.int 6))])] S none = .ok (.int n) none := by
      simp [S, biD, aD, cD, vD, R.bind, ofO, lenF, minF, maxF, n]
    simp only [itR1, hm, R.bind]
    rw [if_pos (by omega)]
  have cu : ∀ a b : Int, 0 ≤ a → a < 2147483629 → 0 ≤ b → ∃ c', m_l_right [.cup] (some (a, b)) = .ok (.bl true) c' := fun a b h1 h2 h3 => right_in ⟨a, b, rfl, h1, h2, h3⟩
  have lc := lcP_in (c := none) (t := .nm 3) (ws := [3]) (elt := cupD m_l_right [(vD 0), (vD 3)]) (st := S) (f := fun _ => .bl true) (rgD 0 n.toNat) (by
    intro x hx
    obtain ⟨j, rfl, j0, j1⟩ := rgD_mem hx
    refine ⟨_, rfl, ?_⟩
    have ha : aD [(vD 0), (vD 3)] ((wipeD S [3]).set 3 (some (.int j))) none = .ok [.scr ns, .int j] none := rfl
    simp only [cupD, ha, R.bind]
    rw [if_pos ⟨⟨hn, by omega, by omega⟩, cu⟩])
  have al : allF [.lst ((rgD 0 n.toNat).map fun _ => D.bl true)] = some (.bl true) := all_true (by simp)
  refine ret_ok (bi1_ok (x := .lst ((rgD 0 n.toNat).map fun _ => D.bl true)) ?_ al)
  show lcD _ _ _ _ _ S none = _
  simp only [lcD, it, R.bind, lc]
end L2.G
set_option Elab.async false
set_option linter.all false
set_option maxRecDepth 100000
set_option maxHeartbeats 4000000
namespace L2.G
open PySem PySem.Spec PyProof.Rows L2H
/-! what the heads of all laws share -/
theorem _root_.L2.Fun.toD {K : PySem.W.Frag} {x qual : Str} {st : Stmt} {f : Addr} {fd : FuncData} (F : Fun K x qual st f fd) : FunD K x qual (defArgs st) (defBody st) (defScope st) [] [] f fd := by
  obtain ⟨⟨oc, od, kV, doc, pm, an, cdv, ct, osl, e, lk, hcd⟩, kp⟩ := F
  exact ⟨⟨oc, od, .none, kV, doc, pm, an, cdv, ct, osl, e, lk, hcd, .inl ⟨rfl, rfl⟩, .inl rfl⟩, kp⟩
/-- the law at its start: nothing is tracked but the script and the empty tables -/
theorem law_start {K : PySem.W.Frag} {cm : Str → Addr} {cs : List Str} {T : List (Addr × Str)} {tb : List (Addr × Addr)} {m : Fd} (hm : ∀ ns : List Int, ns.length ≤ 63 → m [.scr ns] none = .ok (.bl true) none) (hT : ∀ p ∈ T, ∃ q ∈ tb, q.2 = p.1) :
    ∀ (H : Hp) (a : Addr) (ns : List Int), ns.length ≤ 63 → OnlyT tb H → (∀ p ∈ tb, H p.2 = some (.tbl #[])) → SqL K H a (ns.map V.int) → spD0 K cm cs T m [.ref a] H (fun v _ => v = .bl true) fun _ _ _ => False := by
  intro H a ns hl hO hH hS
  let Hs : Hp := fun b => match H b with
    | some (.tbl _) => none
    | o => o
  have h1 : ∀ b o, Nt o → H b = some o → Hs b = some o := fun b o t e => by
    show (match H b with | some (.tbl _) => none | o => o) = some o
    rw [e]
    cases o <;> first | rfl | exact absurd rfl (t _)
  have h2 : ∀ b o, Hs b = some o → H b = some o ∧ Nt o := fun b o e => by
    have e' : (match H b with | some (.tbl _) => none | o => o) = some o := e
    split at e'
    · cases e'
    · rename_i hn
      refine ⟨e', fun ps z => ?_⟩
      subst z
      exact hn ps e'
  have h3 : ∀ b ps, H b = some (.tbl ps) → Hs b = none := fun b ps e => by
    show (match H b with | some (.tbl _) => none | o => o) = none
    rw [e]
  have tbl : ∀ p ∈ T, H p.1 = some (.tbl #[]) := fun p hp => by
    obtain ⟨q, hq, e⟩ := hT p hp
    rw [← e]
    exact hH q hq
  refine ⟨Hs, [.scr ns], fun b o e => (h2 b o e).1, ⟨trivial, fun p hp => LamX.TabS.nil (tbl p hp), fun p hp => h3 _ _ (tbl p hp), fun b ps e => (h2 b _ e).2 ps rfl⟩, rll_cons.mpr ⟨_, _, rfl, rl_scr.mpr ⟨a, rfl, ?_⟩, rll_nil.mpr rfl⟩, ?_⟩
  · rcases hS with (h | ⟨o, h⟩) | h
    · exact .inl (.inl (h1 _ _ (fun _ z => by cases z) h))
    · exact .inl (.inr ⟨o, h1 _ _ (fun _ z => by cases z) h⟩)
    · exact .inr h
  · rw [hm ns hl]
    intro Hs' H' F v rv
    exact rl_bl.mp rv
/-- the end of a law with tables; what the top says of the tables is handed on -/
theorem walk_ofGT2 {l : PySem.W.OpenLaw} {n k : Nat} {q : Program} {loose : List Str} {XP : (Str → Option Value) → Heap → Prop} {YP : World → Heap → Prop} {d : DefRec} {K : Params → PySem.W.Frag} {x : Str}
    (hn : l.most = some n) (hn2 : n ≤ sizeLine) (hdf : d.params.defaults = []) (hr : Room k callerA) (hY : ∀ (w : World) (h : Heap), YP w h → (K w.params).In h)
    (F : ∀ (w : World) (mg : Str → Option Value) (fa : Addr) (h : Heap), YP w h → (K w.params).In h → h.Ns mainGlobals mg → mg d.name = some (.ref fa) →
      (∀ (y : Str) (e : DefRec) (c P : Addr), (recsOf q).find? (fun e => e.name == y) = some e → PySem.W.tabIn (K w.params) y = some (c, P) → PySem.W.CodeHd h c P ∧ h.get? P = some { cls := .none, data := .fields #[] }) → LawG l w (K w.params) k n x mg fa h) :
    PySem.W.WalkO q loose XP YP l.row.toRowW d [] (fun f vs => PySem.call f vs) := by
  refine Att.attach_call hn hdf fun w s₀ s₁ mg mb fa o pm cd doc a vs ns G Y ho hd hcd hmg hobj hints hlen hg => ?_
  obtain ⟨fd, cs, sp, hT, nT, C, hb, hsp, hF⟩ := F w mg fa _ Y (hY w _ Y) G.T.g hmg fun y e c P h1 h2 => PySem.W.tab_of G.T (hY w _ Y) h1 h2
  exact law_callGT (hY w _ Y) G.T.g G.T.b G.T.builtins G.T.nolimit hg hT nT C G.T.bmain hobj hints (Nat.le_trans hlen hn2) hr hF hb fun H hO hH hS => hsp H a ns hlen hO hH hS
theorem mro_no {C : Addr} : ∀ t ∈ tyNs, (fastBuiltinMro t).map (fun m : List Value => m.contains (.ref C)) = some false := by
  intro t ht
  have e : ∀ t ∈ tyNs, ∃ m, fastBuiltinMro t = some m ∧ m.all (fun v => match v with | .type _ => true | _ => false) = true := by
    have h : (tyNs.all fun t => match fastBuiltinMro t with | some m => m.all (fun v => match v with | .type _ => true | _ => false) | none => false) = true := by decide +kernel
    intro t ht
    have q := List.all_eq_true.mp h t ht
    split at q
    · rename_i m hm
      exact ⟨m, hm, q⟩
    · cases q
  obtain ⟨m, hm, q⟩ := e t ht
  rw [hm]
  show some (m.contains (.ref C)) = some false
  congr 1
  cases c : m.contains (Value.ref C) with
  | false => rfl
  | true =>
    have hmem : Value.ref C ∈ m := by simpa using c
    have z := List.all_eq_true.mp q _ hmem
    cases z
theorem kit_no {K : PySem.W.Frag} {C : Addr} (hd : PySem.W.hasDictIn K C = true) (ty : PySem.W.typeIn K (.ref C) = some (.type "type")) : ∀ t ∈ tyNs, PySem.W.kitOne K (.type t) (.ref C) = some false := by
  intro t ht
  have hc : (PySem.W.clsIn K C).isSome = true := by
    obtain ⟨cd, hc, _⟩ := PySem.W.any_some hd
    rw [hc]
    rfl
  have e1 : (Value.type t == Value.ref C) = false := rfl
  have e2 : PySem.W.subIn K (.type t) (.ref C) = some false := mro_no t ht
  unfold PySem.W.kitOne PySem.W.kitCls
  rw [e1]
  simp [e2, hc, ty]
theorem kit_bt {K : PySem.W.Frag} {C : Addr} {T : String} (hm : PySem.W.kitMeta T = true) (h : PySem.W.mroIn K C (.type T) = some false) : PySem.W.kitOne K (.ref C) (.type T) = some false := by
  have e1 : (Value.ref C == Value.type T) = false := rfl
  unfold PySem.W.kitOne PySem.W.kitCls
  rw [e1]
  simp [hm, PySem.W.subIn, h]
theorem kit_rf {K : PySem.W.Frag} {C C' : Addr} (hn : C ≠ C') (hd : PySem.W.hasDictIn K C' = true) (ty : PySem.W.typeIn K (.ref C') = some (.type "type")) (h : PySem.W.mroIn K C (.ref C') = some false) : PySem.W.kitOne K (.ref C) (.ref C') = some false := by
  have hc : (PySem.W.clsIn K C').isSome = true := by
    obtain ⟨cd, hc, _⟩ := PySem.W.any_some hd
    rw [hc]
    rfl
  have e1 : (Value.ref C == Value.ref C') = false := by simpa using hn
  unfold PySem.W.kitOne PySem.W.kitCls
  rw [e1]
  simp [hc, ty, PySem.W.subIn, h]
theorem kit_bt1 {K : PySem.W.Frag} {C : Addr} {T : String} (hm : PySem.W.kitMeta T = true) (h : PySem.W.mroIn K C (.type T) = some true) : PySem.W.kitOne K (.ref C) (.type T) = some true := by
  have e1 : (Value.ref C == Value.type T) = false := rfl
  unfold PySem.W.kitOne PySem.W.kitCls
  rw [e1]
  simp [hm, PySem.W.subIn, h]
theorem kit_rf1 {K : PySem.W.Frag} {C C' : Addr} (hd : PySem.W.hasDictIn K C' = true) (ty : PySem.W.typeIn K (.ref C') = some (.type "type")) (h : PySem.W.mroIn K C (.ref C') = some true) : PySem.W.kitOne K (.ref C) (.ref C') = some true := by
  have hc : (PySem.W.clsIn K C').isSome = true := by
    obtain ⟨cd, hc, _⟩ := PySem.W.any_some hd
    rw [hc]
    rfl
  unfold PySem.W.kitOne PySem.W.kitCls
  simp [hc, ty, PySem.W.subIn, h]
theorem kit_self {K : PySem.W.Frag} {C : Addr} : PySem.W.kitOne K (.ref C) (.ref C) = some true := by
  simp [PySem.W.kitOne]
theorem exm3 {K : PySem.W.Frag} {v a b c : Value} {x y z : Bool} (h1 : PySem.W.exmOne K v a = some x) (h2 : PySem.W.exmOne K v b = some y) (h3 : PySem.W.exmOne K v c = some z) (h : (x || (y || (z || false))) = true) : PySem.W.exmAny K v [a, b, c] = some true := by
  simp only [PySem.W.exmAny, h1, h2, h3]
  rw [h]
theorem err_mem {α : Type} {C : Str} {v : α} : ∀ {l : List (Str × α)}, l.lookup C = some v → (C, v) ∈ l
  | [], e => by cases e
  | (x, y) :: l, e => by
    rw [List.lookup_cons] at e
    by_cases h : C = x
    · subst h
      simp at e
      subst e
      exact List.mem_cons_self
    · have : (C == x) = false := by simpa using h
      rw [this] at e
      exact List.mem_cons_of_mem _ (err_mem e)
theorem tab_mk {K : PySem.W.Frag} {q : Str} {f cc pp : Addr} {oc o1 : Value} {od o2 : Option Addr} {sl o3 : Array (Option Value)} {fd : FuncData} {vs : Array Value} (a : PySem.W.nsIn K mainGlobals q = some (some (.ref f))) (l : K.lookup f = some ⟨oc, od, .func fd, sl⟩) (hc : fd.code = .ref cc) (cl : K.lookup cc = some ⟨o1, o2, .fields vs, o3⟩) (cv : vs[11]? = some (.ref pp)) : PySem.W.tabIn K q = some (cc, pp) := by
  unfold PySem.W.tabIn
  rw [a]
  simp only [l, hc, cl, cv]
theorem lk_none {α : Type} : ∀ {l : List (Addr × α)} {a : Addr}, (l.map (·.1)).contains a = false → l.lookup a = none
  | [], _, _ => rfl
  | (x, y) :: l, a, h => by
    simp only [List.map_cons, List.contains_cons, Bool.or_eq_false_iff] at h
    rw [List.lookup_cons, h.1]
    exact lk_none h.2
theorem km_out {K : Params → PySem.W.Frag} {as : List Addr} {e : ∀ P, as = (K P).map (·.1)} {ts : List Addr} {w : World} {h : Heap} (Y : (PySem.W.kmHook K as e ts).says w h) {a : Addr} (ha : as.contains a = false) : (K w.params).lookup a = none := lk_none (by rw [← e w.params]; exact ha)
theorem exm_of {K : PySem.W.Frag} {D A : Addr} {b : Bool} (sb : PySem.W.subIn K (.ref A) (.type "BaseException") = some true) (hd : PySem.W.hasDictIn K A = true) (ty : PySem.W.typeIn K (.ref A) = some (.type "type")) (h : PySem.W.mroIn K D (.ref A) = some b) : PySem.W.exmOne K (.ref D) (.ref A) = some b := by
  have hc : (PySem.W.clsIn K A).isSome = true := by
    obtain ⟨cd, hc, _⟩ := PySem.W.any_some hd
    rw [hc]
    rfl
  unfold PySem.W.exmOne PySem.W.kitCls
  rw [sb]
  simp [hc, ty, PySem.W.subIn, h]
end L2.G
set_option Elab.async false
set_option linter.all false
set_option maxRecDepth 100000
namespace L2.G
open PySem PySem.W PySem.Calls PyProof.Rows HandSHeadRun
/-- the top by one run, with tables of code objects -/
theorem left_km {p q : Program} {loose : List PySem.Str} {Xt : Shared → Bool} {K : Params → Frag} {as : List Addr} {ek : ∀ P, as = (K P).map (·.1)} {ts : List Addr} {N M : Nat}
    (e : opening p = plainProg p.main.scope.names) (hN : Nat.ble 600 N = true) (f : ∀ s, fenceModules? p s = some s) (le : Nat.ble M N = true)
    (run : ∀ (w : World) (os : OsState), (endF (stepQ (denQ tabQ) p w) M p w os).map (fun s => (looksF p (boot_heap w.params) s.abs, seenQ q loose (importedModules p.main.body) Xt s.abs, (as.map (getT s), ts.map (getT s)))) = some (true, openGood q loose, ((K w.params).map fun x => some x.2, ts.map fun _ => some (tabObj #[])))) :
    LeftO p q loose Xt (Hook.obs (kmHook K as ek ts)) (Hook.val (kmHook K as ek ts)) N true :=
  left_one (M := M) e hN f le fun w os => by
    have z := run w os
    have eo : (fun s : SharedT => (looksF p (boot_heap w.params) s.abs, seenQ q loose (importedModules p.main.body) Xt s.abs, (as.map (getT s), ts.map (getT s)))) = fun s => (looksF p (boot_heap w.params) s.abs, seenQ q loose (importedModules p.main.body) Xt s.abs, Hook.obs (kmHook K as ek ts) s.abs) := by
      funext s
      have q1 : as.map (getT s) = as.map s.abs.heap.get? := List.map_congr_left fun a _ => getT_eq s a
      have q2 : ts.map (getT s) = ts.map s.abs.heap.get? := List.map_congr_left fun a _ => getT_eq s a
      rw [q1, q2]
      rfl
    rw [eo] at z
    simp only [endQ_eq, seenQ_eq]
    exact z
theorem left_k {p q : Program} {loose : List PySem.Str} {Xt : Shared → Bool} {K : Params → Frag} {as : List Addr} {ek : ∀ P, as = (K P).map (·.1)} {N M : Nat}
    (e : opening p = plainProg p.main.scope.names) (hN : Nat.ble 600 N = true) (f : ∀ s, fenceModules? p s = some s) (le : Nat.ble M N = true)
    (run : ∀ (w : World) (os : OsState), (endF (stepQ (denQ tabQ) p w) M p w os).map (fun s => (looksF p (boot_heap w.params) s.abs, seenQ q loose (importedModules p.main.body) Xt s.abs, as.map (getT s))) = some (true, openGood q loose, (K w.params).map fun x => some x.2)) :
    LeftO p q loose Xt (Hook.obs (kHook K as ek)) (Hook.val (kHook K as ek)) N true :=
  left_one (M := M) e hN f le fun w os => by
    have z := run w os
    have eo : (fun s : SharedT => (looksF p (boot_heap w.params) s.abs, seenQ q loose (importedModules p.main.body) Xt s.abs, as.map (getT s))) = fun s => (looksF p (boot_heap w.params) s.abs, seenQ q loose (importedModules p.main.body) Xt s.abs, Hook.obs (kHook K as ek) s.abs) := by
      funext s
      have q1 : as.map (getT s) = as.map s.abs.heap.get? := List.map_congr_left fun a _ => getT_eq s a
      rw [q1]
      rfl
    rw [eo] at z
    simp only [endQ_eq, seenQ_eq]
    exact z
theorem nameHw {a : Prop} (t : True) (hw : a) : a := hw
/-- the def that stands at a place of the top -/
def defAt (p : Program) (i : Nat) : DefRec := match p.main.body[i]? with
  | some (.FunctionDef n a b _ _ _ sc _ _ pos) => ⟨n, a, b, sc, pos⟩
  | _ => ⟨"law", ⟨[], [], none, [], [], none, []⟩, [], ⟨.function, [], false, false, []⟩, default⟩
end L2.G
set_option Elab.async false
set_option linter.all false
set_option maxRecDepth 100000
set_option maxHeartbeats 4000000
namespace L2.G
open PySem PySem.Spec PyProof.Rows L2H LamX
theorem all_mk {l : PySem.W.OpenLaw} {w : World} {K : PySem.W.Frag} {h : Heap} {mg : Str → Option Value} {fa : Addr} (X : K.In h) (Gn : h.Ns mainGlobals mg) (hfa : mg "law" = some (.ref fa)) {q0 : Program} (TBL : ∀ (y : Str) (e : DefRec) (c P : Addr), (recsOf q0).find? (fun e => e.name == y) = some e → PySem.W.tabIn K y = some (c, P) → PySem.W.CodeHd h c P ∧ h.get? P = some { cls := .none, data := .fields #[] })
    {C_Record : Addr}
    {C_NotASign : Addr}
    {C_NotARecord : Addr}
    {C_InvalidText : Addr}
    {C_InvalidPace : Addr}
    {C_InvalidWidth : Addr}
    {C_InvalidPlace : Addr}
    {C_InvalidLength : Addr}
    {C_InvalidTime : Addr}
    {C_InvalidWindow : Addr}
    {C_InvalidName : Addr}
    {C_InvalidClaim : Addr}
    {C_InvalidIndex : Addr}
    {C_InvalidLine : Addr}
    {C_InvalidDead : Addr}
    {C_InvalidPaces : Addr}
    {C_InvalidGroups : Addr}
    {C_InvalidTimes : Addr}
    {C_InvalidDeeds : Addr}
    {C_UnknownName : Addr}
    {C_InUse : Addr}
    {C_TooMany : Addr}
    {C_OtherKind : Addr}
    {C_Broken : Addr}
    {C_NothingToUndo : Addr}
    {C_WrongValue : Addr}
    {C_WrongName : Addr}
    {C_NoAnswer : Addr}
    {f0 : Addr} {oc0 kV0 dc0 pm0 cd0 ct0 : Value} {od0 an0 : Option Addr} {sl0 : Array (Option Value)}
    {f1 : Addr} {oc1 kV1 dc1 pm1 cd1 ct1 : Value} {od1 an1 : Option Addr} {sl1 : Array (Option Value)}
    {f2 : Addr} {oc2 kV2 dc2 pm2 cd2 ct2 : Value} {od2 an2 : Option Addr} {sl2 : Array (Option Value)}
    {f3 : Addr} {oc3 kV3 dc3 pm3 cd3 ct3 : Value} {od3 an3 : Option Addr} {sl3 : Array (Option Value)}
    {f4 : Addr} {oc4 kV4 dc4 pm4 cd4 ct4 : Value} {od4 an4 : Option Addr} {sl4 : Array (Option Value)}
    {f5 : Addr} {oc5 kV5 dc5 pm5 cd5 ct5 : Value} {od5 an5 : Option Addr} {sl5 : Array (Option Value)}
    {f6 : Addr} {oc6 kV6 dc6 pm6 cd6 ct6 : Value} {od6 an6 : Option Addr} {sl6 : Array (Option Value)}
    {f7 : Addr} {oc7 kV7 dc7 pm7 cd7 ct7 : Value} {od7 an7 : Option Addr} {sl7 : Array (Option Value)}
    {f8 : Addr} {oc8 kV8 dc8 pm8 cd8 ct8 : Value} {od8 an8 : Option Addr} {sl8 : Array (Option Value)}
    {f9 : Addr} {oc9 kV9 dc9 pm9 cd9 ct9 : Value} {od9 an9 : Option Addr} {sl9 : Array (Option Value)}
    {f10 : Addr} {oc10 kV10 dc10 pm10 cd10 ct10 : Value} {od10 an10 : Option Addr} {sl10 : Array (Option Value)}
    {f11 : Addr} {oc11 kV11 dc11 pm11 cd11 ct11 : Value} {od11 an11 : Option Addr} {sl11 : Array (Option Value)}
    {f12 : Addr} {oc12 kV12 dc12 pm12 cd12 ct12 : Value} {od12 an12 : Option Addr} {sl12 : Array (Option Value)}
    {f13 : Addr} {oc13 kV13 dc13 pm13 cd13 ct13 : Value} {od13 an13 : Option Addr} {sl13 : Array (Option Value)}
    {f14 : Addr} {oc14 kV14 dc14 pm14 cd14 ct14 : Value} {od14 an14 : Option Addr} {sl14 : Array (Option Value)}
    {p14 : Addr} {rest14 : List Value}
    {f15 : Addr} {oc15 kV15 dc15 pm15 cd15 ct15 : Value} {od15 an15 : Option Addr} {sl15 : Array (Option Value)}
    {p15 : Addr} {rest15 : List Value}
    {f16 : Addr} {oc16 kV16 dc16 pm16 cd16 ct16 : Value} {od16 an16 : Option Addr} {sl16 : Array (Option Value)}
    {f17 : Addr} {oc17 kV17 dc17 pm17 cd17 ct17 : Value} {od17 an17 : Option Addr} {sl17 : Array (Option Value)}
    {p17 : Addr} {rest17 : List Value}
    {f18 : Addr} {oc18 kV18 dc18 pm18 cd18 ct18 : Value} {od18 an18 : Option Addr} {sl18 : Array (Option Value)}
    {p18 : Addr} {rest18 : List Value}
    {f19 : Addr} {oc19 kV19 dc19 pm19 cd19 ct19 : Value} {od19 an19 : Option Addr} {sl19 : Array (Option Value)}
    {p19 : Addr} {rest19 : List Value}
    {f20 : Addr} {oc20 kV20 dc20 pm20 cd20 ct20 : Value} {od20 an20 : Option Addr} {sl20 : Array (Option Value)}
    {f21 : Addr} {oc21 kV21 dc21 pm21 cd21 ct21 : Value} {od21 an21 : Option Addr} {sl21 : Array (Option Value)}
    {f22 : Addr} {oc22 kV22 dc22 pm22 cd22 ct22 : Value} {od22 an22 : Option Addr} {sl22 : Array (Option Value)}
    {f23 : Addr} {oc23 kV23 dc23 pm23 cd23 ct23 : Value} {od23 an23 : Option Addr} {sl23 : Array (Option Value)}
    {f24 : Addr} {oc24 kV24 dc24 pm24 cd24 ct24 : Value} {od24 an24 : Option Addr} {sl24 : Array (Option Value)}
    {f25 : Addr} {oc25 kV25 dc25 pm25 cd25 ct25 : Value} {od25 an25 : Option Addr} {sl25 : Array (Option Value)}
    {p25 : Addr} {rest25 : List Value}
    {f26 : Addr} {oc26 kV26 dc26 pm26 cd26 ct26 : Value} {od26 an26 : Option Addr} {sl26 : Array (Option Value)}
    {f27 : Addr} {oc27 kV27 dc27 pm27 cd27 ct27 : Value} {od27 an27 : Option Addr} {sl27 : Array (Option Value)}
    {f28 : Addr} {oc28 kV28 dc28 pm28 cd28 ct28 : Value} {od28 an28 : Option Addr} {sl28 : Array (Option Value)}
    {f29 : Addr} {oc29 kV29 dc29 pm29 cd29 ct29 : Value} {od29 an29 : Option Addr} {sl29 : Array (Option Value)}
    {f30 : Addr} {oc30 kV30 dc30 pm30 cd30 ct30 : Value} {od30 an30 : Option Addr} {sl30 : Array (Option Value)}
    {f31 : Addr} {oc31 kV31 dc31 pm31 cd31 ct31 : Value} {od31 an31 : Option Addr} {sl31 : Array (Option Value)}
    {f32 : Addr} {oc32 kV32 dc32 pm32 cd32 ct32 : Value} {od32 an32 : Option Addr} {sl32 : Array (Option Value)}
    {f33 : Addr} {oc33 kV33 dc33 pm33 cd33 ct33 : Value} {od33 an33 : Option Addr} {sl33 : Array (Option Value)}
    {f34 : Addr} {oc34 kV34 dc34 pm34 cd34 ct34 : Value} {od34 an34 : Option Addr} {sl34 : Array (Option Value)}
    {f35 : Addr} {oc35 kV35 dc35 pm35 cd35 ct35 : Value} {od35 an35 : Option Addr} {sl35 : Array (Option Value)}
    {f36 : Addr} {oc36 kV36 dc36 pm36 cd36 ct36 : Value} {od36 an36 : Option Addr} {sl36 : Array (Option Value)}
    {f37 : Addr} {oc37 kV37 dc37 pm37 cd37 ct37 : Value} {od37 an37 : Option Addr} {sl37 : Array (Option Value)}
    {f38 : Addr} {oc38 kV38 dc38 pm38 cd38 ct38 : Value} {od38 an38 : Option Addr} {sl38 : Array (Option Value)}
    {f39 : Addr} {oc39 kV39 dc39 pm39 cd39 ct39 : Value} {od39 an39 : Option Addr} {sl39 : Array (Option Value)}
    {f40 : Addr} {oc40 kV40 dc40 pm40 cd40 ct40 : Value} {od40 an40 : Option Addr} {sl40 : Array (Option Value)}
    {f41 : Addr} {oc41 kV41 dc41 pm41 cd41 ct41 : Value} {od41 an41 : Option Addr} {sl41 : Array (Option Value)}
    {f42 : Addr} {oc42 kV42 dc42 pm42 cd42 ct42 : Value} {od42 an42 : Option Addr} {sl42 : Array (Option Value)}
    {f43 : Addr} {oc43 kV43 dc43 pm43 cd43 ct43 : Value} {od43 an43 : Option Addr} {sl43 : Array (Option Value)}
    {f44 : Addr} {oc44 kV44 dc44 pm44 cd44 ct44 : Value} {od44 an44 : Option Addr} {sl44 : Array (Option Value)}
    {f45 : Addr} {oc45 kV45 dc45 pm45 cd45 ct45 : Value} {od45 an45 : Option Addr} {sl45 : Array (Option Value)}
    {f46 : Addr} {oc46 dc46 pm46 cd46 ct46 : Value} {od46 an46 : Option Addr} {sl46 : Array (Option Value)}
    {D46 : Addr}
    {T46_0 : Addr} {to46_0 : Option Addr} {tn46_0 : Nat} {ts46_0 : Array (Option Value)} 
    {x46_1 : Tok}
    {x46_2 : Tok}
    {T46_3 : Addr} {to46_3 : Option Addr} {tn46_3 : Nat} {ts46_3 : Array (Option Value)} {y46_3_0 : Tok} 
    {T46_4 : Addr} {to46_4 : Option Addr} {tn46_4 : Nat} {ts46_4 : Array (Option Value)} 
    {f47 : Addr} {oc47 kV47 dc47 pm47 cd47 ct47 : Value} {od47 an47 : Option Addr} {sl47 : Array (Option Value)}
    {f48 : Addr} {oc48 kV48 dc48 pm48 cd48 ct48 : Value} {od48 an48 : Option Addr} {sl48 : Array (Option Value)}
    {p48 : Addr} {rest48 : List Value}
    {f49 : Addr} {oc49 kV49 dc49 pm49 cd49 ct49 : Value} {od49 an49 : Option Addr} {sl49 : Array (Option Value)}
    {f50 : Addr} {oc50 kV50 dc50 pm50 cd50 ct50 : Value} {od50 an50 : Option Addr} {sl50 : Array (Option Value)}
    {p50 : Addr} {rest50 : List Value}
    {f51 : Addr} {oc51 kV51 dc51 pm51 cd51 ct51 : Value} {od51 an51 : Option Addr} {sl51 : Array (Option Value)}
    {f52 : Addr} {oc52 kV52 dc52 pm52 ct52 : Value} {od52 an52 : Option Addr} {sl52 : Array (Option Value)}
    {cc52 pp52 : Addr}
    {q1_52 : Value} {q2_52 : Option Addr} {q3_52 : Array (Option Value)} {vs_52 : Array Value} {e_52 : DefRec}
    {f53 : Addr} {oc53 kV53 dc53 pm53 ct53 : Value} {od53 an53 : Option Addr} {sl53 : Array (Option Value)}
    {cc53 pp53 : Addr}
    {q1_53 : Value} {q2_53 : Option Addr} {q3_53 : Array (Option Value)} {vs_53 : Array Value} {e_53 : DefRec}
    {f54 : Addr} {oc54 kV54 dc54 pm54 cd54 ct54 : Value} {od54 an54 : Option Addr} {sl54 : Array (Option Value)}
    {f55 : Addr} {oc55 kV55 dc55 pm55 cd55 ct55 : Value} {od55 an55 : Option Addr} {sl55 : Array (Option Value)}
    {f56 : Addr} {oc56 kV56 dc56 pm56 cd56 ct56 : Value} {od56 an56 : Option Addr} {sl56 : Array (Option Value)}
    {f57 : Addr} {oc57 kV57 dc57 pm57 cd57 ct57 : Value} {od57 an57 : Option Addr} {sl57 : Array (Option Value)}
    {f58 : Addr} {oc58 kV58 dc58 pm58 cd58 ct58 : Value} {od58 an58 : Option Addr} {sl58 : Array (Option Value)}
    {f59 : Addr} {oc59 kV59 dc59 pm59 cd59 ct59 : Value} {od59 an59 : Option Addr} {sl59 : Array (Option Value)}
    {f60 : Addr} {oc60 kV60 dc60 pm60 cd60 ct60 : Value} {od60 an60 : Option Addr} {sl60 : Array (Option Value)}
    {f61 : Addr} {oc61 kV61 dc61 pm61 cd61 ct61 : Value} {od61 an61 : Option Addr} {sl61 : Array (Option Value)}
    {f62 : Addr} {oc62 kV62 dc62 pm62 cd62 ct62 : Value} {od62 an62 : Option Addr} {sl62 : Array (Option Value)}
    {nm_InvalidDead q_InvalidDead : Str} {N_InvalidDead : Addr} {bs_InvalidDead : List Value} {sn_InvalidDead : List Str} {sub_InvalidDead : List Value} {ab_InvalidDead : Bool} {col_InvalidDead : Option Bool} {dd_InvalidDead : Option Addr} {e0_InvalidDead e1_InvalidDead e2_InvalidDead e3_InvalidDead e5_InvalidDead : Option Value}
    {nm_InvalidGroups q_InvalidGroups : Str} {N_InvalidGroups : Addr} {bs_InvalidGroups : List Value} {sn_InvalidGroups : List Str} {sub_InvalidGroups : List Value} {ab_InvalidGroups : Bool} {col_InvalidGroups : Option Bool} {dd_InvalidGroups : Option Addr} {e0_InvalidGroups e1_InvalidGroups e2_InvalidGroups e3_InvalidGroups e5_InvalidGroups : Option Value}
    {nm_InvalidLength q_InvalidLength : Str} {N_InvalidLength : Addr} {bs_InvalidLength : List Value} {sn_InvalidLength : List Str} {sub_InvalidLength : List Value} {ab_InvalidLength : Bool} {col_InvalidLength : Option Bool} {dd_InvalidLength : Option Addr} {e0_InvalidLength e1_InvalidLength e2_InvalidLength e3_InvalidLength e5_InvalidLength : Option Value}
    {nm_InvalidPaces q_InvalidPaces : Str} {N_InvalidPaces : Addr} {bs_InvalidPaces : List Value} {sn_InvalidPaces : List Str} {sub_InvalidPaces : List Value} {ab_InvalidPaces : Bool} {col_InvalidPaces : Option Bool} {dd_InvalidPaces : Option Addr} {e0_InvalidPaces e1_InvalidPaces e2_InvalidPaces e3_InvalidPaces e5_InvalidPaces : Option Value}
    {nm_InvalidPlace q_InvalidPlace : Str} {N_InvalidPlace : Addr} {bs_InvalidPlace : List Value} {sn_InvalidPlace : List Str} {sub_InvalidPlace : List Value} {ab_InvalidPlace : Bool} {col_InvalidPlace : Option Bool} {dd_InvalidPlace : Option Addr} {e0_InvalidPlace e1_InvalidPlace e2_InvalidPlace e3_InvalidPlace e5_InvalidPlace : Option Value}
    {nm_InvalidTime q_InvalidTime : Str} {N_InvalidTime : Addr} {bs_InvalidTime : List Value} {sn_InvalidTime : List Str} {sub_InvalidTime : List Value} {ab_InvalidTime : Bool} {col_InvalidTime : Option Bool} {dd_InvalidTime : Option Addr} {e0_InvalidTime e1_InvalidTime e2_InvalidTime e3_InvalidTime e5_InvalidTime : Option Value}
    {nm_InvalidWidth q_InvalidWidth : Str} {N_InvalidWidth : Addr} {bs_InvalidWidth : List Value} {sn_InvalidWidth : List Str} {sub_InvalidWidth : List Value} {ab_InvalidWidth : Bool} {col_InvalidWidth : Option Bool} {dd_InvalidWidth : Option Addr} {e0_InvalidWidth e1_InvalidWidth e2_InvalidWidth e3_InvalidWidth e5_InvalidWidth : Option Value}
    {nm_InvalidWindow q_InvalidWindow : Str} {N_InvalidWindow : Addr} {bs_InvalidWindow : List Value} {sn_InvalidWindow : List Str} {sub_InvalidWindow : List Value} {ab_InvalidWindow : Bool} {col_InvalidWindow : Option Bool} {dd_InvalidWindow : Option Addr} {e0_InvalidWindow e1_InvalidWindow e2_InvalidWindow e3_InvalidWindow e5_InvalidWindow : Option Value}
    {nm_NotARecord q_NotARecord : Str} {N_NotARecord : Addr} {bs_NotARecord : List Value} {sn_NotARecord : List Str} {sub_NotARecord : List Value} {ab_NotARecord : Bool} {col_NotARecord : Option Bool} {dd_NotARecord : Option Addr} {e0_NotARecord e1_NotARecord e2_NotARecord e3_NotARecord e5_NotARecord : Option Value}
    {u0 : Tok}
    {u1 : Tok}
    {u2 : Tok}
    {u3 : Tok}
    {u4 : Tok}
    {u5 : Tok}
    {u6 : Tok}
    {u7 : Tok}
    {u8 : Tok}
    (aC_Record : PySem.W.nsIn K mainGlobals "Record" = some (some (.ref C_Record)))
    (aC_NotASign : PySem.W.nsIn K mainGlobals "NotASign" = some (some (.ref C_NotASign)))
    (aC_NotARecord : PySem.W.nsIn K mainGlobals "NotARecord" = some (some (.ref C_NotARecord)))
    (aC_InvalidText : PySem.W.nsIn K mainGlobals "InvalidText" = some (some (.ref C_InvalidText)))
    (aC_InvalidPace : PySem.W.nsIn K mainGlobals "InvalidPace" = some (some (.ref C_InvalidPace)))
    (aC_InvalidWidth : PySem.W.nsIn K mainGlobals "InvalidWidth" = some (some (.ref C_InvalidWidth)))
    (aC_InvalidPlace : PySem.W.nsIn K mainGlobals "InvalidPlace" = some (some (.ref C_InvalidPlace)))
    (aC_InvalidLength : PySem.W.nsIn K mainGlobals "InvalidLength" = some (some (.ref C_InvalidLength)))
    (aC_InvalidTime : PySem.W.nsIn K mainGlobals "InvalidTime" = some (some (.ref C_InvalidTime)))
    (aC_InvalidWindow : PySem.W.nsIn K mainGlobals "InvalidWindow" = some (some (.ref C_InvalidWindow)))
    (aC_InvalidName : PySem.W.nsIn K mainGlobals "InvalidName" = some (some (.ref C_InvalidName)))
    (aC_InvalidClaim : PySem.W.nsIn K mainGlobals "InvalidClaim" = some (some (.ref C_InvalidClaim)))
    (aC_InvalidIndex : PySem.W.nsIn K mainGlobals "InvalidIndex" = some (some (.ref C_InvalidIndex)))
    (aC_InvalidLine : PySem.W.nsIn K mainGlobals "InvalidLine" = some (some (.ref C_InvalidLine)))
    (aC_InvalidDead : PySem.W.nsIn K mainGlobals "InvalidDead" = some (some (.ref C_InvalidDead)))
    (aC_InvalidPaces : PySem.W.nsIn K mainGlobals "InvalidPaces" = some (some (.ref C_InvalidPaces)))
    (aC_InvalidGroups : PySem.W.nsIn K mainGlobals "InvalidGroups" = some (some (.ref C_InvalidGroups)))
    (aC_InvalidTimes : PySem.W.nsIn K mainGlobals "InvalidTimes" = some (some (.ref C_InvalidTimes)))
    (aC_InvalidDeeds : PySem.W.nsIn K mainGlobals "InvalidDeeds" = some (some (.ref C_InvalidDeeds)))
    (aC_UnknownName : PySem.W.nsIn K mainGlobals "UnknownName" = some (some (.ref C_UnknownName)))
    (aC_InUse : PySem.W.nsIn K mainGlobals "InUse" = some (some (.ref C_InUse)))
    (aC_TooMany : PySem.W.nsIn K mainGlobals "TooMany" = some (some (.ref C_TooMany)))
    (aC_OtherKind : PySem.W.nsIn K mainGlobals "OtherKind" = some (some (.ref C_OtherKind)))
    (aC_Broken : PySem.W.nsIn K mainGlobals "Broken" = some (some (.ref C_Broken)))
    (aC_NothingToUndo : PySem.W.nsIn K mainGlobals "NothingToUndo" = some (some (.ref C_NothingToUndo)))
    (aC_WrongValue : PySem.W.nsIn K mainGlobals "WrongValue" = some (some (.ref C_WrongValue)))
    (aC_WrongName : PySem.W.nsIn K mainGlobals "WrongName" = some (some (.ref C_WrongName)))
    (aC_NoAnswer : PySem.W.nsIn K mainGlobals "NoAnswer" = some (some (.ref C_NoAnswer)))
    (a0 : PySem.W.nsIn K mainGlobals "_law_sip" = some (some (.ref f0)))
    (l0 : K.lookup f0 = some ⟨oc0, od0, .func (PySem.W.fnOf "_law_sip" "_law_sip" (defArgs s_l_sip) (defBody s_l_sip) (defScope s_l_sip) .none kV0 dc0 pm0 an0 cd0 ct0), sl0⟩)
    (c0 : PySem.W.codeIn K cd0 "_law_sip" = true)
    (k0 : PySem.W.keepIn K (.ref f0) = true)
    (a1 : PySem.W.nsIn K mainGlobals "_law_cup" = some (some (.ref f1)))
    (l1 : K.lookup f1 = some ⟨oc1, od1, .func (PySem.W.fnOf "_law_cup" "_law_cup" (defArgs s_l_cup) (defBody s_l_cup) (defScope s_l_cup) .none kV1 dc1 pm1 an1 cd1 ct1), sl1⟩)
    (c1 : PySem.W.codeIn K cd1 "_law_cup" = true)
    (k1 : PySem.W.keepIn K (.ref f1) = true)
    (a2 : PySem.W.nsIn K mainGlobals "_law_classes" = some (some (.ref f2)))
    (l2 : K.lookup f2 = some ⟨oc2, od2, .func (PySem.W.fnOf "_law_classes" "_law_classes" (defArgs s_l_classes) (defBody s_l_classes) (defScope s_l_classes) .none kV2 dc2 pm2 an2 cd2 ct2), sl2⟩)
    (c2 : PySem.W.codeIn K cd2 "_law_classes" = true)
    (k2 : PySem.W.keepIn K (.ref f2) = true)
    (a3 : PySem.W.nsIn K mainGlobals "_law_caught" = some (some (.ref f3)))
    (l3 : K.lookup f3 = some ⟨oc3, od3, .func (PySem.W.fnOf "_law_caught" "_law_caught" (defArgs s_l_caught) (defBody s_l_caught) (defScope s_l_caught) .none kV3 dc3 pm3 an3 cd3 ct3), sl3⟩)
    (c3 : PySem.W.codeIn K cd3 "_law_caught" = true)
    (k3 : PySem.W.keepIn K (.ref f3) = true)
    (a4 : PySem.W.nsIn K mainGlobals "_law_pick" = some (some (.ref f4)))
    (l4 : K.lookup f4 = some ⟨oc4, od4, .func (PySem.W.fnOf "_law_pick" "_law_pick" (defArgs s_l_pick) (defBody s_l_pick) (defScope s_l_pick) .none kV4 dc4 pm4 an4 cd4 ct4), sl4⟩)
    (c4 : PySem.W.codeIn K cd4 "_law_pick" = true)
    (k4 : PySem.W.keepIn K (.ref f4) = true)
    (a5 : PySem.W.nsIn K mainGlobals "check_record" = some (some (.ref f5)))
    (l5 : K.lookup f5 = some ⟨oc5, od5, .func (PySem.W.fnOf "check_record" "check_record" (defArgs s_check_record) (defBody s_check_record) (defScope s_check_record) .none kV5 dc5 pm5 an5 cd5 ct5), sl5⟩)
    (c5 : PySem.W.codeIn K cd5 "check_record" = true)
    (k5 : PySem.W.keepIn K (.ref f5) = true)
    (a6 : PySem.W.nsIn K mainGlobals "is_whole" = some (some (.ref f6)))
    (l6 : K.lookup f6 = some ⟨oc6, od6, .func (PySem.W.fnOf "is_whole" "is_whole" (defArgs s_is_whole) (defBody s_is_whole) (defScope s_is_whole) .none kV6 dc6 pm6 an6 cd6 ct6), sl6⟩)
    (c6 : PySem.W.codeIn K cd6 "is_whole" = true)
    (k6 : PySem.W.keepIn K (.ref f6) = true)
    (a7 : PySem.W.nsIn K mainGlobals "is_time" = some (some (.ref f7)))
    (l7 : K.lookup f7 = some ⟨oc7, od7, .func (PySem.W.fnOf "is_time" "is_time" (defArgs s_is_time) (defBody s_is_time) (defScope s_is_time) .none kV7 dc7 pm7 an7 cd7 ct7), sl7⟩)
    (c7 : PySem.W.codeIn K cd7 "is_time" = true)
    (k7 : PySem.W.keepIn K (.ref f7) = true)
    (a8 : PySem.W.nsIn K mainGlobals "check_time" = some (some (.ref f8)))
    (l8 : K.lookup f8 = some ⟨oc8, od8, .func (PySem.W.fnOf "check_time" "check_time" (defArgs s_check_time) (defBody s_check_time) (defScope s_check_time) .none kV8 dc8 pm8 an8 cd8 ct8), sl8⟩)
    (c8 : PySem.W.codeIn K cd8 "check_time" = true)
    (k8 : PySem.W.keepIn K (.ref f8) = true)
    (a9 : PySem.W.nsIn K mainGlobals "letters_for" = some (some (.ref f9)))
    (l9 : K.lookup f9 = some ⟨oc9, od9, .func (PySem.W.fnOf "letters_for" "letters_for" (defArgs s_letters_for) (defBody s_letters_for) (defScope s_letters_for) .none kV9 dc9 pm9 an9 cd9 ct9), sl9⟩)
    (c9 : PySem.W.codeIn K cd9 "letters_for" = true)
    (k9 : PySem.W.keepIn K (.ref f9) = true)
    (a10 : PySem.W.nsIn K mainGlobals "is_reading" = some (some (.ref f10)))
    (l10 : K.lookup f10 = some ⟨oc10, od10, .func (PySem.W.fnOf "is_reading" "is_reading" (defArgs s_is_reading) (defBody s_is_reading) (defScope s_is_reading) .none kV10 dc10 pm10 an10 cd10 ct10), sl10⟩)
    (c10 : PySem.W.codeIn K cd10 "is_reading" = true)
    (k10 : PySem.W.keepIn K (.ref f10) = true)
    (a11 : PySem.W.nsIn K mainGlobals "check_window" = some (some (.ref f11)))
    (l11 : K.lookup f11 = some ⟨oc11, od11, .func (PySem.W.fnOf "check_window" "check_window" (defArgs s_check_window) (defBody s_check_window) (defScope s_check_window) .none kV11 dc11 pm11 an11 cd11 ct11), sl11⟩)
    (c11 : PySem.W.codeIn K cd11 "check_window" = true)
    (k11 : PySem.W.keepIn K (.ref f11) = true)
    (a12 : PySem.W.nsIn K mainGlobals "mask_of" = some (some (.ref f12)))
    (l12 : K.lookup f12 = some ⟨oc12, od12, .func (PySem.W.fnOf "mask_of" "mask_of" (defArgs s_mask_of) (defBody s_mask_of) (defScope s_mask_of) .none kV12 dc12 pm12 an12 cd12 ct12), sl12⟩)
    (c12 : PySem.W.codeIn K cd12 "mask_of" = true)
    (k12 : PySem.W.keepIn K (.ref f12) = true)
    (a13 : PySem.W.nsIn K mainGlobals "masks_for" = some (some (.ref f13)))
    (l13 : K.lookup f13 = some ⟨oc13, od13, .func (PySem.W.fnOf "masks_for" "masks_for" (defArgs s_masks_for) (defBody s_masks_for) (defScope s_masks_for) .none kV13 dc13 pm13 an13 cd13 ct13), sl13⟩)
    (c13 : PySem.W.codeIn K cd13 "masks_for" = true)
    (k13 : PySem.W.keepIn K (.ref f13) = true)
    (a14 : PySem.W.findIn K (.ref C_Record) "glances" = some (some (.ref p14)))
    (g14 : PySem.W.specialIn K (.ref p14) "__get__" = some (some (.builtin "property.__get__")))
    (t14 : PySem.W.takesIn K (.ref p14) = some true)
    (r14 : PySem.W.recIn K p14 "property" = some (.ref f14 :: rest14))
    (l14 : K.lookup f14 = some ⟨oc14, od14, .func (PySem.W.fnOf "glances" "Record.glances" (defArgs s_Record_glances) (defBody s_Record_glances) (defScope s_Record_glances) .none kV14 dc14 pm14 an14 cd14 ct14), sl14⟩)
    (c14 : PySem.W.codeIn K cd14 "Record.glances" = true)
    (k14 : PySem.W.keepIn K (.ref f14) = true)
    (a15 : PySem.W.findIn K (.ref C_Record) "groups" = some (some (.ref p15)))
    (g15 : PySem.W.specialIn K (.ref p15) "__get__" = some (some (.builtin "property.__get__")))
    (t15 : PySem.W.takesIn K (.ref p15) = some true)
    (r15 : PySem.W.recIn K p15 "property" = some (.ref f15 :: rest15))
    (l15 : K.lookup f15 = some ⟨oc15, od15, .func (PySem.W.fnOf "groups" "Record.groups" (defArgs s_Record_groups) (defBody s_Record_groups) (defScope s_Record_groups) .none kV15 dc15 pm15 an15 cd15 ct15), sl15⟩)
    (c15 : PySem.W.codeIn K cd15 "Record.groups" = true)
    (k15 : PySem.W.keepIn K (.ref f15) = true)
    (a16 : PySem.W.nsIn K mainGlobals "glimpses" = some (some (.ref f16)))
    (l16 : K.lookup f16 = some ⟨oc16, od16, .func (PySem.W.fnOf "glimpses" "glimpses" (defArgs s_glimpses) (defBody s_glimpses) (defScope s_glimpses) .none kV16 dc16 pm16 an16 cd16 ct16), sl16⟩)
    (c16 : PySem.W.codeIn K cd16 "glimpses" = true)
    (k16 : PySem.W.keepIn K (.ref f16) = true)
    (a17 : PySem.W.findIn K (.ref C_Record) "least" = some (some (.ref p17)))
    (g17 : PySem.W.specialIn K (.ref p17) "__get__" = some (some (.builtin "property.__get__")))
    (t17 : PySem.W.takesIn K (.ref p17) = some true)
    (r17 : PySem.W.recIn K p17 "property" = some (.ref f17 :: rest17))
    (l17 : K.lookup f17 = some ⟨oc17, od17, .func (PySem.W.fnOf "least" "Record.least" (defArgs s_Record_least) (defBody s_Record_least) (defScope s_Record_least) .none kV17 dc17 pm17 an17 cd17 ct17), sl17⟩)
    (c17 : PySem.W.codeIn K cd17 "Record.least" = true)
    (k17 : PySem.W.keepIn K (.ref f17) = true)
    (a18 : PySem.W.findIn K (.ref C_Record) "most" = some (some (.ref p18)))
    (g18 : PySem.W.specialIn K (.ref p18) "__get__" = some (some (.builtin "property.__get__")))
    (t18 : PySem.W.takesIn K (.ref p18) = some true)
    (r18 : PySem.W.recIn K p18 "property" = some (.ref f18 :: rest18))
    (l18 : K.lookup f18 = some ⟨oc18, od18, .func (PySem.W.fnOf "most" "Record.most" (defArgs s_Record_most) (defBody s_Record_most) (defScope s_Record_most) .none kV18 dc18 pm18 an18 cd18 ct18), sl18⟩)
    (c18 : PySem.W.codeIn K cd18 "Record.most" = true)
    (k18 : PySem.W.keepIn K (.ref f18) = true)
    (a19 : PySem.W.findIn K (.ref C_Record) "paces" = some (some (.ref p19)))
    (g19 : PySem.W.specialIn K (.ref p19) "__get__" = some (some (.builtin "property.__get__")))
    (t19 : PySem.W.takesIn K (.ref p19) = some true)
    (r19 : PySem.W.recIn K p19 "property" = some (.ref f19 :: rest19))
    (l19 : K.lookup f19 = some ⟨oc19, od19, .func (PySem.W.fnOf "paces" "Record.paces" (defArgs s_Record_paces) (defBody s_Record_paces) (defScope s_Record_paces) .none kV19 dc19 pm19 an19 cd19 ct19), sl19⟩)
    (c19 : PySem.W.codeIn K cd19 "Record.paces" = true)
    (k19 : PySem.W.keepIn K (.ref f19) = true)
    (a20 : PySem.W.nsIn K mainGlobals "let_pairs" = some (some (.ref f20)))
    (l20 : K.lookup f20 = some ⟨oc20, od20, .func (PySem.W.fnOf "let_pairs" "let_pairs" (defArgs s_let_pairs) (defBody s_let_pairs) (defScope s_let_pairs) .none kV20 dc20 pm20 an20 cd20 ct20), sl20⟩)
    (c20 : PySem.W.codeIn K cd20 "let_pairs" = true)
    (k20 : PySem.W.keepIn K (.ref f20) = true)
    (a21 : PySem.W.nsIn K mainGlobals "number_at" = some (some (.ref f21)))
    (l21 : K.lookup f21 = some ⟨oc21, od21, .func (PySem.W.fnOf "number_at" "number_at" (defArgs s_number_at) (defBody s_number_at) (defScope s_number_at) .none kV21 dc21 pm21 an21 cd21 ct21), sl21⟩)
    (c21 : PySem.W.codeIn K cd21 "number_at" = true)
    (k21 : PySem.W.keepIn K (.ref f21) = true)
    (a22 : PySem.W.nsIn K mainGlobals "numbers_at" = some (some (.ref f22)))
    (l22 : K.lookup f22 = some ⟨oc22, od22, .func (PySem.W.fnOf "numbers_at" "numbers_at" (defArgs s_numbers_at) (defBody s_numbers_at) (defScope s_numbers_at) .none kV22 dc22 pm22 an22 cd22 ct22), sl22⟩)
    (c22 : PySem.W.codeIn K cd22 "numbers_at" = true)
    (k22 : PySem.W.keepIn K (.ref f22) = true)
    (a23 : PySem.W.nsIn K mainGlobals "cells" = some (some (.ref f23)))
    (l23 : K.lookup f23 = some ⟨oc23, od23, .func (PySem.W.fnOf "cells" "cells" (defArgs s_cells) (defBody s_cells) (defScope s_cells) .none kV23 dc23 pm23 an23 cd23 ct23), sl23⟩)
    (c23 : PySem.W.codeIn K cd23 "cells" = true)
    (k23 : PySem.W.keepIn K (.ref f23) = true)
    (a24 : PySem.W.nsIn K mainGlobals "some_fits" = some (some (.ref f24)))
    (l24 : K.lookup f24 = some ⟨oc24, od24, .func (PySem.W.fnOf "some_fits" "some_fits" (defArgs s_some_fits) (defBody s_some_fits) (defScope s_some_fits) .none kV24 dc24 pm24 an24 cd24 ct24), sl24⟩)
    (c24 : PySem.W.codeIn K cd24 "some_fits" = true)
    (k24 : PySem.W.keepIn K (.ref f24) = true)
    (a25 : PySem.W.findIn K (.ref C_Record) "width" = some (some (.ref p25)))
    (g25 : PySem.W.specialIn K (.ref p25) "__get__" = some (some (.builtin "property.__get__")))
    (t25 : PySem.W.takesIn K (.ref p25) = some true)
    (r25 : PySem.W.recIn K p25 "property" = some (.ref f25 :: rest25))
    (l25 : K.lookup f25 = some ⟨oc25, od25, .func (PySem.W.fnOf "width" "Record.width" (defArgs s_Record_width) (defBody s_Record_width) (defScope s_Record_width) .none kV25 dc25 pm25 an25 cd25 ct25), sl25⟩)
    (c25 : PySem.W.codeIn K cd25 "Record.width" = true)
    (k25 : PySem.W.keepIn K (.ref f25) = true)
    (a26 : PySem.W.nsIn K mainGlobals "can" = some (some (.ref f26)))
    (l26 : K.lookup f26 = some ⟨oc26, od26, .func (PySem.W.fnOf "can" "can" (defArgs s_can) (defBody s_can) (defScope s_can) .none kV26 dc26 pm26 an26 cd26 ct26), sl26⟩)
    (c26 : PySem.W.codeIn K cd26 "can" = true)
    (k26 : PySem.W.keepIn K (.ref f26) = true)
    (a27 : PySem.W.nsIn K mainGlobals "possible" = some (some (.ref f27)))
    (l27 : K.lookup f27 = some ⟨oc27, od27, .func (PySem.W.fnOf "possible" "possible" (defArgs s_possible) (defBody s_possible) (defScope s_possible) .none kV27 dc27 pm27 an27 cd27 ct27), sl27⟩)
    (c27 : PySem.W.codeIn K cd27 "possible" = true)
    (k27 : PySem.W.keepIn K (.ref f27) = true)
    (a28 : PySem.W.nsIn K mainGlobals "windows_at" = some (some (.ref f28)))
    (l28 : K.lookup f28 = some ⟨oc28, od28, .func (PySem.W.fnOf "windows_at" "windows_at" (defArgs s_windows_at) (defBody s_windows_at) (defScope s_windows_at) .none kV28 dc28 pm28 an28 cd28 ct28), sl28⟩)
    (c28 : PySem.W.codeIn K cd28 "windows_at" = true)
    (k28 : PySem.W.keepIn K (.ref f28) = true)
    (a29 : PySem.W.nsIn K mainGlobals "all_at" = some (some (.ref f29)))
    (l29 : K.lookup f29 = some ⟨oc29, od29, .func (PySem.W.fnOf "all_at" "all_at" (defArgs s_all_at) (defBody s_all_at) (defScope s_all_at) .none kV29 dc29 pm29 an29 cd29 ct29), sl29⟩)
    (c29 : PySem.W.codeIn K cd29 "all_at" = true)
    (k29 : PySem.W.keepIn K (.ref f29) = true)
    (a30 : PySem.W.nsIn K mainGlobals "check_place" = some (some (.ref f30)))
    (l30 : K.lookup f30 = some ⟨oc30, od30, .func (PySem.W.fnOf "check_place" "check_place" (defArgs s_check_place) (defBody s_check_place) (defScope s_check_place) .none kV30 dc30 pm30 an30 cd30 ct30), sl30⟩)
    (c30 : PySem.W.codeIn K cd30 "check_place" = true)
    (k30 : PySem.W.keepIn K (.ref f30) = true)
    (a31 : PySem.W.nsIn K mainGlobals "letters_in" = some (some (.ref f31)))
    (l31 : K.lookup f31 = some ⟨oc31, od31, .func (PySem.W.fnOf "letters_in" "letters_in" (defArgs s_letters_in) (defBody s_letters_in) (defScope s_letters_in) .none kV31 dc31 pm31 an31 cd31 ct31), sl31⟩)
    (c31 : PySem.W.codeIn K cd31 "letters_in" = true)
    (k31 : PySem.W.keepIn K (.ref f31) = true)
    (a32 : PySem.W.nsIn K mainGlobals "letters" = some (some (.ref f32)))
    (l32 : K.lookup f32 = some ⟨oc32, od32, .func (PySem.W.fnOf "letters" "letters" (defArgs s_letters) (defBody s_letters) (defScope s_letters) .none kV32 dc32 pm32 an32 cd32 ct32), sl32⟩)
    (c32 : PySem.W.codeIn K cd32 "letters" = true)
    (k32 : PySem.W.keepIn K (.ref f32) = true)
    (a33 : PySem.W.nsIn K mainGlobals "are_within" = some (some (.ref f33)))
    (l33 : K.lookup f33 = some ⟨oc33, od33, .func (PySem.W.fnOf "are_within" "are_within" (defArgs s_are_within) (defBody s_are_within) (defScope s_are_within) .none kV33 dc33 pm33 an33 cd33 ct33), sl33⟩)
    (c33 : PySem.W.codeIn K cd33 "are_within" = true)
    (k33 : PySem.W.keepIn K (.ref f33) = true)
    (a34 : PySem.W.nsIn K mainGlobals "must" = some (some (.ref f34)))
    (l34 : K.lookup f34 = some ⟨oc34, od34, .func (PySem.W.fnOf "must" "must" (defArgs s_must) (defBody s_must) (defScope s_must) .none kV34 dc34 pm34 an34 cd34 ct34), sl34⟩)
    (c34 : PySem.W.codeIn K cd34 "must" = true)
    (k34 : PySem.W.keepIn K (.ref f34) = true)
    (a35 : PySem.W.nsIn K mainGlobals "only_letter" = some (some (.ref f35)))
    (l35 : K.lookup f35 = some ⟨oc35, od35, .func (PySem.W.fnOf "only_letter" "only_letter" (defArgs s_only_letter) (defBody s_only_letter) (defScope s_only_letter) .none kV35 dc35 pm35 an35 cd35 ct35), sl35⟩)
    (c35 : PySem.W.codeIn K cd35 "only_letter" = true)
    (k35 : PySem.W.keepIn K (.ref f35) = true)
    (a36 : PySem.W.nsIn K mainGlobals "sure" = some (some (.ref f36)))
    (l36 : K.lookup f36 = some ⟨oc36, od36, .func (PySem.W.fnOf "sure" "sure" (defArgs s_sure) (defBody s_sure) (defScope s_sure) .none kV36 dc36 pm36 an36 cd36 ct36), sl36⟩)
    (c36 : PySem.W.codeIn K cd36 "sure" = true)
    (k36 : PySem.W.keepIn K (.ref f36) = true)
    (a37 : PySem.W.nsIn K mainGlobals "first_not_rising" = some (some (.ref f37)))
    (l37 : K.lookup f37 = some ⟨oc37, od37, .func (PySem.W.fnOf "first_not_rising" "first_not_rising" (defArgs s_first_not_rising) (defBody s_first_not_rising) (defScope s_first_not_rising) .none kV37 dc37 pm37 an37 cd37 ct37), sl37⟩)
    (c37 : PySem.W.codeIn K cd37 "first_not_rising" = true)
    (k37 : PySem.W.keepIn K (.ref f37) = true)
    (a38 : PySem.W.nsIn K mainGlobals "check_dead" = some (some (.ref f38)))
    (l38 : K.lookup f38 = some ⟨oc38, od38, .func (PySem.W.fnOf "check_dead" "check_dead" (defArgs s_check_dead) (defBody s_check_dead) (defScope s_check_dead) .none kV38 dc38 pm38 an38 cd38 ct38), sl38⟩)
    (c38 : PySem.W.codeIn K cd38 "check_dead" = true)
    (k38 : PySem.W.keepIn K (.ref f38) = true)
    (a39 : PySem.W.nsIn K mainGlobals "is_group" = some (some (.ref f39)))
    (l39 : K.lookup f39 = some ⟨oc39, od39, .func (PySem.W.fnOf "is_group" "is_group" (defArgs s_is_group) (defBody s_is_group) (defScope s_is_group) .none kV39 dc39 pm39 an39 cd39 ct39), sl39⟩)
    (c39 : PySem.W.codeIn K cd39 "is_group" = true)
    (k39 : PySem.W.keepIn K (.ref f39) = true)
    (a40 : PySem.W.nsIn K mainGlobals "first_no_group" = some (some (.ref f40)))
    (l40 : K.lookup f40 = some ⟨oc40, od40, .func (PySem.W.fnOf "first_no_group" "first_no_group" (defArgs s_first_no_group) (defBody s_first_no_group) (defScope s_first_no_group) .none kV40 dc40 pm40 an40 cd40 ct40), sl40⟩)
    (c40 : PySem.W.codeIn K cd40 "first_no_group" = true)
    (k40 : PySem.W.keepIn K (.ref f40) = true)
    (a41 : PySem.W.nsIn K mainGlobals "check_groups" = some (some (.ref f41)))
    (l41 : K.lookup f41 = some ⟨oc41, od41, .func (PySem.W.fnOf "check_groups" "check_groups" (defArgs s_check_groups) (defBody s_check_groups) (defScope s_check_groups) .none kV41 dc41 pm41 an41 cd41 ct41), sl41⟩)
    (c41 : PySem.W.codeIn K cd41 "check_groups" = true)
    (k41 : PySem.W.keepIn K (.ref f41) = true)
    (a42 : PySem.W.nsIn K mainGlobals "is_length" = some (some (.ref f42)))
    (l42 : K.lookup f42 = some ⟨oc42, od42, .func (PySem.W.fnOf "is_length" "is_length" (defArgs s_is_length) (defBody s_is_length) (defScope s_is_length) .none kV42 dc42 pm42 an42 cd42 ct42), sl42⟩)
    (c42 : PySem.W.codeIn K cd42 "is_length" = true)
    (k42 : PySem.W.keepIn K (.ref f42) = true)
    (a43 : PySem.W.nsIn K mainGlobals "check_length" = some (some (.ref f43)))
    (l43 : K.lookup f43 = some ⟨oc43, od43, .func (PySem.W.fnOf "check_length" "check_length" (defArgs s_check_length) (defBody s_check_length) (defScope s_check_length) .none kV43 dc43 pm43 an43 cd43 ct43), sl43⟩)
    (c43 : PySem.W.codeIn K cd43 "check_length" = true)
    (k43 : PySem.W.keepIn K (.ref f43) = true)
    (a44 : PySem.W.nsIn K mainGlobals "check_paces" = some (some (.ref f44)))
    (l44 : K.lookup f44 = some ⟨oc44, od44, .func (PySem.W.fnOf "check_paces" "check_paces" (defArgs s_check_paces) (defBody s_check_paces) (defScope s_check_paces) .none kV44 dc44 pm44 an44 cd44 ct44), sl44⟩)
    (c44 : PySem.W.codeIn K cd44 "check_paces" = true)
    (k44 : PySem.W.keepIn K (.ref f44) = true)
    (a45 : PySem.W.nsIn K mainGlobals "check_width" = some (some (.ref f45)))
    (l45 : K.lookup f45 = some ⟨oc45, od45, .func (PySem.W.fnOf "check_width" "check_width" (defArgs s_check_width) (defBody s_check_width) (defScope s_check_width) .none kV45 dc45 pm45 an45 cd45 ct45), sl45⟩)
    (c45 : PySem.W.codeIn K cd45 "check_width" = true)
    (k45 : PySem.W.keepIn K (.ref f45) = true)
    (a46 : PySem.W.findIn K (.ref C_Record) "__init__" = some (some (.ref f46)))
    (i46 : PySem.W.isFn K (.ref f46) = true)
    (d46_0 : PySem.W.nsIn K D46 "dead" = some (some (.ref T46_0)))
    (t46_0 : K.lookup T46_0 = some ⟨.type "tuple", to46_0, .seq #[] tn46_0, ts46_0⟩)
    (d46_1 : PySem.W.nsIn K D46 "least" = some (some (.int 1 x46_1)))
    (d46_2 : PySem.W.nsIn K D46 "most" = some (some (.int 20 x46_2)))
    (d46_3 : PySem.W.nsIn K D46 "paces" = some (some (.ref T46_3)))
    (t46_3 : K.lookup T46_3 = some ⟨.type "tuple", to46_3, .seq #[.int 1 y46_3_0] tn46_3, ts46_3⟩)
    (d46_4 : PySem.W.nsIn K D46 "groups" = some (some (.ref T46_4)))
    (t46_4 : K.lookup T46_4 = some ⟨.type "tuple", to46_4, .seq #[] tn46_4, ts46_4⟩)
    (l46 : K.lookup f46 = some ⟨oc46, od46, .func (PySem.W.fnOf "__init__" "Record.__init__" (defArgs s_Record_init) (defBody s_Record_init) (defScope s_Record_init) .none (.ref D46) dc46 pm46 an46 cd46 ct46), sl46⟩)
    (c46 : PySem.W.codeIn K cd46 "Record.__init__" = true)
    (k46 : PySem.W.keepIn K (.ref f46) = true)
    (a47 : PySem.W.nsIn K mainGlobals "unread_where_dead" = some (some (.ref f47)))
    (l47 : K.lookup f47 = some ⟨oc47, od47, .func (PySem.W.fnOf "unread_where_dead" "unread_where_dead" (defArgs s_unread_where_dead) (defBody s_unread_where_dead) (defScope s_unread_where_dead) .none kV47 dc47 pm47 an47 cd47 ct47), sl47⟩)
    (c47 : PySem.W.codeIn K cd47 "unread_where_dead" = true)
    (k47 : PySem.W.keepIn K (.ref f47) = true)
    (a48 : PySem.W.findIn K (.ref C_Record) "told" = some (some (.ref p48)))
    (g48 : PySem.W.specialIn K (.ref p48) "__get__" = some (some (.builtin "property.__get__")))
    (t48 : PySem.W.takesIn K (.ref p48) = some true)
    (r48 : PySem.W.recIn K p48 "property" = some (.ref f48 :: rest48))
    (l48 : K.lookup f48 = some ⟨oc48, od48, .func (PySem.W.fnOf "told" "Record.told" (defArgs s_Record_told) (defBody s_Record_told) (defScope s_Record_told) .none kV48 dc48 pm48 an48 cd48 ct48), sl48⟩)
    (c48 : PySem.W.codeIn K cd48 "Record.told" = true)
    (k48 : PySem.W.keepIn K (.ref f48) = true)
    (a49 : PySem.W.nsIn K mainGlobals "with_glances" = some (some (.ref f49)))
    (l49 : K.lookup f49 = some ⟨oc49, od49, .func (PySem.W.fnOf "with_glances" "with_glances" (defArgs s_with_glances) (defBody s_with_glances) (defScope s_with_glances) .none kV49 dc49 pm49 an49 cd49 ct49), sl49⟩)
    (c49 : PySem.W.codeIn K cd49 "with_glances" = true)
    (k49 : PySem.W.keepIn K (.ref f49) = true)
    (a50 : PySem.W.findIn K (.ref C_Record) "dead" = some (some (.ref p50)))
    (g50 : PySem.W.specialIn K (.ref p50) "__get__" = some (some (.builtin "property.__get__")))
    (t50 : PySem.W.takesIn K (.ref p50) = some true)
    (r50 : PySem.W.recIn K p50 "property" = some (.ref f50 :: rest50))
    (l50 : K.lookup f50 = some ⟨oc50, od50, .func (PySem.W.fnOf "dead" "Record.dead" (defArgs s_Record_dead) (defBody s_Record_dead) (defScope s_Record_dead) .none kV50 dc50 pm50 an50 cd50 ct50), sl50⟩)
    (c50 : PySem.W.codeIn K cd50 "Record.dead" = true)
    (k50 : PySem.W.keepIn K (.ref f50) = true)
    (a51 : PySem.W.findIn K (.ref C_Record) "seen" = some (some (.ref f51)))
    (i51 : PySem.W.isFn K (.ref f51) = true)
    (l51 : K.lookup f51 = some ⟨oc51, od51, .func (PySem.W.fnOf "seen" "Record.seen" (defArgs s_Record_seen) (defBody s_Record_seen) (defScope s_Record_seen) .none kV51 dc51 pm51 an51 cd51 ct51), sl51⟩)
    (c51 : PySem.W.codeIn K cd51 "Record.seen" = true)
    (k51 : PySem.W.keepIn K (.ref f51) = true)
    (a52 : PySem.W.nsIn K mainGlobals "_law_right" = some (some (.ref f52)))
    (l52 : K.lookup f52 = some ⟨oc52, od52, .func (PySem.W.fnOf "_law_right" "_law_right" (defArgs s_l_right) (defBody s_l_right) (defScope s_l_right) .none kV52 dc52 pm52 an52 (.ref cc52) ct52), sl52⟩)
    (c52 : PySem.W.codeIn K (.ref cc52) "_law_right" = true)
    (k52 : PySem.W.keepIn K (.ref f52) = true)
    (cl52 : K.lookup cc52 = some ⟨q1_52, q2_52, .fields vs_52, q3_52⟩)
    (cv52 : vs_52[11]? = some (.ref pp52))
    (tn52 : K.lookup pp52 = none)
    (rc52 : (recsOf q0).find? (fun e => e.name == ("_law_right" : Str)) = some e_52)
    (a53 : PySem.W.nsIn K mainGlobals "law" = some (some (.ref f53)))
    (l53 : K.lookup f53 = some ⟨oc53, od53, .func (PySem.W.fnOf "law" "law" (defArgs s_law) (defBody s_law) (defScope s_law) .none kV53 dc53 pm53 an53 (.ref cc53) ct53), sl53⟩)
    (c53 : PySem.W.codeIn K (.ref cc53) "law" = true)
    (k53 : PySem.W.keepIn K (.ref f53) = true)
    (cl53 : K.lookup cc53 = some ⟨q1_53, q2_53, .fields vs_53, q3_53⟩)
    (cv53 : vs_53[11]? = some (.ref pp53))
    (tn53 : K.lookup pp53 = none)
    (rc53 : (recsOf q0).find? (fun e => e.name == ("law" : Str)) = some e_53)
    (a54 : PySem.W.findIn K (.ref C_InvalidDead) "__init__" = some (some (.ref f54)))
    (i54 : PySem.W.typeIn K (.ref f54) = some (.type "function"))
    (l54 : K.lookup f54 = some ⟨oc54, od54, .func (PySem.W.fnOf "__init__" "InvalidDead.__init__" (defArgs s_InvalidDead_init) (defBody s_InvalidDead_init) (defScope s_InvalidDead_init) .none kV54 dc54 pm54 an54 cd54 ct54), sl54⟩)
    (c54 : PySem.W.codeIn K cd54 "InvalidDead.__init__" = true)
    (k54 : PySem.W.keepIn K (.ref f54) = true)
    (a55 : PySem.W.findIn K (.ref C_InvalidGroups) "__init__" = some (some (.ref f55)))
    (i55 : PySem.W.typeIn K (.ref f55) = some (.type "function"))
    (l55 : K.lookup f55 = some ⟨oc55, od55, .func (PySem.W.fnOf "__init__" "InvalidGroups.__init__" (defArgs s_InvalidGroups_init) (defBody s_InvalidGroups_init) (defScope s_InvalidGroups_init) .none kV55 dc55 pm55 an55 cd55 ct55), sl55⟩)
    (c55 : PySem.W.codeIn K cd55 "InvalidGroups.__init__" = true)
    (k55 : PySem.W.keepIn K (.ref f55) = true)
    (a56 : PySem.W.findIn K (.ref C_InvalidLength) "__init__" = some (some (.ref f56)))
    (i56 : PySem.W.typeIn K (.ref f56) = some (.type "function"))
    (l56 : K.lookup f56 = some ⟨oc56, od56, .func (PySem.W.fnOf "__init__" "InvalidLength.__init__" (defArgs s_InvalidLength_init) (defBody s_InvalidLength_init) (defScope s_InvalidLength_init) .none kV56 dc56 pm56 an56 cd56 ct56), sl56⟩)
    (c56 : PySem.W.codeIn K cd56 "InvalidLength.__init__" = true)
    (k56 : PySem.W.keepIn K (.ref f56) = true)
    (a57 : PySem.W.findIn K (.ref C_InvalidPaces) "__init__" = some (some (.ref f57)))
    (i57 : PySem.W.typeIn K (.ref f57) = some (.type "function"))
    (l57 : K.lookup f57 = some ⟨oc57, od57, .func (PySem.W.fnOf "__init__" "InvalidPaces.__init__" (defArgs s_InvalidPaces_init) (defBody s_InvalidPaces_init) (defScope s_InvalidPaces_init) .none kV57 dc57 pm57 an57 cd57 ct57), sl57⟩)
    (c57 : PySem.W.codeIn K cd57 "InvalidPaces.__init__" = true)
    (k57 : PySem.W.keepIn K (.ref f57) = true)
    (a58 : PySem.W.findIn K (.ref C_InvalidPlace) "__init__" = some (some (.ref f58)))
    (i58 : PySem.W.typeIn K (.ref f58) = some (.type "function"))
    (l58 : K.lookup f58 = some ⟨oc58, od58, .func (PySem.W.fnOf "__init__" "InvalidPlace.__init__" (defArgs s_InvalidPlace_init) (defBody s_InvalidPlace_init) (defScope s_InvalidPlace_init) .none kV58 dc58 pm58 an58 cd58 ct58), sl58⟩)
    (c58 : PySem.W.codeIn K cd58 "InvalidPlace.__init__" = true)
    (k58 : PySem.W.keepIn K (.ref f58) = true)
    (a59 : PySem.W.findIn K (.ref C_InvalidTime) "__init__" = some (some (.ref f59)))
    (i59 : PySem.W.typeIn K (.ref f59) = some (.type "function"))
    (l59 : K.lookup f59 = some ⟨oc59, od59, .func (PySem.W.fnOf "__init__" "InvalidTime.__init__" (defArgs s_InvalidTime_init) (defBody s_InvalidTime_init) (defScope s_InvalidTime_init) .none kV59 dc59 pm59 an59 cd59 ct59), sl59⟩)
    (c59 : PySem.W.codeIn K cd59 "InvalidTime.__init__" = true)
    (k59 : PySem.W.keepIn K (.ref f59) = true)
    (a60 : PySem.W.findIn K (.ref C_InvalidWidth) "__init__" = some (some (.ref f60)))
    (i60 : PySem.W.typeIn K (.ref f60) = some (.type "function"))
    (l60 : K.lookup f60 = some ⟨oc60, od60, .func (PySem.W.fnOf "__init__" "InvalidWidth.__init__" (defArgs s_InvalidWidth_init) (defBody s_InvalidWidth_init) (defScope s_InvalidWidth_init) .none kV60 dc60 pm60 an60 cd60 ct60), sl60⟩)
    (c60 : PySem.W.codeIn K cd60 "InvalidWidth.__init__" = true)
    (k60 : PySem.W.keepIn K (.ref f60) = true)
    (a61 : PySem.W.findIn K (.ref C_InvalidWindow) "__init__" = some (some (.ref f61)))
    (i61 : PySem.W.typeIn K (.ref f61) = some (.type "function"))
    (l61 : K.lookup f61 = some ⟨oc61, od61, .func (PySem.W.fnOf "__init__" "InvalidWindow.__init__" (defArgs s_InvalidWindow_init) (defBody s_InvalidWindow_init) (defScope s_InvalidWindow_init) .none kV61 dc61 pm61 an61 cd61 ct61), sl61⟩)
    (c61 : PySem.W.codeIn K cd61 "InvalidWindow.__init__" = true)
    (k61 : PySem.W.keepIn K (.ref f61) = true)
    (a62 : PySem.W.findIn K (.ref C_NotARecord) "__init__" = some (some (.ref f62)))
    (i62 : PySem.W.typeIn K (.ref f62) = some (.type "function"))
    (l62 : K.lookup f62 = some ⟨oc62, od62, .func (PySem.W.fnOf "__init__" "NotARecord.__init__" (defArgs s_NotARecord_init) (defBody s_NotARecord_init) (defScope s_NotARecord_init) .none kV62 dc62 pm62 an62 cd62 ct62), sl62⟩)
    (c62 : PySem.W.codeIn K cd62 "NotARecord.__init__" = true)
    (k62 : PySem.W.keepIn K (.ref f62) = true)
    (pg_Record : PySem.W.plainGet K C_Record Str.empty = true)
    (hd_Record : PySem.W.hasDictIn K C_Record = true)
    (po_Record : PySem.W.plainOver K C_Record = true)
    (sa_Record : PySem.W.findIn K (.ref C_Record) "__setattr__" = some (some (.builtin "object.__setattr__")))
    (mk_Record : PySem.W.makesIn K C_Record = true)
    (kc_Record : PySem.W.keepIn K (.ref C_Record) = true)
    (cA_Record : PySem.W.findIn K (.ref C_Record) "__class__" = some (some (.builtin "object.__class__")))
    (cM_Record : PySem.W.mroIn K C_Record (.type "object") = some true)
    (cn_Record : PySem.W.findIn K (.ref C_Record) "__ne__" = some (some (.builtin "object.__ne__")))
    (ty_Record : PySem.W.typeIn K (.ref C_Record) = some (.type "type"))
    (nf0_Record : PySem.W.notFirst K C_Record (.type "NoneType") = true)
    (nf1_Record : PySem.W.notFirst K C_Record (.type "bool") = true)
    (nf2_Record : PySem.W.notFirst K C_Record (.type "int") = true)
    (nf3_Record : PySem.W.notFirst K C_Record (.type "str") = true)
    (nf4_Record : PySem.W.notFirst K C_Record (.type "list") = true)
    (nf5_Record : PySem.W.notFirst K C_Record (.type "tuple") = true)
    (nf6_Record : PySem.W.notFirst K C_Record (.type "dict") = true)
    (kt0_Record : PySem.W.mroIn K C_Record (.type "int") = some false)
    (kt1_Record : PySem.W.mroIn K C_Record (.type "str") = some false)
    (kt2_Record : PySem.W.mroIn K C_Record (.type "bool") = some false)
    (kt3_Record : PySem.W.mroIn K C_Record (.type "tuple") = some false)
    (hd_NotASign : PySem.W.hasDictIn K C_NotASign = true)
    (ty_NotASign : PySem.W.typeIn K (.ref C_NotASign) = some (.type "type"))
    (hd_NotARecord : PySem.W.hasDictIn K C_NotARecord = true)
    (ty_NotARecord : PySem.W.typeIn K (.ref C_NotARecord) = some (.type "type"))
    (hd_InvalidText : PySem.W.hasDictIn K C_InvalidText = true)
    (ty_InvalidText : PySem.W.typeIn K (.ref C_InvalidText) = some (.type "type"))
    (hd_InvalidPace : PySem.W.hasDictIn K C_InvalidPace = true)
    (ty_InvalidPace : PySem.W.typeIn K (.ref C_InvalidPace) = some (.type "type"))
    (hd_InvalidWidth : PySem.W.hasDictIn K C_InvalidWidth = true)
    (ty_InvalidWidth : PySem.W.typeIn K (.ref C_InvalidWidth) = some (.type "type"))
    (hd_InvalidPlace : PySem.W.hasDictIn K C_InvalidPlace = true)
    (ty_InvalidPlace : PySem.W.typeIn K (.ref C_InvalidPlace) = some (.type "type"))
    (hd_InvalidLength : PySem.W.hasDictIn K C_InvalidLength = true)
    (ty_InvalidLength : PySem.W.typeIn K (.ref C_InvalidLength) = some (.type "type"))
    (hd_InvalidTime : PySem.W.hasDictIn K C_InvalidTime = true)
    (ty_InvalidTime : PySem.W.typeIn K (.ref C_InvalidTime) = some (.type "type"))
    (hd_InvalidWindow : PySem.W.hasDictIn K C_InvalidWindow = true)
    (ty_InvalidWindow : PySem.W.typeIn K (.ref C_InvalidWindow) = some (.type "type"))
    (hd_InvalidName : PySem.W.hasDictIn K C_InvalidName = true)
    (ty_InvalidName : PySem.W.typeIn K (.ref C_InvalidName) = some (.type "type"))
    (hd_InvalidClaim : PySem.W.hasDictIn K C_InvalidClaim = true)
    (ty_InvalidClaim : PySem.W.typeIn K (.ref C_InvalidClaim) = some (.type "type"))
    (hd_InvalidIndex : PySem.W.hasDictIn K C_InvalidIndex = true)
    (ty_InvalidIndex : PySem.W.typeIn K (.ref C_InvalidIndex) = some (.type "type"))
    (hd_InvalidLine : PySem.W.hasDictIn K C_InvalidLine = true)
    (ty_InvalidLine : PySem.W.typeIn K (.ref C_InvalidLine) = some (.type "type"))
    (hd_InvalidDead : PySem.W.hasDictIn K C_InvalidDead = true)
    (ty_InvalidDead : PySem.W.typeIn K (.ref C_InvalidDead) = some (.type "type"))
    (hd_InvalidPaces : PySem.W.hasDictIn K C_InvalidPaces = true)
    (ty_InvalidPaces : PySem.W.typeIn K (.ref C_InvalidPaces) = some (.type "type"))
    (hd_InvalidGroups : PySem.W.hasDictIn K C_InvalidGroups = true)
    (ty_InvalidGroups : PySem.W.typeIn K (.ref C_InvalidGroups) = some (.type "type"))
    (hd_InvalidTimes : PySem.W.hasDictIn K C_InvalidTimes = true)
    (ty_InvalidTimes : PySem.W.typeIn K (.ref C_InvalidTimes) = some (.type "type"))
    (hd_InvalidDeeds : PySem.W.hasDictIn K C_InvalidDeeds = true)
    (ty_InvalidDeeds : PySem.W.typeIn K (.ref C_InvalidDeeds) = some (.type "type"))
    (hd_UnknownName : PySem.W.hasDictIn K C_UnknownName = true)
    (ty_UnknownName : PySem.W.typeIn K (.ref C_UnknownName) = some (.type "type"))
    (hd_InUse : PySem.W.hasDictIn K C_InUse = true)
    (ty_InUse : PySem.W.typeIn K (.ref C_InUse) = some (.type "type"))
    (hd_TooMany : PySem.W.hasDictIn K C_TooMany = true)
    (ty_TooMany : PySem.W.typeIn K (.ref C_TooMany) = some (.type "type"))
    (hd_OtherKind : PySem.W.hasDictIn K C_OtherKind = true)
    (ty_OtherKind : PySem.W.typeIn K (.ref C_OtherKind) = some (.type "type"))
    (hd_Broken : PySem.W.hasDictIn K C_Broken = true)
    (ty_Broken : PySem.W.typeIn K (.ref C_Broken) = some (.type "type"))
    (hd_NothingToUndo : PySem.W.hasDictIn K C_NothingToUndo = true)
    (ty_NothingToUndo : PySem.W.typeIn K (.ref C_NothingToUndo) = some (.type "type"))
    (hd_WrongValue : PySem.W.hasDictIn K C_WrongValue = true)
    (ty_WrongValue : PySem.W.typeIn K (.ref C_WrongValue) = some (.type "type"))
    (hd_WrongName : PySem.W.hasDictIn K C_WrongName = true)
    (ty_WrongName : PySem.W.typeIn K (.ref C_WrongName) = some (.type "type"))
    (hd_NoAnswer : PySem.W.hasDictIn K C_NoAnswer = true)
    (ty_NoAnswer : PySem.W.typeIn K (.ref C_NoAnswer) = some (.type "type"))
    (xL_InvalidDead : K.lookup C_InvalidDead = some (excClassObj nm_InvalidDead q_InvalidDead C_InvalidDead N_InvalidDead bs_InvalidDead [.ref C_WrongValue, .type "ValueError", .type "Exception", .type "BaseException", .type "object"] true sn_InvalidDead sub_InvalidDead ab_InvalidDead col_InvalidDead dd_InvalidDead e0_InvalidDead e1_InvalidDead e2_InvalidDead e3_InvalidDead e5_InvalidDead "ValueError.__new__"))
    (sa_InvalidDead : PySem.W.findIn K (.ref C_InvalidDead) "__setattr__" = some (some (.builtin "object.__setattr__")))
    (sb_InvalidDead : PySem.W.subIn K (.ref C_InvalidDead) (.type "BaseException") = some true)
    (kc_InvalidDead : PySem.W.keepIn K (.ref C_InvalidDead) = true)
    (no_InvalidDead : PySem.W.findIn K (.ref C_InvalidDead) "index" = some none)
    (ga_InvalidDead : PySem.W.findIn K (.ref C_InvalidDead) "__getattribute__" = some (some (.builtin "BaseException.__getattribute__")))
    (gg_InvalidDead : PySem.W.findIn K (.ref C_InvalidDead) "__getattr__" = some none)
    (cA_InvalidDead : PySem.W.findIn K (.ref C_InvalidDead) "__class__" = some (some (.builtin "object.__class__")))
    (cM_InvalidDead : PySem.W.mroIn K C_InvalidDead (.type "object") = some true)
    (kk_InvalidDead_NotASign : PySem.W.mroIn K C_InvalidDead (.ref C_NotASign) = some false)
    (kn_InvalidDead_NotASign : C_InvalidDead ≠ C_NotASign)
    (kk_InvalidDead_NotARecord : PySem.W.mroIn K C_InvalidDead (.ref C_NotARecord) = some false)
    (kn_InvalidDead_NotARecord : C_InvalidDead ≠ C_NotARecord)
    (kk_InvalidDead_InvalidText : PySem.W.mroIn K C_InvalidDead (.ref C_InvalidText) = some false)
    (kn_InvalidDead_InvalidText : C_InvalidDead ≠ C_InvalidText)
    (kk_InvalidDead_InvalidPace : PySem.W.mroIn K C_InvalidDead (.ref C_InvalidPace) = some false)
    (kn_InvalidDead_InvalidPace : C_InvalidDead ≠ C_InvalidPace)
    (kk_InvalidDead_InvalidWidth : PySem.W.mroIn K C_InvalidDead (.ref C_InvalidWidth) = some false)
    (kn_InvalidDead_InvalidWidth : C_InvalidDead ≠ C_InvalidWidth)
    (kk_InvalidDead_InvalidPlace : PySem.W.mroIn K C_InvalidDead (.ref C_InvalidPlace) = some false)
    (kn_InvalidDead_InvalidPlace : C_InvalidDead ≠ C_InvalidPlace)
    (kk_InvalidDead_InvalidLength : PySem.W.mroIn K C_InvalidDead (.ref C_InvalidLength) = some false)
    (kn_InvalidDead_InvalidLength : C_InvalidDead ≠ C_InvalidLength)
    (kk_InvalidDead_InvalidTime : PySem.W.mroIn K C_InvalidDead (.ref C_InvalidTime) = some false)
    (kn_InvalidDead_InvalidTime : C_InvalidDead ≠ C_InvalidTime)
    (kk_InvalidDead_InvalidWindow : PySem.W.mroIn K C_InvalidDead (.ref C_InvalidWindow) = some false)
    (kn_InvalidDead_InvalidWindow : C_InvalidDead ≠ C_InvalidWindow)
    (kk_InvalidDead_InvalidName : PySem.W.mroIn K C_InvalidDead (.ref C_InvalidName) = some false)
    (kn_InvalidDead_InvalidName : C_InvalidDead ≠ C_InvalidName)
    (kk_InvalidDead_InvalidClaim : PySem.W.mroIn K C_InvalidDead (.ref C_InvalidClaim) = some false)
    (kn_InvalidDead_InvalidClaim : C_InvalidDead ≠ C_InvalidClaim)
    (kk_InvalidDead_InvalidIndex : PySem.W.mroIn K C_InvalidDead (.ref C_InvalidIndex) = some false)
    (kn_InvalidDead_InvalidIndex : C_InvalidDead ≠ C_InvalidIndex)
    (kk_InvalidDead_InvalidLine : PySem.W.mroIn K C_InvalidDead (.ref C_InvalidLine) = some false)
    (kn_InvalidDead_InvalidLine : C_InvalidDead ≠ C_InvalidLine)
    (kk_InvalidDead_InvalidPaces : PySem.W.mroIn K C_InvalidDead (.ref C_InvalidPaces) = some false)
    (kn_InvalidDead_InvalidPaces : C_InvalidDead ≠ C_InvalidPaces)
    (kk_InvalidDead_InvalidGroups : PySem.W.mroIn K C_InvalidDead (.ref C_InvalidGroups) = some false)
    (kn_InvalidDead_InvalidGroups : C_InvalidDead ≠ C_InvalidGroups)
    (kk_InvalidDead_InvalidTimes : PySem.W.mroIn K C_InvalidDead (.ref C_InvalidTimes) = some false)
    (kn_InvalidDead_InvalidTimes : C_InvalidDead ≠ C_InvalidTimes)
    (kk_InvalidDead_InvalidDeeds : PySem.W.mroIn K C_InvalidDead (.ref C_InvalidDeeds) = some false)
    (kn_InvalidDead_InvalidDeeds : C_InvalidDead ≠ C_InvalidDeeds)
    (kk_InvalidDead_UnknownName : PySem.W.mroIn K C_InvalidDead (.ref C_UnknownName) = some false)
    (kn_InvalidDead_UnknownName : C_InvalidDead ≠ C_UnknownName)
    (kk_InvalidDead_InUse : PySem.W.mroIn K C_InvalidDead (.ref C_InUse) = some false)
    (kn_InvalidDead_InUse : C_InvalidDead ≠ C_InUse)
    (kk_InvalidDead_TooMany : PySem.W.mroIn K C_InvalidDead (.ref C_TooMany) = some false)
    (kn_InvalidDead_TooMany : C_InvalidDead ≠ C_TooMany)
    (kk_InvalidDead_OtherKind : PySem.W.mroIn K C_InvalidDead (.ref C_OtherKind) = some false)
    (kn_InvalidDead_OtherKind : C_InvalidDead ≠ C_OtherKind)
    (kk_InvalidDead_Broken : PySem.W.mroIn K C_InvalidDead (.ref C_Broken) = some false)
    (kn_InvalidDead_Broken : C_InvalidDead ≠ C_Broken)
    (kk_InvalidDead_NothingToUndo : PySem.W.mroIn K C_InvalidDead (.ref C_NothingToUndo) = some false)
    (kn_InvalidDead_NothingToUndo : C_InvalidDead ≠ C_NothingToUndo)
    (kk_InvalidDead_WrongValue : PySem.W.mroIn K C_InvalidDead (.ref C_WrongValue) = some true)
    (kk_InvalidDead_WrongName : PySem.W.mroIn K C_InvalidDead (.ref C_WrongName) = some false)
    (kn_InvalidDead_WrongName : C_InvalidDead ≠ C_WrongName)
    (kk_InvalidDead_NoAnswer : PySem.W.mroIn K C_InvalidDead (.ref C_NoAnswer) = some false)
    (kn_InvalidDead_NoAnswer : C_InvalidDead ≠ C_NoAnswer)
    (kt_InvalidDead_ValueError : PySem.W.mroIn K C_InvalidDead (.type "ValueError") = some true)
    (kt_InvalidDead_LookupError : PySem.W.mroIn K C_InvalidDead (.type "LookupError") = some false)
    (kt_InvalidDead_ArithmeticError : PySem.W.mroIn K C_InvalidDead (.type "ArithmeticError") = some false)
    (xL_InvalidGroups : K.lookup C_InvalidGroups = some (excClassObj nm_InvalidGroups q_InvalidGroups C_InvalidGroups N_InvalidGroups bs_InvalidGroups [.ref C_WrongValue, .type "ValueError", .type "Exception", .type "BaseException", .type "object"] true sn_InvalidGroups sub_InvalidGroups ab_InvalidGroups col_InvalidGroups dd_InvalidGroups e0_InvalidGroups e1_InvalidGroups e2_InvalidGroups e3_InvalidGroups e5_InvalidGroups "ValueError.__new__"))
    (sa_InvalidGroups : PySem.W.findIn K (.ref C_InvalidGroups) "__setattr__" = some (some (.builtin "object.__setattr__")))
    (sb_InvalidGroups : PySem.W.subIn K (.ref C_InvalidGroups) (.type "BaseException") = some true)
    (kc_InvalidGroups : PySem.W.keepIn K (.ref C_InvalidGroups) = true)
    (no_InvalidGroups : PySem.W.findIn K (.ref C_InvalidGroups) "index" = some none)
    (ga_InvalidGroups : PySem.W.findIn K (.ref C_InvalidGroups) "__getattribute__" = some (some (.builtin "BaseException.__getattribute__")))
    (gg_InvalidGroups : PySem.W.findIn K (.ref C_InvalidGroups) "__getattr__" = some none)
    (cA_InvalidGroups : PySem.W.findIn K (.ref C_InvalidGroups) "__class__" = some (some (.builtin "object.__class__")))
    (cM_InvalidGroups : PySem.W.mroIn K C_InvalidGroups (.type "object") = some true)
    (kk_InvalidGroups_NotASign : PySem.W.mroIn K C_InvalidGroups (.ref C_NotASign) = some false)
    (kn_InvalidGroups_NotASign : C_InvalidGroups ≠ C_NotASign)
    (kk_InvalidGroups_NotARecord : PySem.W.mroIn K C_InvalidGroups (.ref C_NotARecord) = some false)
    (kn_InvalidGroups_NotARecord : C_InvalidGroups ≠ C_NotARecord)
    (kk_InvalidGroups_InvalidText : PySem.W.mroIn K C_InvalidGroups (.ref C_InvalidText) = some false)
    (kn_InvalidGroups_InvalidText : C_InvalidGroups ≠ C_InvalidText)
    (kk_InvalidGroups_InvalidPace : PySem.W.mroIn K C_InvalidGroups (.ref C_InvalidPace) = some false)
    (kn_InvalidGroups_InvalidPace : C_InvalidGroups ≠ C_InvalidPace)
    (kk_InvalidGroups_InvalidWidth : PySem.W.mroIn K C_InvalidGroups (.ref C_InvalidWidth) = some false)
    (kn_InvalidGroups_InvalidWidth : C_InvalidGroups ≠ C_InvalidWidth)
    (kk_InvalidGroups_InvalidPlace : PySem.W.mroIn K C_InvalidGroups (.ref C_InvalidPlace) = some false)
    (kn_InvalidGroups_InvalidPlace : C_InvalidGroups ≠ C_InvalidPlace)
    (kk_InvalidGroups_InvalidLength : PySem.W.mroIn K C_InvalidGroups (.ref C_InvalidLength) = some false)
    (kn_InvalidGroups_InvalidLength : C_InvalidGroups ≠ C_InvalidLength)
    (kk_InvalidGroups_InvalidTime : PySem.W.mroIn K C_InvalidGroups (.ref C_InvalidTime) = some false)
    (kn_InvalidGroups_InvalidTime : C_InvalidGroups ≠ C_InvalidTime)
    (kk_InvalidGroups_InvalidWindow : PySem.W.mroIn K C_InvalidGroups (.ref C_InvalidWindow) = some false)
    (kn_InvalidGroups_InvalidWindow : C_InvalidGroups ≠ C_InvalidWindow)
    (kk_InvalidGroups_InvalidName : PySem.W.mroIn K C_InvalidGroups (.ref C_InvalidName) = some false)
    (kn_InvalidGroups_InvalidName : C_InvalidGroups ≠ C_InvalidName)
    (kk_InvalidGroups_InvalidClaim : PySem.W.mroIn K C_InvalidGroups (.ref C_InvalidClaim) = some false)
    (kn_InvalidGroups_InvalidClaim : C_InvalidGroups ≠ C_InvalidClaim)
    (kk_InvalidGroups_InvalidIndex : PySem.W.mroIn K C_InvalidGroups (.ref C_InvalidIndex) = some false)
    (kn_InvalidGroups_InvalidIndex : C_InvalidGroups ≠ C_InvalidIndex)
    (kk_InvalidGroups_InvalidLine : PySem.W.mroIn K C_InvalidGroups (.ref C_InvalidLine) = some false)
    (kn_InvalidGroups_InvalidLine : C_InvalidGroups ≠ C_InvalidLine)
    (kk_InvalidGroups_InvalidDead : PySem.W.mroIn K C_InvalidGroups (.ref C_InvalidDead) = some false)
    (kn_InvalidGroups_InvalidDead : C_InvalidGroups ≠ C_InvalidDead)
    (kk_InvalidGroups_InvalidPaces : PySem.W.mroIn K C_InvalidGroups (.ref C_InvalidPaces) = some false)
    (kn_InvalidGroups_InvalidPaces : C_InvalidGroups ≠ C_InvalidPaces)
    (kk_InvalidGroups_InvalidTimes : PySem.W.mroIn K C_InvalidGroups (.ref C_InvalidTimes) = some false)
    (kn_InvalidGroups_InvalidTimes : C_InvalidGroups ≠ C_InvalidTimes)
    (kk_InvalidGroups_InvalidDeeds : PySem.W.mroIn K C_InvalidGroups (.ref C_InvalidDeeds) = some false)
    (kn_InvalidGroups_InvalidDeeds : C_InvalidGroups ≠ C_InvalidDeeds)
    (kk_InvalidGroups_UnknownName : PySem.W.mroIn K C_InvalidGroups (.ref C_UnknownName) = some false)
    (kn_InvalidGroups_UnknownName : C_InvalidGroups ≠ C_UnknownName)
    (kk_InvalidGroups_InUse : PySem.W.mroIn K C_InvalidGroups (.ref C_InUse) = some false)
    (kn_InvalidGroups_InUse : C_InvalidGroups ≠ C_InUse)
    (kk_InvalidGroups_TooMany : PySem.W.mroIn K C_InvalidGroups (.ref C_TooMany) = some false)
    (kn_InvalidGroups_TooMany : C_InvalidGroups ≠ C_TooMany)
    (kk_InvalidGroups_OtherKind : PySem.W.mroIn K C_InvalidGroups (.ref C_OtherKind) = some false)
    (kn_InvalidGroups_OtherKind : C_InvalidGroups ≠ C_OtherKind)
    (kk_InvalidGroups_Broken : PySem.W.mroIn K C_InvalidGroups (.ref C_Broken) = some false)
    (kn_InvalidGroups_Broken : C_InvalidGroups ≠ C_Broken)
    (kk_InvalidGroups_NothingToUndo : PySem.W.mroIn K C_InvalidGroups (.ref C_NothingToUndo) = some false)
    (kn_InvalidGroups_NothingToUndo : C_InvalidGroups ≠ C_NothingToUndo)
    (kk_InvalidGroups_WrongValue : PySem.W.mroIn K C_InvalidGroups (.ref C_WrongValue) = some true)
    (kk_InvalidGroups_WrongName : PySem.W.mroIn K C_InvalidGroups (.ref C_WrongName) = some false)
    (kn_InvalidGroups_WrongName : C_InvalidGroups ≠ C_WrongName)
    (kk_InvalidGroups_NoAnswer : PySem.W.mroIn K C_InvalidGroups (.ref C_NoAnswer) = some false)
    (kn_InvalidGroups_NoAnswer : C_InvalidGroups ≠ C_NoAnswer)
    (kt_InvalidGroups_ValueError : PySem.W.mroIn K C_InvalidGroups (.type "ValueError") = some true)
    (kt_InvalidGroups_LookupError : PySem.W.mroIn K C_InvalidGroups (.type "LookupError") = some false)
    (kt_InvalidGroups_ArithmeticError : PySem.W.mroIn K C_InvalidGroups (.type "ArithmeticError") = some false)
    (xL_InvalidLength : K.lookup C_InvalidLength = some (excClassObj nm_InvalidLength q_InvalidLength C_InvalidLength N_InvalidLength bs_InvalidLength [.ref C_WrongValue, .type "ValueError", .type "Exception", .type "BaseException", .type "object"] true sn_InvalidLength sub_InvalidLength ab_InvalidLength col_InvalidLength dd_InvalidLength e0_InvalidLength e1_InvalidLength e2_InvalidLength e3_InvalidLength e5_InvalidLength "ValueError.__new__"))
    (sa_InvalidLength : PySem.W.findIn K (.ref C_InvalidLength) "__setattr__" = some (some (.builtin "object.__setattr__")))
    (sb_InvalidLength : PySem.W.subIn K (.ref C_InvalidLength) (.type "BaseException") = some true)
    (kc_InvalidLength : PySem.W.keepIn K (.ref C_InvalidLength) = true)
    (no_InvalidLength : PySem.W.findIn K (.ref C_InvalidLength) "given" = some none)
    (ga_InvalidLength : PySem.W.findIn K (.ref C_InvalidLength) "__getattribute__" = some (some (.builtin "BaseException.__getattribute__")))
    (gg_InvalidLength : PySem.W.findIn K (.ref C_InvalidLength) "__getattr__" = some none)
    (cA_InvalidLength : PySem.W.findIn K (.ref C_InvalidLength) "__class__" = some (some (.builtin "object.__class__")))
    (cM_InvalidLength : PySem.W.mroIn K C_InvalidLength (.type "object") = some true)
    (kk_InvalidLength_NotASign : PySem.W.mroIn K C_InvalidLength (.ref C_NotASign) = some false)
    (kn_InvalidLength_NotASign : C_InvalidLength ≠ C_NotASign)
    (kk_InvalidLength_NotARecord : PySem.W.mroIn K C_InvalidLength (.ref C_NotARecord) = some false)
    (kn_InvalidLength_NotARecord : C_InvalidLength ≠ C_NotARecord)
    (kk_InvalidLength_InvalidText : PySem.W.mroIn K C_InvalidLength (.ref C_InvalidText) = some false)
    (kn_InvalidLength_InvalidText : C_InvalidLength ≠ C_InvalidText)
    (kk_InvalidLength_InvalidPace : PySem.W.mroIn K C_InvalidLength (.ref C_InvalidPace) = some false)
    (kn_InvalidLength_InvalidPace : C_InvalidLength ≠ C_InvalidPace)
    (kk_InvalidLength_InvalidWidth : PySem.W.mroIn K C_InvalidLength (.ref C_InvalidWidth) = some false)
    (kn_InvalidLength_InvalidWidth : C_InvalidLength ≠ C_InvalidWidth)
    (kk_InvalidLength_InvalidPlace : PySem.W.mroIn K C_InvalidLength (.ref C_InvalidPlace) = some false)
    (kn_InvalidLength_InvalidPlace : C_InvalidLength ≠ C_InvalidPlace)
    (kk_InvalidLength_InvalidTime : PySem.W.mroIn K C_InvalidLength (.ref C_InvalidTime) = some false)
    (kn_InvalidLength_InvalidTime : C_InvalidLength ≠ C_InvalidTime)
    (kk_InvalidLength_InvalidWindow : PySem.W.mroIn K C_InvalidLength (.ref C_InvalidWindow) = some false)
    (kn_InvalidLength_InvalidWindow : C_InvalidLength ≠ C_InvalidWindow)
    (kk_InvalidLength_InvalidName : PySem.W.mroIn K C_InvalidLength (.ref C_InvalidName) = some false)
    (kn_InvalidLength_InvalidName : C_InvalidLength ≠ C_InvalidName)
    (kk_InvalidLength_InvalidClaim : PySem.W.mroIn K C_InvalidLength (.ref C_InvalidClaim) = some false)
    (kn_InvalidLength_InvalidClaim : C_InvalidLength ≠ C_InvalidClaim)
    (kk_InvalidLength_InvalidIndex : PySem.W.mroIn K C_InvalidLength (.ref C_InvalidIndex) = some false)
    (kn_InvalidLength_InvalidIndex : C_InvalidLength ≠ C_InvalidIndex)
    (kk_InvalidLength_InvalidLine : PySem.W.mroIn K C_InvalidLength (.ref C_InvalidLine) = some false)
    (kn_InvalidLength_InvalidLine : C_InvalidLength ≠ C_InvalidLine)
    (kk_InvalidLength_InvalidDead : PySem.W.mroIn K C_InvalidLength (.ref C_InvalidDead) = some false)
    (kn_InvalidLength_InvalidDead : C_InvalidLength ≠ C_InvalidDead)
    (kk_InvalidLength_InvalidPaces : PySem.W.mroIn K C_InvalidLength (.ref C_InvalidPaces) = some false)
    (kn_InvalidLength_InvalidPaces : C_InvalidLength ≠ C_InvalidPaces)
    (kk_InvalidLength_InvalidGroups : PySem.W.mroIn K C_InvalidLength (.ref C_InvalidGroups) = some false)
    (kn_InvalidLength_InvalidGroups : C_InvalidLength ≠ C_InvalidGroups)
    (kk_InvalidLength_InvalidTimes : PySem.W.mroIn K C_InvalidLength (.ref C_InvalidTimes) = some false)
    (kn_InvalidLength_InvalidTimes : C_InvalidLength ≠ C_InvalidTimes)
    (kk_InvalidLength_InvalidDeeds : PySem.W.mroIn K C_InvalidLength (.ref C_InvalidDeeds) = some false)
    (kn_InvalidLength_InvalidDeeds : C_InvalidLength ≠ C_InvalidDeeds)
    (kk_InvalidLength_UnknownName : PySem.W.mroIn K C_InvalidLength (.ref C_UnknownName) = some false)
    (kn_InvalidLength_UnknownName : C_InvalidLength ≠ C_UnknownName)
    (kk_InvalidLength_InUse : PySem.W.mroIn K C_InvalidLength (.ref C_InUse) = some false)
    (kn_InvalidLength_InUse : C_InvalidLength ≠ C_InUse)
    (kk_InvalidLength_TooMany : PySem.W.mroIn K C_InvalidLength (.ref C_TooMany) = some false)
    (kn_InvalidLength_TooMany : C_InvalidLength ≠ C_TooMany)
    (kk_InvalidLength_OtherKind : PySem.W.mroIn K C_InvalidLength (.ref C_OtherKind) = some false)
    (kn_InvalidLength_OtherKind : C_InvalidLength ≠ C_OtherKind)
    (kk_InvalidLength_Broken : PySem.W.mroIn K C_InvalidLength (.ref C_Broken) = some false)
    (kn_InvalidLength_Broken : C_InvalidLength ≠ C_Broken)
    (kk_InvalidLength_NothingToUndo : PySem.W.mroIn K C_InvalidLength (.ref C_NothingToUndo) = some false)
    (kn_InvalidLength_NothingToUndo : C_InvalidLength ≠ C_NothingToUndo)
    (kk_InvalidLength_WrongValue : PySem.W.mroIn K C_InvalidLength (.ref C_WrongValue) = some true)
    (kk_InvalidLength_WrongName : PySem.W.mroIn K C_InvalidLength (.ref C_WrongName) = some false)
    (kn_InvalidLength_WrongName : C_InvalidLength ≠ C_WrongName)
    (kk_InvalidLength_NoAnswer : PySem.W.mroIn K C_InvalidLength (.ref C_NoAnswer) = some false)
    (kn_InvalidLength_NoAnswer : C_InvalidLength ≠ C_NoAnswer)
    (kt_InvalidLength_ValueError : PySem.W.mroIn K C_InvalidLength (.type "ValueError") = some true)
    (kt_InvalidLength_LookupError : PySem.W.mroIn K C_InvalidLength (.type "LookupError") = some false)
    (kt_InvalidLength_ArithmeticError : PySem.W.mroIn K C_InvalidLength (.type "ArithmeticError") = some false)
    (xL_InvalidPaces : K.lookup C_InvalidPaces = some (excClassObj nm_InvalidPaces q_InvalidPaces C_InvalidPaces N_InvalidPaces bs_InvalidPaces [.ref C_WrongValue, .type "ValueError", .type "Exception", .type "BaseException", .type "object"] true sn_InvalidPaces sub_InvalidPaces ab_InvalidPaces col_InvalidPaces dd_InvalidPaces e0_InvalidPaces e1_InvalidPaces e2_InvalidPaces e3_InvalidPaces e5_InvalidPaces "ValueError.__new__"))
    (sa_InvalidPaces : PySem.W.findIn K (.ref C_InvalidPaces) "__setattr__" = some (some (.builtin "object.__setattr__")))
    (sb_InvalidPaces : PySem.W.subIn K (.ref C_InvalidPaces) (.type "BaseException") = some true)
    (kc_InvalidPaces : PySem.W.keepIn K (.ref C_InvalidPaces) = true)
    (no_InvalidPaces : PySem.W.findIn K (.ref C_InvalidPaces) "index" = some none)
    (ga_InvalidPaces : PySem.W.findIn K (.ref C_InvalidPaces) "__getattribute__" = some (some (.builtin "BaseException.__getattribute__")))
    (gg_InvalidPaces : PySem.W.findIn K (.ref C_InvalidPaces) "__getattr__" = some none)
    (cA_InvalidPaces : PySem.W.findIn K (.ref C_InvalidPaces) "__class__" = some (some (.builtin "object.__class__")))
    (cM_InvalidPaces : PySem.W.mroIn K C_InvalidPaces (.type "object") = some true)
    (kk_InvalidPaces_NotASign : PySem.W.mroIn K C_InvalidPaces (.ref C_NotASign) = some false)
    (kn_InvalidPaces_NotASign : C_InvalidPaces ≠ C_NotASign)
    (kk_InvalidPaces_NotARecord : PySem.W.mroIn K C_InvalidPaces (.ref C_NotARecord) = some false)
    (kn_InvalidPaces_NotARecord : C_InvalidPaces ≠ C_NotARecord)
    (kk_InvalidPaces_InvalidText : PySem.W.mroIn K C_InvalidPaces (.ref C_InvalidText) = some false)
    (kn_InvalidPaces_InvalidText : C_InvalidPaces ≠ C_InvalidText)
    (kk_InvalidPaces_InvalidPace : PySem.W.mroIn K C_InvalidPaces (.ref C_InvalidPace) = some false)
    (kn_InvalidPaces_InvalidPace : C_InvalidPaces ≠ C_InvalidPace)
    (kk_InvalidPaces_InvalidWidth : PySem.W.mroIn K C_InvalidPaces (.ref C_InvalidWidth) = some false)
    (kn_InvalidPaces_InvalidWidth : C_InvalidPaces ≠ C_InvalidWidth)
    (kk_InvalidPaces_InvalidPlace : PySem.W.mroIn K C_InvalidPaces (.ref C_InvalidPlace) = some false)
    (kn_InvalidPaces_InvalidPlace : C_InvalidPaces ≠ C_InvalidPlace)
    (kk_InvalidPaces_InvalidLength : PySem.W.mroIn K C_InvalidPaces (.ref C_InvalidLength) = some false)
    (kn_InvalidPaces_InvalidLength : C_InvalidPaces ≠ C_InvalidLength)
    (kk_InvalidPaces_InvalidTime : PySem.W.mroIn K C_InvalidPaces (.ref C_InvalidTime) = some false)
    (kn_InvalidPaces_InvalidTime : C_InvalidPaces ≠ C_InvalidTime)
    (kk_InvalidPaces_InvalidWindow : PySem.W.mroIn K C_InvalidPaces (.ref C_InvalidWindow) = some false)
    (kn_InvalidPaces_InvalidWindow : C_InvalidPaces ≠ C_InvalidWindow)
    (kk_InvalidPaces_InvalidName : PySem.W.mroIn K C_InvalidPaces (.ref C_InvalidName) = some false)
    (kn_InvalidPaces_InvalidName : C_InvalidPaces ≠ C_InvalidName)
    (kk_InvalidPaces_InvalidClaim : PySem.W.mroIn K C_InvalidPaces (.ref C_InvalidClaim) = some false)
    (kn_InvalidPaces_InvalidClaim : C_InvalidPaces ≠ C_InvalidClaim)
    (kk_InvalidPaces_InvalidIndex : PySem.W.mroIn K C_InvalidPaces (.ref C_InvalidIndex) = some false)
    (kn_InvalidPaces_InvalidIndex : C_InvalidPaces ≠ C_InvalidIndex)
    (kk_InvalidPaces_InvalidLine : PySem.W.mroIn K C_InvalidPaces (.ref C_InvalidLine) = some false)
    (kn_InvalidPaces_InvalidLine : C_InvalidPaces ≠ C_InvalidLine)
    (kk_InvalidPaces_InvalidDead : PySem.W.mroIn K C_InvalidPaces (.ref C_InvalidDead) = some false)
    (kn_InvalidPaces_InvalidDead : C_InvalidPaces ≠ C_InvalidDead)
    (kk_InvalidPaces_InvalidGroups : PySem.W.mroIn K C_InvalidPaces (.ref C_InvalidGroups) = some false)
    (kn_InvalidPaces_InvalidGroups : C_InvalidPaces ≠ C_InvalidGroups)
    (kk_InvalidPaces_InvalidTimes : PySem.W.mroIn K C_InvalidPaces (.ref C_InvalidTimes) = some false)
    (kn_InvalidPaces_InvalidTimes : C_InvalidPaces ≠ C_InvalidTimes)
    (kk_InvalidPaces_InvalidDeeds : PySem.W.mroIn K C_InvalidPaces (.ref C_InvalidDeeds) = some false)
    (kn_InvalidPaces_InvalidDeeds : C_InvalidPaces ≠ C_InvalidDeeds)
    (kk_InvalidPaces_UnknownName : PySem.W.mroIn K C_InvalidPaces (.ref C_UnknownName) = some false)
    (kn_InvalidPaces_UnknownName : C_InvalidPaces ≠ C_UnknownName)
    (kk_InvalidPaces_InUse : PySem.W.mroIn K C_InvalidPaces (.ref C_InUse) = some false)
    (kn_InvalidPaces_InUse : C_InvalidPaces ≠ C_InUse)
    (kk_InvalidPaces_TooMany : PySem.W.mroIn K C_InvalidPaces (.ref C_TooMany) = some false)
    (kn_InvalidPaces_TooMany : C_InvalidPaces ≠ C_TooMany)
    (kk_InvalidPaces_OtherKind : PySem.W.mroIn K C_InvalidPaces (.ref C_OtherKind) = some false)
    (kn_InvalidPaces_OtherKind : C_InvalidPaces ≠ C_OtherKind)
    (kk_InvalidPaces_Broken : PySem.W.mroIn K C_InvalidPaces (.ref C_Broken) = some false)
    (kn_InvalidPaces_Broken : C_InvalidPaces ≠ C_Broken)
    (kk_InvalidPaces_NothingToUndo : PySem.W.mroIn K C_InvalidPaces (.ref C_NothingToUndo) = some false)
    (kn_InvalidPaces_NothingToUndo : C_InvalidPaces ≠ C_NothingToUndo)
    (kk_InvalidPaces_WrongValue : PySem.W.mroIn K C_InvalidPaces (.ref C_WrongValue) = some true)
    (kk_InvalidPaces_WrongName : PySem.W.mroIn K C_InvalidPaces (.ref C_WrongName) = some false)
    (kn_InvalidPaces_WrongName : C_InvalidPaces ≠ C_WrongName)
    (kk_InvalidPaces_NoAnswer : PySem.W.mroIn K C_InvalidPaces (.ref C_NoAnswer) = some false)
    (kn_InvalidPaces_NoAnswer : C_InvalidPaces ≠ C_NoAnswer)
    (kt_InvalidPaces_ValueError : PySem.W.mroIn K C_InvalidPaces (.type "ValueError") = some true)
    (kt_InvalidPaces_LookupError : PySem.W.mroIn K C_InvalidPaces (.type "LookupError") = some false)
    (kt_InvalidPaces_ArithmeticError : PySem.W.mroIn K C_InvalidPaces (.type "ArithmeticError") = some false)
    (xL_InvalidPlace : K.lookup C_InvalidPlace = some (excClassObj nm_InvalidPlace q_InvalidPlace C_InvalidPlace N_InvalidPlace bs_InvalidPlace [.ref C_WrongValue, .type "ValueError", .type "Exception", .type "BaseException", .type "object"] true sn_InvalidPlace sub_InvalidPlace ab_InvalidPlace col_InvalidPlace dd_InvalidPlace e0_InvalidPlace e1_InvalidPlace e2_InvalidPlace e3_InvalidPlace e5_InvalidPlace "ValueError.__new__"))
    (sa_InvalidPlace : PySem.W.findIn K (.ref C_InvalidPlace) "__setattr__" = some (some (.builtin "object.__setattr__")))
    (sb_InvalidPlace : PySem.W.subIn K (.ref C_InvalidPlace) (.type "BaseException") = some true)
    (kc_InvalidPlace : PySem.W.keepIn K (.ref C_InvalidPlace) = true)
    (no_InvalidPlace : PySem.W.findIn K (.ref C_InvalidPlace) "given" = some none)
    (ga_InvalidPlace : PySem.W.findIn K (.ref C_InvalidPlace) "__getattribute__" = some (some (.builtin "BaseException.__getattribute__")))
    (gg_InvalidPlace : PySem.W.findIn K (.ref C_InvalidPlace) "__getattr__" = some none)
    (cA_InvalidPlace : PySem.W.findIn K (.ref C_InvalidPlace) "__class__" = some (some (.builtin "object.__class__")))
    (cM_InvalidPlace : PySem.W.mroIn K C_InvalidPlace (.type "object") = some true)
    (kk_InvalidPlace_NotASign : PySem.W.mroIn K C_InvalidPlace (.ref C_NotASign) = some false)
    (kn_InvalidPlace_NotASign : C_InvalidPlace ≠ C_NotASign)
    (kk_InvalidPlace_NotARecord : PySem.W.mroIn K C_InvalidPlace (.ref C_NotARecord) = some false)
    (kn_InvalidPlace_NotARecord : C_InvalidPlace ≠ C_NotARecord)
    (kk_InvalidPlace_InvalidText : PySem.W.mroIn K C_InvalidPlace (.ref C_InvalidText) = some false)
    (kn_InvalidPlace_InvalidText : C_InvalidPlace ≠ C_InvalidText)
    (kk_InvalidPlace_InvalidPace : PySem.W.mroIn K C_InvalidPlace (.ref C_InvalidPace) = some false)
    (kn_InvalidPlace_InvalidPace : C_InvalidPlace ≠ C_InvalidPace)
    (kk_InvalidPlace_InvalidWidth : PySem.W.mroIn K C_InvalidPlace (.ref C_InvalidWidth) = some false)
    (kn_InvalidPlace_InvalidWidth : C_InvalidPlace ≠ C_InvalidWidth)
    (kk_InvalidPlace_InvalidLength : PySem.W.mroIn K C_InvalidPlace (.ref C_InvalidLength) = some false)
    (kn_InvalidPlace_InvalidLength : C_InvalidPlace ≠ C_InvalidLength)
    (kk_InvalidPlace_InvalidTime : PySem.W.mroIn K C_InvalidPlace (.ref C_InvalidTime) = some false)
    (kn_InvalidPlace_InvalidTime : C_InvalidPlace ≠ C_InvalidTime)
    (kk_InvalidPlace_InvalidWindow : PySem.W.mroIn K C_InvalidPlace (.ref C_InvalidWindow) = some false)
    (kn_InvalidPlace_InvalidWindow : C_InvalidPlace ≠ C_InvalidWindow)
    (kk_InvalidPlace_InvalidName : PySem.W.mroIn K C_InvalidPlace (.ref C_InvalidName) = some false)
    (kn_InvalidPlace_InvalidName : C_InvalidPlace ≠ C_InvalidName)
    (kk_InvalidPlace_InvalidClaim : PySem.W.mroIn K C_InvalidPlace (.ref C_InvalidClaim) = some false)
    (kn_InvalidPlace_InvalidClaim : C_InvalidPlace ≠ C_InvalidClaim)
    (kk_InvalidPlace_InvalidIndex : PySem.W.mroIn K C_InvalidPlace (.ref C_InvalidIndex) = some false)
    (kn_InvalidPlace_InvalidIndex : C_InvalidPlace ≠ C_InvalidIndex)
    (kk_InvalidPlace_InvalidLine : PySem.W.mroIn K C_InvalidPlace (.ref C_InvalidLine) = some false)
    (kn_InvalidPlace_InvalidLine : C_InvalidPlace ≠ C_InvalidLine)
    (kk_InvalidPlace_InvalidDead : PySem.W.mroIn K C_InvalidPlace (.ref C_InvalidDead) = some false)
    (kn_InvalidPlace_InvalidDead : C_InvalidPlace ≠ C_InvalidDead)
    (kk_InvalidPlace_InvalidPaces : PySem.W.mroIn K C_InvalidPlace (.ref C_InvalidPaces) = some false)
    (kn_InvalidPlace_InvalidPaces : C_InvalidPlace ≠ C_InvalidPaces)
    (kk_InvalidPlace_InvalidGroups : PySem.W.mroIn K C_InvalidPlace (.ref C_InvalidGroups) = some false)
    (kn_InvalidPlace_InvalidGroups : C_InvalidPlace ≠ C_InvalidGroups)
    (kk_InvalidPlace_InvalidTimes : PySem.W.mroIn K C_InvalidPlace (.ref C_InvalidTimes) = some false)
    (kn_InvalidPlace_InvalidTimes : C_InvalidPlace ≠ C_InvalidTimes)
    (kk_InvalidPlace_InvalidDeeds : PySem.W.mroIn K C_InvalidPlace (.ref C_InvalidDeeds) = some false)
    (kn_InvalidPlace_InvalidDeeds : C_InvalidPlace ≠ C_InvalidDeeds)
    (kk_InvalidPlace_UnknownName : PySem.W.mroIn K C_InvalidPlace (.ref C_UnknownName) = some false)
    (kn_InvalidPlace_UnknownName : C_InvalidPlace ≠ C_UnknownName)
    (kk_InvalidPlace_InUse : PySem.W.mroIn K C_InvalidPlace (.ref C_InUse) = some false)
    (kn_InvalidPlace_InUse : C_InvalidPlace ≠ C_InUse)
    (kk_InvalidPlace_TooMany : PySem.W.mroIn K C_InvalidPlace (.ref C_TooMany) = some false)
    (kn_InvalidPlace_TooMany : C_InvalidPlace ≠ C_TooMany)
    (kk_InvalidPlace_OtherKind : PySem.W.mroIn K C_InvalidPlace (.ref C_OtherKind) = some false)
    (kn_InvalidPlace_OtherKind : C_InvalidPlace ≠ C_OtherKind)
    (kk_InvalidPlace_Broken : PySem.W.mroIn K C_InvalidPlace (.ref C_Broken) = some false)
    (kn_InvalidPlace_Broken : C_InvalidPlace ≠ C_Broken)
    (kk_InvalidPlace_NothingToUndo : PySem.W.mroIn K C_InvalidPlace (.ref C_NothingToUndo) = some false)
    (kn_InvalidPlace_NothingToUndo : C_InvalidPlace ≠ C_NothingToUndo)
    (kk_InvalidPlace_WrongValue : PySem.W.mroIn K C_InvalidPlace (.ref C_WrongValue) = some true)
    (kk_InvalidPlace_WrongName : PySem.W.mroIn K C_InvalidPlace (.ref C_WrongName) = some false)
    (kn_InvalidPlace_WrongName : C_InvalidPlace ≠ C_WrongName)
    (kk_InvalidPlace_NoAnswer : PySem.W.mroIn K C_InvalidPlace (.ref C_NoAnswer) = some false)
    (kn_InvalidPlace_NoAnswer : C_InvalidPlace ≠ C_NoAnswer)
    (kt_InvalidPlace_ValueError : PySem.W.mroIn K C_InvalidPlace (.type "ValueError") = some true)
    (kt_InvalidPlace_LookupError : PySem.W.mroIn K C_InvalidPlace (.type "LookupError") = some false)
    (kt_InvalidPlace_ArithmeticError : PySem.W.mroIn K C_InvalidPlace (.type "ArithmeticError") = some false)
    (xL_InvalidTime : K.lookup C_InvalidTime = some (excClassObj nm_InvalidTime q_InvalidTime C_InvalidTime N_InvalidTime bs_InvalidTime [.ref C_WrongValue, .type "ValueError", .type "Exception", .type "BaseException", .type "object"] true sn_InvalidTime sub_InvalidTime ab_InvalidTime col_InvalidTime dd_InvalidTime e0_InvalidTime e1_InvalidTime e2_InvalidTime e3_InvalidTime e5_InvalidTime "ValueError.__new__"))
    (sa_InvalidTime : PySem.W.findIn K (.ref C_InvalidTime) "__setattr__" = some (some (.builtin "object.__setattr__")))
    (sb_InvalidTime : PySem.W.subIn K (.ref C_InvalidTime) (.type "BaseException") = some true)
    (kc_InvalidTime : PySem.W.keepIn K (.ref C_InvalidTime) = true)
    (no_InvalidTime : PySem.W.findIn K (.ref C_InvalidTime) "given" = some none)
    (ga_InvalidTime : PySem.W.findIn K (.ref C_InvalidTime) "__getattribute__" = some (some (.builtin "BaseException.__getattribute__")))
    (gg_InvalidTime : PySem.W.findIn K (.ref C_InvalidTime) "__getattr__" = some none)
    (cA_InvalidTime : PySem.W.findIn K (.ref C_InvalidTime) "__class__" = some (some (.builtin "object.__class__")))
    (cM_InvalidTime : PySem.W.mroIn K C_InvalidTime (.type "object") = some true)
    (kk_InvalidTime_NotASign : PySem.W.mroIn K C_InvalidTime (.ref C_NotASign) = some false)
    (kn_InvalidTime_NotASign : C_InvalidTime ≠ C_NotASign)
    (kk_InvalidTime_NotARecord : PySem.W.mroIn K C_InvalidTime (.ref C_NotARecord) = some false)
    (kn_InvalidTime_NotARecord : C_InvalidTime ≠ C_NotARecord)
    (kk_InvalidTime_InvalidText : PySem.W.mroIn K C_InvalidTime (.ref C_InvalidText) = some false)
    (kn_InvalidTime_InvalidText : C_InvalidTime ≠ C_InvalidText)
    (kk_InvalidTime_InvalidPace : PySem.W.mroIn K C_InvalidTime (.ref C_InvalidPace) = some false)
    (kn_InvalidTime_InvalidPace : C_InvalidTime ≠ C_InvalidPace)
    (kk_InvalidTime_InvalidWidth : PySem.W.mroIn K C_InvalidTime (.ref C_InvalidWidth) = some false)
    (kn_InvalidTime_InvalidWidth : C_InvalidTime ≠ C_InvalidWidth)
    (kk_InvalidTime_InvalidPlace : PySem.W.mroIn K C_InvalidTime (.ref C_InvalidPlace) = some false)
    (kn_InvalidTime_InvalidPlace : C_InvalidTime ≠ C_InvalidPlace)
    (kk_InvalidTime_InvalidLength : PySem.W.mroIn K C_InvalidTime (.ref C_InvalidLength) = some false)
    (kn_InvalidTime_InvalidLength : C_InvalidTime ≠ C_InvalidLength)
    (kk_InvalidTime_InvalidWindow : PySem.W.mroIn K C_InvalidTime (.ref C_InvalidWindow) = some false)
    (kn_InvalidTime_InvalidWindow : C_InvalidTime ≠ C_InvalidWindow)
    (kk_InvalidTime_InvalidName : PySem.W.mroIn K C_InvalidTime (.ref C_InvalidName) = some false)
    (kn_InvalidTime_InvalidName : C_InvalidTime ≠ C_InvalidName)
    (kk_InvalidTime_InvalidClaim : PySem.W.mroIn K C_InvalidTime (.ref C_InvalidClaim) = some false)
    (kn_InvalidTime_InvalidClaim : C_InvalidTime ≠ C_InvalidClaim)
    (kk_InvalidTime_InvalidIndex : PySem.W.mroIn K C_InvalidTime (.ref C_InvalidIndex) = some false)
    (kn_InvalidTime_InvalidIndex : C_InvalidTime ≠ C_InvalidIndex)
    (kk_InvalidTime_InvalidLine : PySem.W.mroIn K C_InvalidTime (.ref C_InvalidLine) = some false)
    (kn_InvalidTime_InvalidLine : C_InvalidTime ≠ C_InvalidLine)
    (kk_InvalidTime_InvalidDead : PySem.W.mroIn K C_InvalidTime (.ref C_InvalidDead) = some false)
    (kn_InvalidTime_InvalidDead : C_InvalidTime ≠ C_InvalidDead)
    (kk_InvalidTime_InvalidPaces : PySem.W.mroIn K C_InvalidTime (.ref C_InvalidPaces) = some false)
    (kn_InvalidTime_InvalidPaces : C_InvalidTime ≠ C_InvalidPaces)
    (kk_InvalidTime_InvalidGroups : PySem.W.mroIn K C_InvalidTime (.ref C_InvalidGroups) = some false)
    (kn_InvalidTime_InvalidGroups : C_InvalidTime ≠ C_InvalidGroups)
    (kk_InvalidTime_InvalidTimes : PySem.W.mroIn K C_InvalidTime (.ref C_InvalidTimes) = some false)
    (kn_InvalidTime_InvalidTimes : C_InvalidTime ≠ C_InvalidTimes)
    (kk_InvalidTime_InvalidDeeds : PySem.W.mroIn K C_InvalidTime (.ref C_InvalidDeeds) = some false)
    (kn_InvalidTime_InvalidDeeds : C_InvalidTime ≠ C_InvalidDeeds)
    (kk_InvalidTime_UnknownName : PySem.W.mroIn K C_InvalidTime (.ref C_UnknownName) = some false)
    (kn_InvalidTime_UnknownName : C_InvalidTime ≠ C_UnknownName)
    (kk_InvalidTime_InUse : PySem.W.mroIn K C_InvalidTime (.ref C_InUse) = some false)
    (kn_InvalidTime_InUse : C_InvalidTime ≠ C_InUse)
    (kk_InvalidTime_TooMany : PySem.W.mroIn K C_InvalidTime (.ref C_TooMany) = some false)
    (kn_InvalidTime_TooMany : C_InvalidTime ≠ C_TooMany)
    (kk_InvalidTime_OtherKind : PySem.W.mroIn K C_InvalidTime (.ref C_OtherKind) = some false)
    (kn_InvalidTime_OtherKind : C_InvalidTime ≠ C_OtherKind)
    (kk_InvalidTime_Broken : PySem.W.mroIn K C_InvalidTime (.ref C_Broken) = some false)
    (kn_InvalidTime_Broken : C_InvalidTime ≠ C_Broken)
    (kk_InvalidTime_NothingToUndo : PySem.W.mroIn K C_InvalidTime (.ref C_NothingToUndo) = some false)
    (kn_InvalidTime_NothingToUndo : C_InvalidTime ≠ C_NothingToUndo)
    (kk_InvalidTime_WrongValue : PySem.W.mroIn K C_InvalidTime (.ref C_WrongValue) = some true)
    (kk_InvalidTime_WrongName : PySem.W.mroIn K C_InvalidTime (.ref C_WrongName) = some false)
    (kn_InvalidTime_WrongName : C_InvalidTime ≠ C_WrongName)
    (kk_InvalidTime_NoAnswer : PySem.W.mroIn K C_InvalidTime (.ref C_NoAnswer) = some false)
    (kn_InvalidTime_NoAnswer : C_InvalidTime ≠ C_NoAnswer)
    (kt_InvalidTime_ValueError : PySem.W.mroIn K C_InvalidTime (.type "ValueError") = some true)
    (kt_InvalidTime_LookupError : PySem.W.mroIn K C_InvalidTime (.type "LookupError") = some false)
    (kt_InvalidTime_ArithmeticError : PySem.W.mroIn K C_InvalidTime (.type "ArithmeticError") = some false)
    (xL_InvalidWidth : K.lookup C_InvalidWidth = some (excClassObj nm_InvalidWidth q_InvalidWidth C_InvalidWidth N_InvalidWidth bs_InvalidWidth [.ref C_WrongValue, .type "ValueError", .type "Exception", .type "BaseException", .type "object"] true sn_InvalidWidth sub_InvalidWidth ab_InvalidWidth col_InvalidWidth dd_InvalidWidth e0_InvalidWidth e1_InvalidWidth e2_InvalidWidth e3_InvalidWidth e5_InvalidWidth "ValueError.__new__"))
    (sa_InvalidWidth : PySem.W.findIn K (.ref C_InvalidWidth) "__setattr__" = some (some (.builtin "object.__setattr__")))
    (sb_InvalidWidth : PySem.W.subIn K (.ref C_InvalidWidth) (.type "BaseException") = some true)
    (kc_InvalidWidth : PySem.W.keepIn K (.ref C_InvalidWidth) = true)
    (no_InvalidWidth : PySem.W.findIn K (.ref C_InvalidWidth) "given" = some none)
    (ga_InvalidWidth : PySem.W.findIn K (.ref C_InvalidWidth) "__getattribute__" = some (some (.builtin "BaseException.__getattribute__")))
    (gg_InvalidWidth : PySem.W.findIn K (.ref C_InvalidWidth) "__getattr__" = some none)
    (cA_InvalidWidth : PySem.W.findIn K (.ref C_InvalidWidth) "__class__" = some (some (.builtin "object.__class__")))
    (cM_InvalidWidth : PySem.W.mroIn K C_InvalidWidth (.type "object") = some true)
    (kk_InvalidWidth_NotASign : PySem.W.mroIn K C_InvalidWidth (.ref C_NotASign) = some false)
    (kn_InvalidWidth_NotASign : C_InvalidWidth ≠ C_NotASign)
    (kk_InvalidWidth_NotARecord : PySem.W.mroIn K C_InvalidWidth (.ref C_NotARecord) = some false)
    (kn_InvalidWidth_NotARecord : C_InvalidWidth ≠ C_NotARecord)
    (kk_InvalidWidth_InvalidText : PySem.W.mroIn K C_InvalidWidth (.ref C_InvalidText) = some false)
    (kn_InvalidWidth_InvalidText : C_InvalidWidth ≠ C_InvalidText)
    (kk_InvalidWidth_InvalidPace : PySem.W.mroIn K C_InvalidWidth (.ref C_InvalidPace) = some false)
    (kn_InvalidWidth_InvalidPace : C_InvalidWidth ≠ C_InvalidPace)
    (kk_InvalidWidth_InvalidPlace : PySem.W.mroIn K C_InvalidWidth (.ref C_InvalidPlace) = some false)
    (kn_InvalidWidth_InvalidPlace : C_InvalidWidth ≠ C_InvalidPlace)
    (kk_InvalidWidth_InvalidLength : PySem.W.mroIn K C_InvalidWidth (.ref C_InvalidLength) = some false)
    (kn_InvalidWidth_InvalidLength : C_InvalidWidth ≠ C_InvalidLength)
    (kk_InvalidWidth_InvalidTime : PySem.W.mroIn K C_InvalidWidth (.ref C_InvalidTime) = some false)
    (kn_InvalidWidth_InvalidTime : C_InvalidWidth ≠ C_InvalidTime)
    (kk_InvalidWidth_InvalidWindow : PySem.W.mroIn K C_InvalidWidth (.ref C_InvalidWindow) = some false)
    (kn_InvalidWidth_InvalidWindow : C_InvalidWidth ≠ C_InvalidWindow)
    (kk_InvalidWidth_InvalidName : PySem.W.mroIn K C_InvalidWidth (.ref C_InvalidName) = some false)
    (kn_InvalidWidth_InvalidName : C_InvalidWidth ≠ C_InvalidName)
    (kk_InvalidWidth_InvalidClaim : PySem.W.mroIn K C_InvalidWidth (.ref C_InvalidClaim) = some false)
    (kn_InvalidWidth_InvalidClaim : C_InvalidWidth ≠ C_InvalidClaim)
    (kk_InvalidWidth_InvalidIndex : PySem.W.mroIn K C_InvalidWidth (.ref C_InvalidIndex) = some false)
    (kn_InvalidWidth_InvalidIndex : C_InvalidWidth ≠ C_InvalidIndex)
    (kk_InvalidWidth_InvalidLine : PySem.W.mroIn K C_InvalidWidth (.ref C_InvalidLine) = some false)
    (kn_InvalidWidth_InvalidLine : C_InvalidWidth ≠ C_InvalidLine)
    (kk_InvalidWidth_InvalidDead : PySem.W.mroIn K C_InvalidWidth (.ref C_InvalidDead) = some false)
    (kn_InvalidWidth_InvalidDead : C_InvalidWidth ≠ C_InvalidDead)
    (kk_InvalidWidth_InvalidPaces : PySem.W.mroIn K C_InvalidWidth (.ref C_InvalidPaces) = some false)
    (kn_InvalidWidth_InvalidPaces : C_InvalidWidth ≠ C_InvalidPaces)
    (kk_InvalidWidth_InvalidGroups : PySem.W.mroIn K C_InvalidWidth (.ref C_InvalidGroups) = some false)
    (kn_InvalidWidth_InvalidGroups : C_InvalidWidth ≠ C_InvalidGroups)
    (kk_InvalidWidth_InvalidTimes : PySem.W.mroIn K C_InvalidWidth (.ref C_InvalidTimes) = some false)
    (kn_InvalidWidth_InvalidTimes : C_InvalidWidth ≠ C_InvalidTimes)
    (kk_InvalidWidth_InvalidDeeds : PySem.W.mroIn K C_InvalidWidth (.ref C_InvalidDeeds) = some false)
    (kn_InvalidWidth_InvalidDeeds : C_InvalidWidth ≠ C_InvalidDeeds)
    (kk_InvalidWidth_UnknownName : PySem.W.mroIn K C_InvalidWidth (.ref C_UnknownName) = some false)
    (kn_InvalidWidth_UnknownName : C_InvalidWidth ≠ C_UnknownName)
    (kk_InvalidWidth_InUse : PySem.W.mroIn K C_InvalidWidth (.ref C_InUse) = some false)
    (kn_InvalidWidth_InUse : C_InvalidWidth ≠ C_InUse)
    (kk_InvalidWidth_TooMany : PySem.W.mroIn K C_InvalidWidth (.ref C_TooMany) = some false)
    (kn_InvalidWidth_TooMany : C_InvalidWidth ≠ C_TooMany)
    (kk_InvalidWidth_OtherKind : PySem.W.mroIn K C_InvalidWidth (.ref C_OtherKind) = some false)
    (kn_InvalidWidth_OtherKind : C_InvalidWidth ≠ C_OtherKind)
    (kk_InvalidWidth_Broken : PySem.W.mroIn K C_InvalidWidth (.ref C_Broken) = some false)
    (kn_InvalidWidth_Broken : C_InvalidWidth ≠ C_Broken)
    (kk_InvalidWidth_NothingToUndo : PySem.W.mroIn K C_InvalidWidth (.ref C_NothingToUndo) = some false)
    (kn_InvalidWidth_NothingToUndo : C_InvalidWidth ≠ C_NothingToUndo)
    (kk_InvalidWidth_WrongValue : PySem.W.mroIn K C_InvalidWidth (.ref C_WrongValue) = some true)
    (kk_InvalidWidth_WrongName : PySem.W.mroIn K C_InvalidWidth (.ref C_WrongName) = some false)
    (kn_InvalidWidth_WrongName : C_InvalidWidth ≠ C_WrongName)
    (kk_InvalidWidth_NoAnswer : PySem.W.mroIn K C_InvalidWidth (.ref C_NoAnswer) = some false)
    (kn_InvalidWidth_NoAnswer : C_InvalidWidth ≠ C_NoAnswer)
    (kt_InvalidWidth_ValueError : PySem.W.mroIn K C_InvalidWidth (.type "ValueError") = some true)
    (kt_InvalidWidth_LookupError : PySem.W.mroIn K C_InvalidWidth (.type "LookupError") = some false)
    (kt_InvalidWidth_ArithmeticError : PySem.W.mroIn K C_InvalidWidth (.type "ArithmeticError") = some false)
    (xL_InvalidWindow : K.lookup C_InvalidWindow = some (excClassObj nm_InvalidWindow q_InvalidWindow C_InvalidWindow N_InvalidWindow bs_InvalidWindow [.ref C_WrongValue, .type "ValueError", .type "Exception", .type "BaseException", .type "object"] true sn_InvalidWindow sub_InvalidWindow ab_InvalidWindow col_InvalidWindow dd_InvalidWindow e0_InvalidWindow e1_InvalidWindow e2_InvalidWindow e3_InvalidWindow e5_InvalidWindow "ValueError.__new__"))
    (sa_InvalidWindow : PySem.W.findIn K (.ref C_InvalidWindow) "__setattr__" = some (some (.builtin "object.__setattr__")))
    (sb_InvalidWindow : PySem.W.subIn K (.ref C_InvalidWindow) (.type "BaseException") = some true)
    (kc_InvalidWindow : PySem.W.keepIn K (.ref C_InvalidWindow) = true)
    (no_InvalidWindow : PySem.W.findIn K (.ref C_InvalidWindow) "given" = some none)
    (ga_InvalidWindow : PySem.W.findIn K (.ref C_InvalidWindow) "__getattribute__" = some (some (.builtin "BaseException.__getattribute__")))
    (gg_InvalidWindow : PySem.W.findIn K (.ref C_InvalidWindow) "__getattr__" = some none)
    (cA_InvalidWindow : PySem.W.findIn K (.ref C_InvalidWindow) "__class__" = some (some (.builtin "object.__class__")))
    (cM_InvalidWindow : PySem.W.mroIn K C_InvalidWindow (.type "object") = some true)
    (kk_InvalidWindow_NotASign : PySem.W.mroIn K C_InvalidWindow (.ref C_NotASign) = some false)
    (kn_InvalidWindow_NotASign : C_InvalidWindow ≠ C_NotASign)
    (kk_InvalidWindow_NotARecord : PySem.W.mroIn K C_InvalidWindow (.ref C_NotARecord) = some false)
    (kn_InvalidWindow_NotARecord : C_InvalidWindow ≠ C_NotARecord)
    (kk_InvalidWindow_InvalidText : PySem.W.mroIn K C_InvalidWindow (.ref C_InvalidText) = some false)
    (kn_InvalidWindow_InvalidText : C_InvalidWindow ≠ C_InvalidText)
    (kk_InvalidWindow_InvalidPace : PySem.W.mroIn K C_InvalidWindow (.ref C_InvalidPace) = some false)
    (kn_InvalidWindow_InvalidPace : C_InvalidWindow ≠ C_InvalidPace)
    (kk_InvalidWindow_InvalidWidth : PySem.W.mroIn K C_InvalidWindow (.ref C_InvalidWidth) = some false)
    (kn_InvalidWindow_InvalidWidth : C_InvalidWindow ≠ C_InvalidWidth)
    (kk_InvalidWindow_InvalidPlace : PySem.W.mroIn K C_InvalidWindow (.ref C_InvalidPlace) = some false)
    (kn_InvalidWindow_InvalidPlace : C_InvalidWindow ≠ C_InvalidPlace)
    (kk_InvalidWindow_InvalidLength : PySem.W.mroIn K C_InvalidWindow (.ref C_InvalidLength) = some false)
    (kn_InvalidWindow_InvalidLength : C_InvalidWindow ≠ C_InvalidLength)
    (kk_InvalidWindow_InvalidTime : PySem.W.mroIn K C_InvalidWindow (.ref C_InvalidTime) = some false)
    (kn_InvalidWindow_InvalidTime : C_InvalidWindow ≠ C_InvalidTime)
    (kk_InvalidWindow_InvalidName : PySem.W.mroIn K C_InvalidWindow (.ref C_InvalidName) = some false)
    (kn_InvalidWindow_InvalidName : C_InvalidWindow ≠ C_InvalidName)
    (kk_InvalidWindow_InvalidClaim : PySem.W.mroIn K C_InvalidWindow (.ref C_InvalidClaim) = some false)
    (kn_InvalidWindow_InvalidClaim : C_InvalidWindow ≠ C_InvalidClaim)
    (kk_InvalidWindow_InvalidIndex : PySem.W.mroIn K C_InvalidWindow (.ref C_InvalidIndex) = some false)
    (kn_InvalidWindow_InvalidIndex : C_InvalidWindow ≠ C_InvalidIndex)
    (kk_InvalidWindow_InvalidLine : PySem.W.mroIn K C_InvalidWindow (.ref C_InvalidLine) = some false)
    (kn_InvalidWindow_InvalidLine : C_InvalidWindow ≠ C_InvalidLine)
    (kk_InvalidWindow_InvalidDead : PySem.W.mroIn K C_InvalidWindow (.ref C_InvalidDead) = some false)
    (kn_InvalidWindow_InvalidDead : C_InvalidWindow ≠ C_InvalidDead)
    (kk_InvalidWindow_InvalidPaces : PySem.W.mroIn K C_InvalidWindow (.ref C_InvalidPaces) = some false)
    (kn_InvalidWindow_InvalidPaces : C_InvalidWindow ≠ C_InvalidPaces)
    (kk_InvalidWindow_InvalidGroups : PySem.W.mroIn K C_InvalidWindow (.ref C_InvalidGroups) = some false)
    (kn_InvalidWindow_InvalidGroups : C_InvalidWindow ≠ C_InvalidGroups)
    (kk_InvalidWindow_InvalidTimes : PySem.W.mroIn K C_InvalidWindow (.ref C_InvalidTimes) = some false)
    (kn_InvalidWindow_InvalidTimes : C_InvalidWindow ≠ C_InvalidTimes)
    (kk_InvalidWindow_InvalidDeeds : PySem.W.mroIn K C_InvalidWindow (.ref C_InvalidDeeds) = some false)
    (kn_InvalidWindow_InvalidDeeds : C_InvalidWindow ≠ C_InvalidDeeds)
    (kk_InvalidWindow_UnknownName : PySem.W.mroIn K C_InvalidWindow (.ref C_UnknownName) = some false)
    (kn_InvalidWindow_UnknownName : C_InvalidWindow ≠ C_UnknownName)
    (kk_InvalidWindow_InUse : PySem.W.mroIn K C_InvalidWindow (.ref C_InUse) = some false)
    (kn_InvalidWindow_InUse : C_InvalidWindow ≠ C_InUse)
    (kk_InvalidWindow_TooMany : PySem.W.mroIn K C_InvalidWindow (.ref C_TooMany) = some false)
    (kn_InvalidWindow_TooMany : C_InvalidWindow ≠ C_TooMany)
    (kk_InvalidWindow_OtherKind : PySem.W.mroIn K C_InvalidWindow (.ref C_OtherKind) = some false)
    (kn_InvalidWindow_OtherKind : C_InvalidWindow ≠ C_OtherKind)
    (kk_InvalidWindow_Broken : PySem.W.mroIn K C_InvalidWindow (.ref C_Broken) = some false)
    (kn_InvalidWindow_Broken : C_InvalidWindow ≠ C_Broken)
    (kk_InvalidWindow_NothingToUndo : PySem.W.mroIn K C_InvalidWindow (.ref C_NothingToUndo) = some false)
    (kn_InvalidWindow_NothingToUndo : C_InvalidWindow ≠ C_NothingToUndo)
    (kk_InvalidWindow_WrongValue : PySem.W.mroIn K C_InvalidWindow (.ref C_WrongValue) = some true)
    (kk_InvalidWindow_WrongName : PySem.W.mroIn K C_InvalidWindow (.ref C_WrongName) = some false)
    (kn_InvalidWindow_WrongName : C_InvalidWindow ≠ C_WrongName)
    (kk_InvalidWindow_NoAnswer : PySem.W.mroIn K C_InvalidWindow (.ref C_NoAnswer) = some false)
    (kn_InvalidWindow_NoAnswer : C_InvalidWindow ≠ C_NoAnswer)
    (kt_InvalidWindow_ValueError : PySem.W.mroIn K C_InvalidWindow (.type "ValueError") = some true)
    (kt_InvalidWindow_LookupError : PySem.W.mroIn K C_InvalidWindow (.type "LookupError") = some false)
    (kt_InvalidWindow_ArithmeticError : PySem.W.mroIn K C_InvalidWindow (.type "ArithmeticError") = some false)
    (xL_NotARecord : K.lookup C_NotARecord = some (excClassObj nm_NotARecord q_NotARecord C_NotARecord N_NotARecord bs_NotARecord [.ref C_WrongValue, .type "ValueError", .type "Exception", .type "BaseException", .type "object"] true sn_NotARecord sub_NotARecord ab_NotARecord col_NotARecord dd_NotARecord e0_NotARecord e1_NotARecord e2_NotARecord e3_NotARecord e5_NotARecord "ValueError.__new__"))
    (sa_NotARecord : PySem.W.findIn K (.ref C_NotARecord) "__setattr__" = some (some (.builtin "object.__setattr__")))
    (sb_NotARecord : PySem.W.subIn K (.ref C_NotARecord) (.type "BaseException") = some true)
    (kc_NotARecord : PySem.W.keepIn K (.ref C_NotARecord) = true)
    (no_NotARecord : PySem.W.findIn K (.ref C_NotARecord) "given" = some none)
    (ga_NotARecord : PySem.W.findIn K (.ref C_NotARecord) "__getattribute__" = some (some (.builtin "BaseException.__getattribute__")))
    (gg_NotARecord : PySem.W.findIn K (.ref C_NotARecord) "__getattr__" = some none)
    (cA_NotARecord : PySem.W.findIn K (.ref C_NotARecord) "__class__" = some (some (.builtin "object.__class__")))
    (cM_NotARecord : PySem.W.mroIn K C_NotARecord (.type "object") = some true)
    (kk_NotARecord_NotASign : PySem.W.mroIn K C_NotARecord (.ref C_NotASign) = some false)
    (kn_NotARecord_NotASign : C_NotARecord ≠ C_NotASign)
    (kk_NotARecord_InvalidText : PySem.W.mroIn K C_NotARecord (.ref C_InvalidText) = some false)
    (kn_NotARecord_InvalidText : C_NotARecord ≠ C_InvalidText)
    (kk_NotARecord_InvalidPace : PySem.W.mroIn K C_NotARecord (.ref C_InvalidPace) = some false)
    (kn_NotARecord_InvalidPace : C_NotARecord ≠ C_InvalidPace)
    (kk_NotARecord_InvalidWidth : PySem.W.mroIn K C_NotARecord (.ref C_InvalidWidth) = some false)
    (kn_NotARecord_InvalidWidth : C_NotARecord ≠ C_InvalidWidth)
    (kk_NotARecord_InvalidPlace : PySem.W.mroIn K C_NotARecord (.ref C_InvalidPlace) = some false)
    (kn_NotARecord_InvalidPlace : C_NotARecord ≠ C_InvalidPlace)
    (kk_NotARecord_InvalidLength : PySem.W.mroIn K C_NotARecord (.ref C_InvalidLength) = some false)
    (kn_NotARecord_InvalidLength : C_NotARecord ≠ C_InvalidLength)
    (kk_NotARecord_InvalidTime : PySem.W.mroIn K C_NotARecord (.ref C_InvalidTime) = some false)
    (kn_NotARecord_InvalidTime : C_NotARecord ≠ C_InvalidTime)
    (kk_NotARecord_InvalidWindow : PySem.W.mroIn K C_NotARecord (.ref C_InvalidWindow) = some false)
    (kn_NotARecord_InvalidWindow : C_NotARecord ≠ C_InvalidWindow)
    (kk_NotARecord_InvalidName : PySem.W.mroIn K C_NotARecord (.ref C_InvalidName) = some false)
    (kn_NotARecord_InvalidName : C_NotARecord ≠ C_InvalidName)
    (kk_NotARecord_InvalidClaim : PySem.W.mroIn K C_NotARecord (.ref C_InvalidClaim) = some false)
    (kn_NotARecord_InvalidClaim : C_NotARecord ≠ C_InvalidClaim)
    (kk_NotARecord_InvalidIndex : PySem.W.mroIn K C_NotARecord (.ref C_InvalidIndex) = some false)
    (kn_NotARecord_InvalidIndex : C_NotARecord ≠ C_InvalidIndex)
    (kk_NotARecord_InvalidLine : PySem.W.mroIn K C_NotARecord (.ref C_InvalidLine) = some false)
    (kn_NotARecord_InvalidLine : C_NotARecord ≠ C_InvalidLine)
    (kk_NotARecord_InvalidDead : PySem.W.mroIn K C_NotARecord (.ref C_InvalidDead) = some false)
    (kn_NotARecord_InvalidDead : C_NotARecord ≠ C_InvalidDead)
    (kk_NotARecord_InvalidPaces : PySem.W.mroIn K C_NotARecord (.ref C_InvalidPaces) = some false)
    (kn_NotARecord_InvalidPaces : C_NotARecord ≠ C_InvalidPaces)
    (kk_NotARecord_InvalidGroups : PySem.W.mroIn K C_NotARecord (.ref C_InvalidGroups) = some false)
    (kn_NotARecord_InvalidGroups : C_NotARecord ≠ C_InvalidGroups)
    (kk_NotARecord_InvalidTimes : PySem.W.mroIn K C_NotARecord (.ref C_InvalidTimes) = some false)
    (kn_NotARecord_InvalidTimes : C_NotARecord ≠ C_InvalidTimes)
    (kk_NotARecord_InvalidDeeds : PySem.W.mroIn K C_NotARecord (.ref C_InvalidDeeds) = some false)
    (kn_NotARecord_InvalidDeeds : C_NotARecord ≠ C_InvalidDeeds)
    (kk_NotARecord_UnknownName : PySem.W.mroIn K C_NotARecord (.ref C_UnknownName) = some false)
    (kn_NotARecord_UnknownName : C_NotARecord ≠ C_UnknownName)
    (kk_NotARecord_InUse : PySem.W.mroIn K C_NotARecord (.ref C_InUse) = some false)
    (kn_NotARecord_InUse : C_NotARecord ≠ C_InUse)
    (kk_NotARecord_TooMany : PySem.W.mroIn K C_NotARecord (.ref C_TooMany) = some false)
    (kn_NotARecord_TooMany : C_NotARecord ≠ C_TooMany)
    (kk_NotARecord_OtherKind : PySem.W.mroIn K C_NotARecord (.ref C_OtherKind) = some false)
    (kn_NotARecord_OtherKind : C_NotARecord ≠ C_OtherKind)
    (kk_NotARecord_Broken : PySem.W.mroIn K C_NotARecord (.ref C_Broken) = some false)
    (kn_NotARecord_Broken : C_NotARecord ≠ C_Broken)
    (kk_NotARecord_NothingToUndo : PySem.W.mroIn K C_NotARecord (.ref C_NothingToUndo) = some false)
    (kn_NotARecord_NothingToUndo : C_NotARecord ≠ C_NothingToUndo)
    (kk_NotARecord_WrongValue : PySem.W.mroIn K C_NotARecord (.ref C_WrongValue) = some true)
    (kk_NotARecord_WrongName : PySem.W.mroIn K C_NotARecord (.ref C_WrongName) = some false)
    (kn_NotARecord_WrongName : C_NotARecord ≠ C_WrongName)
    (kk_NotARecord_NoAnswer : PySem.W.mroIn K C_NotARecord (.ref C_NoAnswer) = some false)
    (kn_NotARecord_NoAnswer : C_NotARecord ≠ C_NoAnswer)
    (kt_NotARecord_ValueError : PySem.W.mroIn K C_NotARecord (.type "ValueError") = some true)
    (kt_NotARecord_LookupError : PySem.W.mroIn K C_NotARecord (.type "LookupError") = some false)
    (kt_NotARecord_ArithmeticError : PySem.W.mroIn K C_NotARecord (.type "ArithmeticError") = some false)
    (sb_WrongValue : PySem.W.subIn K (.ref C_WrongValue) (.type "BaseException") = some true)
    (sb_WrongName : PySem.W.subIn K (.ref C_WrongName) (.type "BaseException") = some true)
    (sb_NoAnswer : PySem.W.subIn K (.ref C_NoAnswer) (.type "BaseException") = some true)
    (nn_Record_kept : PySem.W.findIn K (.ref C_Record) "kept" = some none)
    (xg : PySem.W.specialIn K (.builtin "object.__class__") "__get__" = some (some (.builtin "getset_descriptor.__get__")))
    (xt : PySem.W.takesIn K (.builtin "object.__class__") = some true)
    (w0 : PySem.W.nsIn K mainGlobals "CAPITALS" = some (some (.str "ABCDEFGHIJKLMNOPQRSTUVWXYZ" u0)))
    (w1 : PySem.W.nsIn K mainGlobals "GREATEST" = some (some (.int 1000000000000000000000000000000 u1)))
    (w2 : PySem.W.nsIn K mainGlobals "LETTERS" = some (some (.str "-abcdefghijklmnopqrstuvwxyz" u2)))
    (w3 : PySem.W.nsIn K mainGlobals "MOST_GLANCES" = some (some (.int 12 u3)))
    (w4 : PySem.W.nsIn K mainGlobals "MOST_LENGTH" = some (some (.int 40 u4)))
    (w5 : PySem.W.nsIn K mainGlobals "MOST_PACE" = some (some (.int 9 u5)))
    (w6 : PySem.W.nsIn K mainGlobals "MOST_WIDTH" = some (some (.int 8 u6)))
    (w7 : PySem.W.nsIn K mainGlobals "SMALL" = some (some (.str "abcdefghijklmnopqrstuvwxyz" u7)))
    (w8 : PySem.W.nsIn K mainGlobals "UNREAD" = some (some (.str "?" u8)))
    (z0 : PySem.W.nsIn K mainGlobals "len" = some none)
    (z1 : PySem.W.nsIn K mainGlobals "range" = some none)
    (z2 : PySem.W.nsIn K mainGlobals "str" = some none)
    (z3 : PySem.W.nsIn K mainGlobals "int" = some none)
    (z4 : PySem.W.nsIn K mainGlobals "abs" = some none)
    (z5 : PySem.W.nsIn K mainGlobals "divmod" = some none)
    (z6 : PySem.W.nsIn K mainGlobals "all" = some none)
    (z7 : PySem.W.nsIn K mainGlobals "any" = some none)
    (z8 : PySem.W.nsIn K mainGlobals "repr" = some none)
    (z9 : PySem.W.nsIn K mainGlobals "isinstance" = some none)
    (z10 : PySem.W.nsIn K mainGlobals "max" = some none)
    (z11 : PySem.W.nsIn K mainGlobals "min" = some none)
    (z12 : PySem.W.nsIn K mainGlobals "bool" = some none)
    (z13 : PySem.W.nsIn K mainGlobals "tuple" = some none)
    (z14 : PySem.W.nsIn K mainGlobals "list" = some none)
    (z15 : PySem.W.nsIn K mainGlobals "enumerate" = some none)
    (z16 : PySem.W.nsIn K mainGlobals "zip" = some none)
    (z17 : PySem.W.nsIn K mainGlobals "sorted" = some none)
    (z18 : PySem.W.nsIn K mainGlobals "sum" = some none)
    (zz_ValueError : PySem.W.nsIn K mainGlobals "ValueError" = some none)
    (zz_LookupError : PySem.W.nsIn K mainGlobals "LookupError" = some none)
    (zz_ArithmeticError : PySem.W.nsIn K mainGlobals "ArithmeticError" = some none)
    (pn53_52 : pp53 ≠ pp52)
    (pn52_53 : pp52 ≠ pp53) :
    LawG l w K 15 63 "_law_script" mg fa h := by
  have e := hfa.symm.trans (PySem.W.mg_of X Gn a53)
  cases e
  obtain ⟨cm, hc0, hc1, hc2, hc3, hc4, hc5, hc6, hc7, hc8, hc9⟩ : ∃ cm : Str → Addr, cm "Record" = C_Record ∧ cm "InvalidDead" = C_InvalidDead ∧ cm "InvalidGroups" = C_InvalidGroups ∧ cm "InvalidLength" = C_InvalidLength ∧ cm "InvalidPaces" = C_InvalidPaces ∧ cm "InvalidPlace" = C_InvalidPlace ∧ cm "InvalidTime" = C_InvalidTime ∧ cm "InvalidWidth" = C_InvalidWidth ∧ cm "InvalidWindow" = C_InvalidWindow ∧ cm "NotARecord" = C_NotARecord := ⟨fun x => if x = "Record" then C_Record else if x = "InvalidDead" then C_InvalidDead else if x = "InvalidGroups" then C_InvalidGroups else if x = "InvalidLength" then C_InvalidLength else if x = "InvalidPaces" then C_InvalidPaces else if x = "InvalidPlace" then C_InvalidPlace else if x = "InvalidTime" then C_InvalidTime else if x = "InvalidWidth" then C_InvalidWidth else if x = "InvalidWindow" then C_InvalidWindow else C_NotARecord, if_pos rfl, (if_neg (by decide)).trans (if_pos rfl), (if_neg (by decide)).trans ((if_neg (by decide)).trans (if_pos rfl)), (if_neg (by decide)).trans ((if_neg (by decide)).trans ((if_neg (by decide)).trans (if_pos rfl))), (if_neg (by decide)).trans ((if_neg (by decide)).trans ((if_neg (by decide)).trans ((if_neg (by decide)).trans (if_pos rfl)))), (if_neg (by decide)).trans ((if_neg (by decide)).trans ((if_neg (by decide)).trans ((if_neg (by decide)).trans ((if_neg (by decide)).trans (if_pos rfl))))), (if_neg (by decide)).trans ((if_neg (by decide)).trans ((if_neg (by decide)).trans ((if_neg (by decide)).trans ((if_neg (by decide)).trans ((if_neg (by decide)).trans (if_pos rfl)))))), (if_neg (by decide)).trans ((if_neg (by decide)).trans ((if_neg (by decide)).trans ((if_neg (by decide)).trans ((if_neg (by decide)).trans ((if_neg (by decide)).trans ((if_neg (by decide)).trans (if_pos rfl))))))), (if_neg (by decide)).trans ((if_neg (by decide)).trans ((if_neg (by decide)).trans ((if_neg (by decide)).trans ((if_neg (by decide)).trans ((if_neg (by decide)).trans ((if_neg (by decide)).trans ((if_neg (by decide)).trans (if_pos rfl)))))))), (if_neg (by decide)).trans ((if_neg (by decide)).trans ((if_neg (by decide)).trans ((if_neg (by decide)).trans ((if_neg (by decide)).trans ((if_neg (by decide)).trans ((if_neg (by decide)).trans ((if_neg (by decide)).trans ((if_neg (by decide)).trans (rfl)))))))))⟩
  subst hc0
  subst hc1
  subst hc2
  subst hc3
  subst hc4
  subst hc5
  subst hc6
  subst hc7
  subst hc8
  subst hc9
  obtain ⟨cs, hcs⟩ : ∃ cs : List Str, cs = [("Record" : Str)] := ⟨_, rfl⟩
  obtain ⟨T, hT⟩ : ∃ T : List (Addr × Str), T = [(pp52, (("_law_right" : Str) ++ (".<locals>." : Str)) ++ "<lambda>"), (pp53, (("law" : Str) ++ (".<locals>." : Str)) ++ "<lambda>")] := ⟨_, rfl⟩
  have s_Record : ("Record" : Str) ∈ cs := by rw [hcs]; simp
  have B : Bn mg := ⟨PySem.W.mg_none_of X Gn z0, PySem.W.mg_none_of X Gn z1, PySem.W.mg_none_of X Gn z2, PySem.W.mg_none_of X Gn z3, PySem.W.mg_none_of X Gn z4, PySem.W.mg_none_of X Gn z5, PySem.W.mg_none_of X Gn z6, PySem.W.mg_none_of X Gn z7, PySem.W.mg_none_of X Gn z8, PySem.W.mg_none_of X Gn z9, PySem.W.mg_none_of X Gn z10, PySem.W.mg_none_of X Gn z11, PySem.W.mg_none_of X Gn z12, PySem.W.mg_none_of X Gn z13, PySem.W.mg_none_of X Gn z14, PySem.W.mg_none_of X Gn z15, PySem.W.mg_none_of X Gn z16, PySem.W.mg_none_of X Gn z17, PySem.W.mg_none_of X Gn z18⟩
  have cl_Record : Cls K (cm "Record") := ⟨pg_Record, hd_Record, po_Record, sa_Record⟩
  have k_Record : mg "Record" = some (.ref (cm "Record")) := PySem.W.mg_of X Gn aC_Record
  have eqc_Record : EqC K (cm "Record") := ⟨fun t ht => by
    simp only [tyNs, List.mem_cons, List.not_mem_nil, or_false] at ht
    rcases ht with rfl | rfl | rfl | rfl | rfl | rfl | rfl <;> assumption, cM_Record, cn_Record⟩
  have n_kept : NoAttr K (cm "Record") "kept" := nn_Record_kept
  have ck : CK K cm cs := by
    rw [hcs]
    refine ⟨?_, ?_, ?_, xg, xt⟩
    · intro C hC
      simp only [List.mem_cons, List.not_mem_nil, or_false] at hC
      rcases hC with rfl
      · exact ⟨cl_Record, cA_Record, cM_Record, kit_no hd_Record ty_Record⟩
    · intro C hC t ht
      simp only [List.mem_cons, List.not_mem_nil, or_false] at hC
      simp only [bltT, List.mem_cons, List.not_mem_nil, or_false] at ht
      rcases hC with rfl <;> rcases ht with rfl | rfl | rfl | rfl <;> exact kit_bt (by decide +kernel) (by assumption)
    · intro C hC C1 hC1 hn
      simp only [List.mem_cons, List.not_mem_nil, or_false] at hC hC1
      rcases hC with rfl <;> rcases hC1 with rfl <;> first | exact absurd rfl hn | exact kit_rf (by assumption) (by assumption) (by assumption) (by assumption)
  have g_CAPITALS : ∃ t, mg "CAPITALS" = some (.str "ABCDEFGHIJKLMNOPQRSTUVWXYZ" t) := ⟨_, PySem.W.mg_of X Gn w0⟩
  have g_GREATEST : ∃ t, mg "GREATEST" = some (.int 1000000000000000000000000000000 t) := ⟨_, PySem.W.mg_of X Gn w1⟩
  have g_LETTERS : ∃ t, mg "LETTERS" = some (.str "-abcdefghijklmnopqrstuvwxyz" t) := ⟨_, PySem.W.mg_of X Gn w2⟩
  have g_MOST_GLANCES : ∃ t, mg "MOST_GLANCES" = some (.int 12 t) := ⟨_, PySem.W.mg_of X Gn w3⟩
  have g_MOST_LENGTH : ∃ t, mg "MOST_LENGTH" = some (.int 40 t) := ⟨_, PySem.W.mg_of X Gn w4⟩
  have g_MOST_PACE : ∃ t, mg "MOST_PACE" = some (.int 9 t) := ⟨_, PySem.W.mg_of X Gn w5⟩
  have g_MOST_WIDTH : ∃ t, mg "MOST_WIDTH" = some (.int 8 t) := ⟨_, PySem.W.mg_of X Gn w6⟩
  have g_SMALL : ∃ t, mg "SMALL" = some (.str "abcdefghijklmnopqrstuvwxyz" t) := ⟨_, PySem.W.mg_of X Gn w7⟩
  have g_UNREAD : ∃ t, mg "UNREAD" = some (.str "?" t) := ⟨_, PySem.W.mg_of X Gn w8⟩
  have F0 := fun_mk (st := s_l_sip) l0 c0 k0
  have b0 := F0.binds (ps := ["_law_cup_here", "_law_many"]) fun _ _ _ _ _ _ us hl => match us, hl with | [_, _], _ => rfl
  have F1 := fun_mk (st := s_l_cup) l1 c1 k1
  have b1 := F1.binds (ps := ["_law_script", "_law_spot"]) fun _ _ _ _ _ _ us hl => match us, hl with | [_, _], _ => rfl
  have F2 := fun_mk (st := s_l_classes) l2 c2 k2
  have b2 := F2.binds (ps := ["_law_e"]) fun _ _ _ _ _ _ us hl => match us, hl with | [_], _ => rfl
  have F3 := fun_mk (st := s_l_caught) l3 c3 k3
  have b3 := F3.binds (ps := ["_law_act"]) fun _ _ _ _ _ _ us hl => match us, hl with | [_], _ => rfl
  have F4 := fun_mk (st := s_l_pick) l4 c4 k4
  have b4 := F4.binds (ps := ["_law_cup_here", "_law_things"]) fun _ _ _ _ _ _ us hl => match us, hl with | [_, _], _ => rfl
  have F5 := fun_mk (st := s_check_record) l5 c5 k5
  have b5 := F5.binds (ps := ["record"]) fun _ _ _ _ _ _ us hl => match us, hl with | [_], _ => rfl
  have F6 := fun_mk (st := s_is_whole) l6 c6 k6
  have b6 := F6.binds (ps := ["value", "least", "most"]) fun _ _ _ _ _ _ us hl => match us, hl with | [_, _, _], _ => rfl
  have F7 := fun_mk (st := s_is_time) l7 c7 k7
  have b7 := F7.binds (ps := ["value"]) fun _ _ _ _ _ _ us hl => match us, hl with | [_], _ => rfl
  have F8 := fun_mk (st := s_check_time) l8 c8 k8
  have b8 := F8.binds (ps := ["time"]) fun _ _ _ _ _ _ us hl => match us, hl with | [_], _ => rfl
  have F9 := fun_mk (st := s_letters_for) l9 c9 k9
  have b9 := F9.binds (ps := ["mark", "groups"]) fun _ _ _ _ _ _ us hl => match us, hl with | [_, _], _ => rfl
  have F10 := fun_mk (st := s_is_reading) l10 c10 k10
  have b10 := F10.binds (ps := ["value", "width", "groups"]) fun _ _ _ _ _ _ us hl => match us, hl with | [_, _, _], _ => rfl
  have F11 := fun_mk (st := s_check_window) l11 c11 k11
  have b11 := F11.binds (ps := ["window", "width", "groups"]) fun _ _ _ _ _ _ us hl => match us, hl with | [_, _, _], _ => rfl
  have F12 := fun_mk (st := s_mask_of) l12 c12 k12
  have b12 := F12.binds (ps := ["letters"]) fun _ _ _ _ _ _ us hl => match us, hl with | [_], _ => rfl
  have F13 := fun_mk (st := s_masks_for) l13 c13 k13
  have b13 := F13.binds (ps := ["reading", "groups"]) fun _ _ _ _ _ _ us hl => match us, hl with | [_, _], _ => rfl
  have F14 := fun_mk (st := s_Record_glances) l14 c14 k14
  have b14 := F14.binds (ps := ["self"]) fun _ _ _ _ _ _ us hl => match us, hl with | [_], _ => rfl
  have F15 := fun_mk (st := s_Record_groups) l15 c15 k15
  have b15 := F15.binds (ps := ["self"]) fun _ _ _ _ _ _ us hl => match us, hl with | [_], _ => rfl
  have F16 := fun_mk (st := s_glimpses) l16 c16 k16
  have b16 := F16.binds (ps := ["record"]) fun _ _ _ _ _ _ us hl => match us, hl with | [_], _ => rfl
  have F17 := fun_mk (st := s_Record_least) l17 c17 k17
  have b17 := F17.binds (ps := ["self"]) fun _ _ _ _ _ _ us hl => match us, hl with | [_], _ => rfl
  have F18 := fun_mk (st := s_Record_most) l18 c18 k18
  have b18 := F18.binds (ps := ["self"]) fun _ _ _ _ _ _ us hl => match us, hl with | [_], _ => rfl
  have F19 := fun_mk (st := s_Record_paces) l19 c19 k19
  have b19 := F19.binds (ps := ["self"]) fun _ _ _ _ _ _ us hl => match us, hl with | [_], _ => rfl
  have F20 := fun_mk (st := s_let_pairs) l20 c20 k20
  have b20 := F20.binds (ps := ["record"]) fun _ _ _ _ _ _ us hl => match us, hl with | [_], _ => rfl
  have F21 := fun_mk (st := s_number_at) l21 c21 k21
  have b21 := F21.binds (ps := ["time", "place", "length", "pace"]) fun _ _ _ _ _ _ us hl => match us, hl with | [_, _, _, _], _ => rfl
  have F22 := fun_mk (st := s_numbers_at) l22 c22 k22
  have b22 := F22.binds (ps := ["time", "width", "length", "pace"]) fun _ _ _ _ _ _ us hl => match us, hl with | [_, _, _, _], _ => rfl
  have F23 := fun_mk (st := s_cells) l23 c23 k23
  have b23 := F23.binds (ps := ["looks", "length", "pace"]) fun _ _ _ _ _ _ us hl => match us, hl with | [_, _, _], _ => rfl
  have F24 := fun_mk (st := s_some_fits) l24 c24 k24
  have b24 := F24.binds (ps := ["let", "looks"]) fun _ _ _ _ _ _ us hl => match us, hl with | [_, _], _ => rfl
  have F25 := fun_mk (st := s_Record_width) l25 c25 k25
  have b25 := F25.binds (ps := ["self"]) fun _ _ _ _ _ _ us hl => match us, hl with | [_], _ => rfl
  have F26 := fun_mk (st := s_can) l26 c26 k26
  have b26 := F26.binds (ps := ["record", "time", "window"]) fun _ _ _ _ _ _ us hl => match us, hl with | [_, _, _], _ => rfl
  have F27 := fun_mk (st := s_possible) l27 c27 k27
  have b27 := F27.binds (ps := ["record"]) fun _ _ _ _ _ _ us hl => match us, hl with | [_], _ => rfl
  have F28 := fun_mk (st := s_windows_at) l28 c28 k28
  have b28 := F28.binds (ps := ["record", "time"]) fun _ _ _ _ _ _ us hl => match us, hl with | [_, _], _ => rfl
  have F29 := fun_mk (st := s_all_at) l29 c29 k29
  have b29 := F29.binds (ps := ["record", "time"]) fun _ _ _ _ _ _ us hl => match us, hl with | [_, _], _ => rfl
  have F30 := fun_mk (st := s_check_place) l30 c30 k30
  have b30 := F30.binds (ps := ["place", "width"]) fun _ _ _ _ _ _ us hl => match us, hl with | [_, _], _ => rfl
  have F31 := fun_mk (st := s_letters_in) l31 c31 k31
  have b31 := F31.binds (ps := ["mask"]) fun _ _ _ _ _ _ us hl => match us, hl with | [_], _ => rfl
  have F32 := fun_mk (st := s_letters) l32 c32 k32
  have b32 := F32.binds (ps := ["record", "time", "place"]) fun _ _ _ _ _ _ us hl => match us, hl with | [_, _, _], _ => rfl
  have F33 := fun_mk (st := s_are_within) l33 c33 k33
  have b33 := F33.binds (ps := ["masks", "others"]) fun _ _ _ _ _ _ us hl => match us, hl with | [_, _], _ => rfl
  have F34 := fun_mk (st := s_must) l34 c34 k34
  have b34 := F34.binds (ps := ["record", "time", "window"]) fun _ _ _ _ _ _ us hl => match us, hl with | [_, _, _], _ => rfl
  have F35 := fun_mk (st := s_only_letter) l35 c35 k35
  have b35 := F35.binds (ps := ["mask"]) fun _ _ _ _ _ _ us hl => match us, hl with | [_], _ => rfl
  have F36 := fun_mk (st := s_sure) l36 c36 k36
  have b36 := F36.binds (ps := ["record", "time"]) fun _ _ _ _ _ _ us hl => match us, hl with | [_, _], _ => rfl
  have F37 := fun_mk (st := s_first_not_rising) l37 c37 k37
  have b37 := F37.binds (ps := ["row", "least", "most"]) fun _ _ _ _ _ _ us hl => match us, hl with | [_, _, _], _ => rfl
  have F38 := fun_mk (st := s_check_dead) l38 c38 k38
  have b38 := F38.binds (ps := ["dead", "width"]) fun _ _ _ _ _ _ us hl => match us, hl with | [_, _], _ => rfl
  have F39 := fun_mk (st := s_is_group) l39 c39 k39
  have b39 := F39.binds (ps := ["value", "used"]) fun _ _ _ _ _ _ us hl => match us, hl with | [_, _], _ => rfl
  have F40 := fun_mk (st := s_first_no_group) l40 c40 k40
  have b40 := F40.binds (ps := ["groups"]) fun _ _ _ _ _ _ us hl => match us, hl with | [_], _ => rfl
  have F41 := fun_mk (st := s_check_groups) l41 c41 k41
  have b41 := F41.binds (ps := ["groups"]) fun _ _ _ _ _ _ us hl => match us, hl with | [_], _ => rfl
  have F42 := fun_mk (st := s_is_length) l42 c42 k42
  have b42 := F42.binds (ps := ["value", "least"]) fun _ _ _ _ _ _ us hl => match us, hl with | [_, _], _ => rfl
  have F43 := fun_mk (st := s_check_length) l43 c43 k43
  have b43 := F43.binds (ps := ["length", "least"]) fun _ _ _ _ _ _ us hl => match us, hl with | [_, _], _ => rfl
  have F44 := fun_mk (st := s_check_paces) l44 c44 k44
  have b44 := F44.binds (ps := ["paces"]) fun _ _ _ _ _ _ us hl => match us, hl with | [_], _ => rfl
  have F45 := fun_mk (st := s_check_width) l45 c45 k45
  have b45 := F45.binds (ps := ["width"]) fun _ _ _ _ _ _ us hl => match us, hl with | [_], _ => rfl
  have F46 : FunD K "__init__" "Record.__init__" (defArgs s_Record_init) (defBody s_Record_init) (defScope s_Record_init) [] [("dead", .ref T46_0), ("least", .int 1), ("most", .int 20), ("paces", .ref T46_3), ("groups", .ref T46_4)] f46 _ := ⟨⟨oc46, od46, .none, .ref D46, dc46, pm46, an46, cd46, ct46, sl46, rfl, l46, c46, .inl ⟨rfl, rfl⟩, .inr ⟨D46, rfl, fun q hq => by
    simp only [List.mem_cons, List.not_mem_nil, or_false] at hq
    rcases hq with rfl | rfl | rfl | rfl | rfl
    · exact ⟨_, d46_0, rfl⟩
    · exact ⟨_, d46_1, ⟨_, rfl⟩⟩
    · exact ⟨_, d46_2, ⟨_, rfl⟩⟩
    · exact ⟨_, d46_3, rfl⟩
    · exact ⟨_, d46_4, rfl⟩⟩⟩, k46⟩
  have rl46_dead : ∀ (pc : Pc) (Hs : Hp), Rl ⟨K, cm, cs, pc⟩ Hs (.tup []) (.ref T46_0) := fun pc Hs => rl_tup.mpr ⟨_, [], rfl, .inr ⟨_, _, _, t46_0, rfl, rfl, Nat.le_of_ble_eq_true rfl, .nil⟩, Nat.le_of_ble_eq_true rfl, rll_nil.mpr rfl⟩
  have rl46_least : ∀ (pc : Pc) (Hs : Hp), Rl ⟨K, cm, cs, pc⟩ Hs (.int 1) (.int 1) := fun pc Hs => rl_int.mpr rfl
  have rl46_most : ∀ (pc : Pc) (Hs : Hp), Rl ⟨K, cm, cs, pc⟩ Hs (.int 20) (.int 20) := fun pc Hs => rl_int.mpr rfl
  have rl46_paces : ∀ (pc : Pc) (Hs : Hp), Rl ⟨K, cm, cs, pc⟩ Hs (.tup [.int 1]) (.ref T46_3) := fun pc Hs => rl_tup.mpr ⟨_, [.int 1], rfl, .inr ⟨_, _, _, t46_3, rfl, rfl, Nat.le_of_ble_eq_true rfl, (.cons ⟨_, rfl⟩ .nil)⟩, Nat.le_of_ble_eq_true rfl, rll_cons.mpr ⟨_, _, rfl, rl_int.mpr rfl, rll_nil.mpr rfl⟩⟩
  have rl46_groups : ∀ (pc : Pc) (Hs : Hp), Rl ⟨K, cm, cs, pc⟩ Hs (.tup []) (.ref T46_4) := fun pc Hs => rl_tup.mpr ⟨_, [], rfl, .inr ⟨_, _, _, t46_4, rfl, rfl, Nat.le_of_ble_eq_true rfl, .nil⟩, Nat.le_of_ble_eq_true rfl, rll_nil.mpr rfl⟩
  have F47 := fun_mk (st := s_unread_where_dead) l47 c47 k47
  have b47 := F47.binds (ps := ["window", "dead"]) fun _ _ _ _ _ _ us hl => match us, hl with | [_, _], _ => rfl
  have F48 := fun_mk (st := s_Record_told) l48 c48 k48
  have b48 := F48.binds (ps := ["self"]) fun _ _ _ _ _ _ us hl => match us, hl with | [_], _ => rfl
  have F49 := fun_mk (st := s_with_glances) l49 c49 k49
  have b49 := F49.binds (ps := ["record", "glances"]) fun _ _ _ _ _ _ us hl => match us, hl with | [_, _], _ => rfl
  have F50 := fun_mk (st := s_Record_dead) l50 c50 k50
  have b50 := F50.binds (ps := ["self"]) fun _ _ _ _ _ _ us hl => match us, hl with | [_], _ => rfl
  have F51 := fun_mk (st := s_Record_seen) l51 c51 k51
  have b51 := F51.binds (ps := ["self", "time", "window"]) fun _ _ _ _ _ _ us hl => match us, hl with | [_, _, _], _ => rfl
  have F52 := fun_mk (st := s_l_right) l52 c52 k52
  have b52 := F52.binds (ps := ["_law_cup_here"]) fun _ _ _ _ _ _ us hl => match us, hl with | [_], _ => rfl
  have F53 := fun_mk (st := s_law) l53 c53 k53
  have F54 := fun_mk (st := s_InvalidDead_init) l54 c54 k54
  have b54 := F54.binds (ps := ["self", "index"]) fun _ _ _ _ _ _ us hl => match us, hl with | [_, _], _ => rfl
  have F55 := fun_mk (st := s_InvalidGroups_init) l55 c55 k55
  have b55 := F55.binds (ps := ["self", "index"]) fun _ _ _ _ _ _ us hl => match us, hl with | [_, _], _ => rfl
  have F56 := fun_mk (st := s_InvalidLength_init) l56 c56 k56
  have b56 := F56.binds (ps := ["self", "given"]) fun _ _ _ _ _ _ us hl => match us, hl with | [_, _], _ => rfl
  have F57 := fun_mk (st := s_InvalidPaces_init) l57 c57 k57
  have b57 := F57.binds (ps := ["self", "index"]) fun _ _ _ _ _ _ us hl => match us, hl with | [_, _], _ => rfl
  have F58 := fun_mk (st := s_InvalidPlace_init) l58 c58 k58
  have b58 := F58.binds (ps := ["self", "given"]) fun _ _ _ _ _ _ us hl => match us, hl with | [_, _], _ => rfl
  have F59 := fun_mk (st := s_InvalidTime_init) l59 c59 k59
  have b59 := F59.binds (ps := ["self", "given"]) fun _ _ _ _ _ _ us hl => match us, hl with | [_, _], _ => rfl
  have F60 := fun_mk (st := s_InvalidWidth_init) l60 c60 k60
  have b60 := F60.binds (ps := ["self", "given"]) fun _ _ _ _ _ _ us hl => match us, hl with | [_, _], _ => rfl
  have F61 := fun_mk (st := s_InvalidWindow_init) l61 c61 k61
  have b61 := F61.binds (ps := ["self", "given"]) fun _ _ _ _ _ _ us hl => match us, hl with | [_, _], _ => rfl
  have F62 := fun_mk (st := s_NotARecord_init) l62 c62 k62
  have b62 := F62.binds (ps := ["self", "given"]) fun _ _ _ _ _ _ us hl => match us, hl with | [_, _], _ => rfl
  have df_Record_1_dead_groups : Dfl K cm cs [.int 1, .int 20, .tup [.int 1]] [.int 1, .int 20, .ref T46_3] := fun pc Hs => rll_cons.mpr ⟨_, _, rfl, rl46_least pc Hs, rll_cons.mpr ⟨_, _, rfl, rl46_most pc Hs, rll_cons.mpr ⟨_, _, rfl, rl46_paces pc Hs, rll_nil.mpr rfl⟩⟩⟩
  obtain ⟨mv_Record_1_dead_groups, kb_Record_1_dead_groups⟩ := FunD.kbindsT (ps := ["self", "width", "dead", "least", "most", "paces", "groups"]) F46 2 ["dead", "groups"] [("least", .int 1), ("most", .int 20), ("paces", .ref T46_3)] [.p 0, .k 0, .d 0, .d 1, .d 2, .k 1] (by simp) (by simp) fun D doc pm an cdv ct us mv ws h1 h2 h3 => match us, mv, ws, h1, h2, h3 with | [_, _], [_, _, _], [_, _], _, _, _ => ⟨_, _, _, _, _, _, rfl, rfl, ⟨_, _, _, _, _, _, rfl, rfl, ⟨_, _, _, _, _, _, rfl, rfl, rfl⟩⟩⟩
  have df_Record_1_dead_least_most_paces_groups : Dfl K cm cs [] [] := fun pc Hs => rll_nil.mpr rfl
  obtain ⟨mv_Record_1_dead_least_most_paces_groups, kb_Record_1_dead_least_most_paces_groups⟩ := FunD.kbindsT (ps := ["self", "width", "dead", "least", "most", "paces", "groups"]) F46 2 ["dead", "least", "most", "paces", "groups"] [] [.p 0, .k 0, .k 1, .k 2, .k 3, .k 4] (by simp) (by simp) fun D doc pm an cdv ct us mv ws h1 h2 h3 => match us, mv, ws, h1, h2, h3 with | [_, _], [], [_, _, _, _, _], _, _, _ => rfl
  have df_Record_1_groups : Dfl K cm cs [.tup [], .int 1, .int 20, .tup [.int 1]] [.ref T46_0, .int 1, .int 20, .ref T46_3] := fun pc Hs => rll_cons.mpr ⟨_, _, rfl, rl46_dead pc Hs, rll_cons.mpr ⟨_, _, rfl, rl46_least pc Hs, rll_cons.mpr ⟨_, _, rfl, rl46_most pc Hs, rll_cons.mpr ⟨_, _, rfl, rl46_paces pc Hs, rll_nil.mpr rfl⟩⟩⟩⟩
  obtain ⟨mv_Record_1_groups, kb_Record_1_groups⟩ := FunD.kbindsT (ps := ["self", "width", "dead", "least", "most", "paces", "groups"]) F46 2 ["groups"] [("dead", .ref T46_0), ("least", .int 1), ("most", .int 20), ("paces", .ref T46_3)] [.p 0, .d 0, .d 1, .d 2, .d 3, .k 0] (by simp) (by simp) fun D doc pm an cdv ct us mv ws h1 h2 h3 => match us, mv, ws, h1, h2, h3 with | [_, _], [_, _, _, _], [_], _, _, _ => ⟨_, _, _, _, _, _, rfl, rfl, ⟨_, _, _, _, _, _, rfl, rfl, ⟨_, _, _, _, _, _, rfl, rfl, ⟨_, _, _, _, _, _, rfl, rfl, rfl⟩⟩⟩⟩
  have tr52 := TBL _ _ _ _ rc52 (tab_mk a52 l52 rfl cl52 cv52)
  have tr53 := TBL _ _ _ _ rc53 (tab_mk a53 l53 rfl cl53 cv53)
  refine ⟨PySem.W.fnOf "law" "law" (defArgs s_law) (defBody s_law) (defScope s_law) .none kV53 dc53 pm53 an53 (.ref cc53) ct53, [(cc52, pp52), (cc53, pp53)], spD0 K cm cs T m_law, ?_, ?_, ?_, fun s v => .of_eq rfl, law_start law_in (by rw [hT]; simp), fun base _ _ hTB => ?_⟩
  · intro p hp
    simp only [List.mem_cons, List.not_mem_nil, or_false] at hp
    rcases hp with rfl | rfl
    · exact tr52.2
    · exact tr53.2
  · intro p hp
    simp only [List.mem_cons, List.not_mem_nil, or_false] at hp
    rcases hp with rfl | rfl
    · exact tn52
    · exact tn53
  · intro p hp
    simp only [List.mem_cons, List.not_mem_nil, or_false] at hp
    rcases hp with rfl | rfl
    · exact tr52.1
    · exact tr53.1
  have lt52 : LamT base mg T (.ref cc52) (("_law_right" : Str) ++ (".<locals>." : Str)) := by
    refine ⟨cc52, pp52, rfl, hTB (cc52, pp52) (by simp), by rw [hT]; simp, ?_⟩
    rw [hT]
    intro p hp e
    simp only [List.mem_cons, List.not_mem_nil, or_false] at hp
    rcases hp with rfl | rfl
    · rfl
    · exact absurd e pn53_52
  have lt53 : LamT base mg T (.ref cc53) (("law" : Str) ++ (".<locals>." : Str)) := by
    refine ⟨cc53, pp53, rfl, hTB (cc53, pp53) (by simp), by rw [hT]; simp, ?_⟩
    rw [hT]
    intro p hp e
    simp only [List.mem_cons, List.not_mem_nil, or_false] at hp
    rcases hp with rfl | rfl
    · exact absurd e pn52_53
    · rfl
  have c_l_sip : CalG l.prog w K mg base 1 "_law_sip" (spL K cm cs T m_l_sip) := ⟨_, _, _, (fnok_imp (ok_sip (P := l.prog) (w := w) (base := base) F0 B) fun vs H Q E h => sip_sp vs H Q E (spD_noE vs H Q E (spL_spD vs H Q E h))).quiet, PySem.W.mg_of X Gn a0, k0, b0⟩
  have c_l_cup : CalG l.prog w K mg base 1 "_law_cup" (spCupX K) := ⟨_, _, _, (ok_cup (P := l.prog) (w := w) (base := base) F1 B).quiet, PySem.W.mg_of X Gn a1, k1, b1⟩
  have ox_InvalidDead : OexA K (cm "InvalidDead") := ⟨⟨_, _, _, _, [C_WrongValue], _, _, _, _, _, _, _, _, _, _, _, _, _, _, exb_V, xL_InvalidDead⟩, sa_InvalidDead, sb_InvalidDead, ty_InvalidDead, kc_InvalidDead⟩
  have e_InvalidDead : ErrC l.prog w K mg base 1 "InvalidDead" (cm "InvalidDead") "index" := ⟨ox_InvalidDead, no_InvalidDead, PySem.W.mg_of X Gn aC_InvalidDead, ⟨f54, _, _, a54, i54, ok_InvalidDead_err F54, b54⟩⟩
  have ox_InvalidGroups : OexA K (cm "InvalidGroups") := ⟨⟨_, _, _, _, [C_WrongValue], _, _, _, _, _, _, _, _, _, _, _, _, _, _, exb_V, xL_InvalidGroups⟩, sa_InvalidGroups, sb_InvalidGroups, ty_InvalidGroups, kc_InvalidGroups⟩
  have e_InvalidGroups : ErrC l.prog w K mg base 1 "InvalidGroups" (cm "InvalidGroups") "index" := ⟨ox_InvalidGroups, no_InvalidGroups, PySem.W.mg_of X Gn aC_InvalidGroups, ⟨f55, _, _, a55, i55, ok_InvalidGroups_err F55, b55⟩⟩
  have ox_InvalidLength : OexA K (cm "InvalidLength") := ⟨⟨_, _, _, _, [C_WrongValue], _, _, _, _, _, _, _, _, _, _, _, _, _, _, exb_V, xL_InvalidLength⟩, sa_InvalidLength, sb_InvalidLength, ty_InvalidLength, kc_InvalidLength⟩
  have e_InvalidLength : ErrC l.prog w K mg base 1 "InvalidLength" (cm "InvalidLength") "given" := ⟨ox_InvalidLength, no_InvalidLength, PySem.W.mg_of X Gn aC_InvalidLength, ⟨f56, _, _, a56, i56, ok_InvalidLength_err F56, b56⟩⟩
  have ox_InvalidPaces : OexA K (cm "InvalidPaces") := ⟨⟨_, _, _, _, [C_WrongValue], _, _, _, _, _, _, _, _, _, _, _, _, _, _, exb_V, xL_InvalidPaces⟩, sa_InvalidPaces, sb_InvalidPaces, ty_InvalidPaces, kc_InvalidPaces⟩
  have e_InvalidPaces : ErrC l.prog w K mg base 1 "InvalidPaces" (cm "InvalidPaces") "index" := ⟨ox_InvalidPaces, no_InvalidPaces, PySem.W.mg_of X Gn aC_InvalidPaces, ⟨f57, _, _, a57, i57, ok_InvalidPaces_err F57, b57⟩⟩
  have ox_InvalidPlace : OexA K (cm "InvalidPlace") := ⟨⟨_, _, _, _, [C_WrongValue], _, _, _, _, _, _, _, _, _, _, _, _, _, _, exb_V, xL_InvalidPlace⟩, sa_InvalidPlace, sb_InvalidPlace, ty_InvalidPlace, kc_InvalidPlace⟩
  have e_InvalidPlace : ErrC l.prog w K mg base 1 "InvalidPlace" (cm "InvalidPlace") "given" := ⟨ox_InvalidPlace, no_InvalidPlace, PySem.W.mg_of X Gn aC_InvalidPlace, ⟨f58, _, _, a58, i58, ok_InvalidPlace_err F58, b58⟩⟩
  have ox_InvalidTime : OexA K (cm "InvalidTime") := ⟨⟨_, _, _, _, [C_WrongValue], _, _, _, _, _, _, _, _, _, _, _, _, _, _, exb_V, xL_InvalidTime⟩, sa_InvalidTime, sb_InvalidTime, ty_InvalidTime, kc_InvalidTime⟩
  have e_InvalidTime : ErrC l.prog w K mg base 1 "InvalidTime" (cm "InvalidTime") "given" := ⟨ox_InvalidTime, no_InvalidTime, PySem.W.mg_of X Gn aC_InvalidTime, ⟨f59, _, _, a59, i59, ok_InvalidTime_err F59, b59⟩⟩
  have ox_InvalidWidth : OexA K (cm "InvalidWidth") := ⟨⟨_, _, _, _, [C_WrongValue], _, _, _, _, _, _, _, _, _, _, _, _, _, _, exb_V, xL_InvalidWidth⟩, sa_InvalidWidth, sb_InvalidWidth, ty_InvalidWidth, kc_InvalidWidth⟩
  have e_InvalidWidth : ErrC l.prog w K mg base 1 "InvalidWidth" (cm "InvalidWidth") "given" := ⟨ox_InvalidWidth, no_InvalidWidth, PySem.W.mg_of X Gn aC_InvalidWidth, ⟨f60, _, _, a60, i60, ok_InvalidWidth_err F60, b60⟩⟩
  have ox_InvalidWindow : OexA K (cm "InvalidWindow") := ⟨⟨_, _, _, _, [C_WrongValue], _, _, _, _, _, _, _, _, _, _, _, _, _, _, exb_V, xL_InvalidWindow⟩, sa_InvalidWindow, sb_InvalidWindow, ty_InvalidWindow, kc_InvalidWindow⟩
  have e_InvalidWindow : ErrC l.prog w K mg base 1 "InvalidWindow" (cm "InvalidWindow") "given" := ⟨ox_InvalidWindow, no_InvalidWindow, PySem.W.mg_of X Gn aC_InvalidWindow, ⟨f61, _, _, a61, i61, ok_InvalidWindow_err F61, b61⟩⟩
  have ox_NotARecord : OexA K (cm "NotARecord") := ⟨⟨_, _, _, _, [C_WrongValue], _, _, _, _, _, _, _, _, _, _, _, _, _, _, exb_V, xL_NotARecord⟩, sa_NotARecord, sb_NotARecord, ty_NotARecord, kc_NotARecord⟩
  have e_NotARecord : ErrC l.prog w K mg base 1 "NotARecord" (cm "NotARecord") "given" := ⟨ox_NotARecord, no_NotARecord, PySem.W.mg_of X Gn aC_NotARecord, ⟨f62, _, _, a62, i62, ok_NotARecord_err F62, b62⟩⟩
  let Tc : TCl K mg := ⟨fun i => ([C_NotASign, cm "NotARecord", C_InvalidText, C_InvalidPace, cm "InvalidWidth", cm "InvalidPlace", cm "InvalidLength", cm "InvalidTime", cm "InvalidWindow", C_InvalidName, C_InvalidClaim, C_InvalidIndex, C_InvalidLine, cm "InvalidDead", cm "InvalidPaces", cm "InvalidGroups", C_InvalidTimes, C_InvalidDeeds, C_UnknownName, C_InUse, C_TooMany, C_OtherKind, C_Broken, C_NothingToUndo, C_WrongValue, C_WrongName, C_NoAnswer] : List Addr).getD i 0, PySem.W.mg_of X Gn aC_NotASign, PySem.W.mg_of X Gn aC_NotARecord, PySem.W.mg_of X Gn aC_InvalidText, PySem.W.mg_of X Gn aC_InvalidPace, PySem.W.mg_of X Gn aC_InvalidWidth, PySem.W.mg_of X Gn aC_InvalidPlace, PySem.W.mg_of X Gn aC_InvalidLength, PySem.W.mg_of X Gn aC_InvalidTime, PySem.W.mg_of X Gn aC_InvalidWindow, PySem.W.mg_of X Gn aC_InvalidName, PySem.W.mg_of X Gn aC_InvalidClaim, PySem.W.mg_of X Gn aC_InvalidIndex, PySem.W.mg_of X Gn aC_InvalidLine, PySem.W.mg_of X Gn aC_InvalidDead, PySem.W.mg_of X Gn aC_InvalidPaces, PySem.W.mg_of X Gn aC_InvalidGroups, PySem.W.mg_of X Gn aC_InvalidTimes, PySem.W.mg_of X Gn aC_InvalidDeeds, PySem.W.mg_of X Gn aC_UnknownName, PySem.W.mg_of X Gn aC_InUse, PySem.W.mg_of X Gn aC_TooMany, PySem.W.mg_of X Gn aC_OtherKind, PySem.W.mg_of X Gn aC_Broken, PySem.W.mg_of X Gn aC_NothingToUndo, PySem.W.mg_of X Gn aC_WrongValue, PySem.W.mg_of X Gn aC_WrongName, PySem.W.mg_of X Gn aC_NoAnswer, PySem.W.mg_none_of X Gn zz_ValueError, PySem.W.mg_none_of X Gn zz_LookupError, PySem.W.mg_none_of X Gn zz_ArithmeticError⟩
  have ei_InvalidDead : ErrI Tc (cm "InvalidDead") 13 (fun j => j == 0 || j == 3) := by
    refine ⟨by decide, ⟨ga_InvalidDead, gg_InvalidDead, sb_InvalidDead, hd_InvalidDead, cA_InvalidDead, xg, xt, cM_InvalidDead⟩, ⟨ga_InvalidDead, gg_InvalidDead, sb_InvalidDead, hd_InvalidDead⟩, no_InvalidDead, ⟨?_, ?_, kit_bt1 (by decide +kernel) kt_InvalidDead_ValueError, kit_bt (by decide +kernel) kt_InvalidDead_LookupError, kit_bt (by decide +kernel) kt_InvalidDead_ArithmeticError⟩, exm3 (exm_of sb_WrongValue hd_WrongValue ty_WrongValue kk_InvalidDead_WrongValue) (exm_of sb_WrongName hd_WrongName ty_WrongName kk_InvalidDead_WrongName) (exm_of sb_NoAnswer hd_NoAnswer ty_NoAnswer kk_InvalidDead_NoAnswer) rfl⟩
    · intro j hj
      match j, hj with
      | 0, _ => exact kit_rf kn_InvalidDead_NotASign hd_NotASign ty_NotASign kk_InvalidDead_NotASign
      | 1, _ => exact kit_rf kn_InvalidDead_NotARecord hd_NotARecord ty_NotARecord kk_InvalidDead_NotARecord
      | 2, _ => exact kit_rf kn_InvalidDead_InvalidText hd_InvalidText ty_InvalidText kk_InvalidDead_InvalidText
      | 3, _ => exact kit_rf kn_InvalidDead_InvalidPace hd_InvalidPace ty_InvalidPace kk_InvalidDead_InvalidPace
      | 4, _ => exact kit_rf kn_InvalidDead_InvalidWidth hd_InvalidWidth ty_InvalidWidth kk_InvalidDead_InvalidWidth
      | 5, _ => exact kit_rf kn_InvalidDead_InvalidPlace hd_InvalidPlace ty_InvalidPlace kk_InvalidDead_InvalidPlace
      | 6, _ => exact kit_rf kn_InvalidDead_InvalidLength hd_InvalidLength ty_InvalidLength kk_InvalidDead_InvalidLength
      | 7, _ => exact kit_rf kn_InvalidDead_InvalidTime hd_InvalidTime ty_InvalidTime kk_InvalidDead_InvalidTime
      | 8, _ => exact kit_rf kn_InvalidDead_InvalidWindow hd_InvalidWindow ty_InvalidWindow kk_InvalidDead_InvalidWindow
      | 9, _ => exact kit_rf kn_InvalidDead_InvalidName hd_InvalidName ty_InvalidName kk_InvalidDead_InvalidName
      | 10, _ => exact kit_rf kn_InvalidDead_InvalidClaim hd_InvalidClaim ty_InvalidClaim kk_InvalidDead_InvalidClaim
      | 11, _ => exact kit_rf kn_InvalidDead_InvalidIndex hd_InvalidIndex ty_InvalidIndex kk_InvalidDead_InvalidIndex
      | 12, _ => exact kit_rf kn_InvalidDead_InvalidLine hd_InvalidLine ty_InvalidLine kk_InvalidDead_InvalidLine
      | 13, _ => exact kit_self
      | 14, _ => exact kit_rf kn_InvalidDead_InvalidPaces hd_InvalidPaces ty_InvalidPaces kk_InvalidDead_InvalidPaces
      | 15, _ => exact kit_rf kn_InvalidDead_InvalidGroups hd_InvalidGroups ty_InvalidGroups kk_InvalidDead_InvalidGroups
      | 16, _ => exact kit_rf kn_InvalidDead_InvalidTimes hd_InvalidTimes ty_InvalidTimes kk_InvalidDead_InvalidTimes
      | 17, _ => exact kit_rf kn_InvalidDead_InvalidDeeds hd_InvalidDeeds ty_InvalidDeeds kk_InvalidDead_InvalidDeeds
      | 18, _ => exact kit_rf kn_InvalidDead_UnknownName hd_UnknownName ty_UnknownName kk_InvalidDead_UnknownName
      | 19, _ => exact kit_rf kn_InvalidDead_InUse hd_InUse ty_InUse kk_InvalidDead_InUse
      | 20, _ => exact kit_rf kn_InvalidDead_TooMany hd_TooMany ty_TooMany kk_InvalidDead_TooMany
      | 21, _ => exact kit_rf kn_InvalidDead_OtherKind hd_OtherKind ty_OtherKind kk_InvalidDead_OtherKind
      | 22, _ => exact kit_rf kn_InvalidDead_Broken hd_Broken ty_Broken kk_InvalidDead_Broken
      | 23, _ => exact kit_rf kn_InvalidDead_NothingToUndo hd_NothingToUndo ty_NothingToUndo kk_InvalidDead_NothingToUndo
      | j + 24, hj => exact absurd hj (by omega)
    · intro j hj
      match j, hj with
      | 0, _ => exact kit_rf1 hd_WrongValue ty_WrongValue kk_InvalidDead_WrongValue
      | 1, _ => exact kit_rf kn_InvalidDead_WrongName hd_WrongName ty_WrongName kk_InvalidDead_WrongName
      | 2, _ => exact kit_rf kn_InvalidDead_NoAnswer hd_NoAnswer ty_NoAnswer kk_InvalidDead_NoAnswer
      | j + 3, hj => exact absurd hj (by omega)
  have ei_InvalidGroups : ErrI Tc (cm "InvalidGroups") 15 (fun j => j == 0 || j == 3) := by
    refine ⟨by decide, ⟨ga_InvalidGroups, gg_InvalidGroups, sb_InvalidGroups, hd_InvalidGroups, cA_InvalidGroups, xg, xt, cM_InvalidGroups⟩, ⟨ga_InvalidGroups, gg_InvalidGroups, sb_InvalidGroups, hd_InvalidGroups⟩, no_InvalidGroups, ⟨?_, ?_, kit_bt1 (by decide +kernel) kt_InvalidGroups_ValueError, kit_bt (by decide +kernel) kt_InvalidGroups_LookupError, kit_bt (by decide +kernel) kt_InvalidGroups_ArithmeticError⟩, exm3 (exm_of sb_WrongValue hd_WrongValue ty_WrongValue kk_InvalidGroups_WrongValue) (exm_of sb_WrongName hd_WrongName ty_WrongName kk_InvalidGroups_WrongName) (exm_of sb_NoAnswer hd_NoAnswer ty_NoAnswer kk_InvalidGroups_NoAnswer) rfl⟩
    · intro j hj
      match j, hj with
      | 0, _ => exact kit_rf kn_InvalidGroups_NotASign hd_NotASign ty_NotASign kk_InvalidGroups_NotASign
      | 1, _ => exact kit_rf kn_InvalidGroups_NotARecord hd_NotARecord ty_NotARecord kk_InvalidGroups_NotARecord
      | 2, _ => exact kit_rf kn_InvalidGroups_InvalidText hd_InvalidText ty_InvalidText kk_InvalidGroups_InvalidText
      | 3, _ => exact kit_rf kn_InvalidGroups_InvalidPace hd_InvalidPace ty_InvalidPace kk_InvalidGroups_InvalidPace
      | 4, _ => exact kit_rf kn_InvalidGroups_InvalidWidth hd_InvalidWidth ty_InvalidWidth kk_InvalidGroups_InvalidWidth
      | 5, _ => exact kit_rf kn_InvalidGroups_InvalidPlace hd_InvalidPlace ty_InvalidPlace kk_InvalidGroups_InvalidPlace
      | 6, _ => exact kit_rf kn_InvalidGroups_InvalidLength hd_InvalidLength ty_InvalidLength kk_InvalidGroups_InvalidLength
      | 7, _ => exact kit_rf kn_InvalidGroups_InvalidTime hd_InvalidTime ty_InvalidTime kk_InvalidGroups_InvalidTime
      | 8, _ => exact kit_rf kn_InvalidGroups_InvalidWindow hd_InvalidWindow ty_InvalidWindow kk_InvalidGroups_InvalidWindow
      | 9, _ => exact kit_rf kn_InvalidGroups_InvalidName hd_InvalidName ty_InvalidName kk_InvalidGroups_InvalidName
      | 10, _ => exact kit_rf kn_InvalidGroups_InvalidClaim hd_InvalidClaim ty_InvalidClaim kk_InvalidGroups_InvalidClaim
      | 11, _ => exact kit_rf kn_InvalidGroups_InvalidIndex hd_InvalidIndex ty_InvalidIndex kk_InvalidGroups_InvalidIndex
      | 12, _ => exact kit_rf kn_InvalidGroups_InvalidLine hd_InvalidLine ty_InvalidLine kk_InvalidGroups_InvalidLine
      | 13, _ => exact kit_rf kn_InvalidGroups_InvalidDead hd_InvalidDead ty_InvalidDead kk_InvalidGroups_InvalidDead
      | 14, _ => exact kit_rf kn_InvalidGroups_InvalidPaces hd_InvalidPaces ty_InvalidPaces kk_InvalidGroups_InvalidPaces
      | 15, _ => exact kit_self
      | 16, _ => exact kit_rf kn_InvalidGroups_InvalidTimes hd_InvalidTimes ty_InvalidTimes kk_InvalidGroups_InvalidTimes
      | 17, _ => exact kit_rf kn_InvalidGroups_InvalidDeeds hd_InvalidDeeds ty_InvalidDeeds kk_InvalidGroups_InvalidDeeds
      | 18, _ => exact kit_rf kn_InvalidGroups_UnknownName hd_UnknownName ty_UnknownName kk_InvalidGroups_UnknownName
      | 19, _ => exact kit_rf kn_InvalidGroups_InUse hd_InUse ty_InUse kk_InvalidGroups_InUse
      | 20, _ => exact kit_rf kn_InvalidGroups_TooMany hd_TooMany ty_TooMany kk_InvalidGroups_TooMany
      | 21, _ => exact kit_rf kn_InvalidGroups_OtherKind hd_OtherKind ty_OtherKind kk_InvalidGroups_OtherKind
      | 22, _ => exact kit_rf kn_InvalidGroups_Broken hd_Broken ty_Broken kk_InvalidGroups_Broken
      | 23, _ => exact kit_rf kn_InvalidGroups_NothingToUndo hd_NothingToUndo ty_NothingToUndo kk_InvalidGroups_NothingToUndo
      | j + 24, hj => exact absurd hj (by omega)
    · intro j hj
      match j, hj with
      | 0, _ => exact kit_rf1 hd_WrongValue ty_WrongValue kk_InvalidGroups_WrongValue
      | 1, _ => exact kit_rf kn_InvalidGroups_WrongName hd_WrongName ty_WrongName kk_InvalidGroups_WrongName
      | 2, _ => exact kit_rf kn_InvalidGroups_NoAnswer hd_NoAnswer ty_NoAnswer kk_InvalidGroups_NoAnswer
      | j + 3, hj => exact absurd hj (by omega)
  have ei_InvalidLength : ErrI Tc (cm "InvalidLength") 6 (fun j => j == 0 || j == 3) := by
    refine ⟨by decide, ⟨ga_InvalidLength, gg_InvalidLength, sb_InvalidLength, hd_InvalidLength, cA_InvalidLength, xg, xt, cM_InvalidLength⟩, ⟨ga_InvalidLength, gg_InvalidLength, sb_InvalidLength, hd_InvalidLength⟩, no_InvalidLength, ⟨?_, ?_, kit_bt1 (by decide +kernel) kt_InvalidLength_ValueError, kit_bt (by decide +kernel) kt_InvalidLength_LookupError, kit_bt (by decide +kernel) kt_InvalidLength_ArithmeticError⟩, exm3 (exm_of sb_WrongValue hd_WrongValue ty_WrongValue kk_InvalidLength_WrongValue) (exm_of sb_WrongName hd_WrongName ty_WrongName kk_InvalidLength_WrongName) (exm_of sb_NoAnswer hd_NoAnswer ty_NoAnswer kk_InvalidLength_NoAnswer) rfl⟩
    · intro j hj
      match j, hj with
      | 0, _ => exact kit_rf kn_InvalidLength_NotASign hd_NotASign ty_NotASign kk_InvalidLength_NotASign
      | 1, _ => exact kit_rf kn_InvalidLength_NotARecord hd_NotARecord ty_NotARecord kk_InvalidLength_NotARecord
      | 2, _ => exact kit_rf kn_InvalidLength_InvalidText hd_InvalidText ty_InvalidText kk_InvalidLength_InvalidText
      | 3, _ => exact kit_rf kn_InvalidLength_InvalidPace hd_InvalidPace ty_InvalidPace kk_InvalidLength_InvalidPace
      | 4, _ => exact kit_rf kn_InvalidLength_InvalidWidth hd_InvalidWidth ty_InvalidWidth kk_InvalidLength_InvalidWidth
      | 5, _ => exact kit_rf kn_InvalidLength_InvalidPlace hd_InvalidPlace ty_InvalidPlace kk_InvalidLength_InvalidPlace
      | 6, _ => exact kit_self
      | 7, _ => exact kit_rf kn_InvalidLength_InvalidTime hd_InvalidTime ty_InvalidTime kk_InvalidLength_InvalidTime
      | 8, _ => exact kit_rf kn_InvalidLength_InvalidWindow hd_InvalidWindow ty_InvalidWindow kk_InvalidLength_InvalidWindow
      | 9, _ => exact kit_rf kn_InvalidLength_InvalidName hd_InvalidName ty_InvalidName kk_InvalidLength_InvalidName
      | 10, _ => exact kit_rf kn_InvalidLength_InvalidClaim hd_InvalidClaim ty_InvalidClaim kk_InvalidLength_InvalidClaim
      | 11, _ => exact kit_rf kn_InvalidLength_InvalidIndex hd_InvalidIndex ty_InvalidIndex kk_InvalidLength_InvalidIndex
      | 12, _ => exact kit_rf kn_InvalidLength_InvalidLine hd_InvalidLine ty_InvalidLine kk_InvalidLength_InvalidLine
      | 13, _ => exact kit_rf kn_InvalidLength_InvalidDead hd_InvalidDead ty_InvalidDead kk_InvalidLength_InvalidDead
      | 14, _ => exact kit_rf kn_InvalidLength_InvalidPaces hd_InvalidPaces ty_InvalidPaces kk_InvalidLength_InvalidPaces
      | 15, _ => exact kit_rf kn_InvalidLength_InvalidGroups hd_InvalidGroups ty_InvalidGroups kk_InvalidLength_InvalidGroups
      | 16, _ => exact kit_rf kn_InvalidLength_InvalidTimes hd_InvalidTimes ty_InvalidTimes kk_InvalidLength_InvalidTimes
      | 17, _ => exact kit_rf kn_InvalidLength_InvalidDeeds hd_InvalidDeeds ty_InvalidDeeds kk_InvalidLength_InvalidDeeds
      | 18, _ => exact kit_rf kn_InvalidLength_UnknownName hd_UnknownName ty_UnknownName kk_InvalidLength_UnknownName
      | 19, _ => exact kit_rf kn_InvalidLength_InUse hd_InUse ty_InUse kk_InvalidLength_InUse
      | 20, _ => exact kit_rf kn_InvalidLength_TooMany hd_TooMany ty_TooMany kk_InvalidLength_TooMany
      | 21, _ => exact kit_rf kn_InvalidLength_OtherKind hd_OtherKind ty_OtherKind kk_InvalidLength_OtherKind
      | 22, _ => exact kit_rf kn_InvalidLength_Broken hd_Broken ty_Broken kk_InvalidLength_Broken
      | 23, _ => exact kit_rf kn_InvalidLength_NothingToUndo hd_NothingToUndo ty_NothingToUndo kk_InvalidLength_NothingToUndo
      | j + 24, hj => exact absurd hj (by omega)
    · intro j hj
      match j, hj with
      | 0, _ => exact kit_rf1 hd_WrongValue ty_WrongValue kk_InvalidLength_WrongValue
      | 1, _ => exact kit_rf kn_InvalidLength_WrongName hd_WrongName ty_WrongName kk_InvalidLength_WrongName
      | 2, _ => exact kit_rf kn_InvalidLength_NoAnswer hd_NoAnswer ty_NoAnswer kk_InvalidLength_NoAnswer
      | j + 3, hj => exact absurd hj (by omega)
  have ei_InvalidPaces : ErrI Tc (cm "InvalidPaces") 14 (fun j => j == 0 || j == 3) := by
    refine ⟨by decide, ⟨ga_InvalidPaces, gg_InvalidPaces, sb_InvalidPaces, hd_InvalidPaces, cA_InvalidPaces, xg, xt, cM_InvalidPaces⟩, ⟨ga_InvalidPaces, gg_InvalidPaces, sb_InvalidPaces, hd_InvalidPaces⟩, no_InvalidPaces, ⟨?_, ?_, kit_bt1 (by decide +kernel) kt_InvalidPaces_ValueError, kit_bt (by decide +kernel) kt_InvalidPaces_LookupError, kit_bt (by decide +kernel) kt_InvalidPaces_ArithmeticError⟩, exm3 (exm_of sb_WrongValue hd_WrongValue ty_WrongValue kk_InvalidPaces_WrongValue) (exm_of sb_WrongName hd_WrongName ty_WrongName kk_InvalidPaces_WrongName) (exm_of sb_NoAnswer hd_NoAnswer ty_NoAnswer kk_InvalidPaces_NoAnswer) rfl⟩
    · intro j hj
      match j, hj with
      | 0, _ => exact kit_rf kn_InvalidPaces_NotASign hd_NotASign ty_NotASign kk_InvalidPaces_NotASign
      | 1, _ => exact kit_rf kn_InvalidPaces_NotARecord hd_NotARecord ty_NotARecord kk_InvalidPaces_NotARecord
      | 2, _ => exact kit_rf kn_InvalidPaces_InvalidText hd_InvalidText ty_InvalidText kk_InvalidPaces_InvalidText
      | 3, _ => exact kit_rf kn_InvalidPaces_InvalidPace hd_InvalidPace ty_InvalidPace kk_InvalidPaces_InvalidPace
      | 4, _ => exact kit_rf kn_InvalidPaces_InvalidWidth hd_InvalidWidth ty_InvalidWidth kk_InvalidPaces_InvalidWidth
      | 5, _ => exact kit_rf kn_InvalidPaces_InvalidPlace hd_InvalidPlace ty_InvalidPlace kk_InvalidPaces_InvalidPlace
      | 6, _ => exact kit_rf kn_InvalidPaces_InvalidLength hd_InvalidLength ty_InvalidLength kk_InvalidPaces_InvalidLength
      | 7, _ => exact kit_rf kn_InvalidPaces_InvalidTime hd_InvalidTime ty_InvalidTime kk_InvalidPaces_InvalidTime
      | 8, _ => exact kit_rf kn_InvalidPaces_InvalidWindow hd_InvalidWindow ty_InvalidWindow kk_InvalidPaces_InvalidWindow
      | 9, _ => exact kit_rf kn_InvalidPaces_InvalidName hd_InvalidName ty_InvalidName kk_InvalidPaces_InvalidName
      | 10, _ => exact kit_rf kn_InvalidPaces_InvalidClaim hd_InvalidClaim ty_InvalidClaim kk_InvalidPaces_InvalidClaim
      | 11, _ => exact kit_rf kn_InvalidPaces_InvalidIndex hd_InvalidIndex ty_InvalidIndex kk_InvalidPaces_InvalidIndex
      | 12, _ => exact kit_rf kn_InvalidPaces_InvalidLine hd_InvalidLine ty_InvalidLine kk_InvalidPaces_InvalidLine
      | 13, _ => exact kit_rf kn_InvalidPaces_InvalidDead hd_InvalidDead ty_InvalidDead kk_InvalidPaces_InvalidDead
      | 14, _ => exact kit_self
      | 15, _ => exact kit_rf kn_InvalidPaces_InvalidGroups hd_InvalidGroups ty_InvalidGroups kk_InvalidPaces_InvalidGroups
      | 16, _ => exact kit_rf kn_InvalidPaces_InvalidTimes hd_InvalidTimes ty_InvalidTimes kk_InvalidPaces_InvalidTimes
      | 17, _ => exact kit_rf kn_InvalidPaces_InvalidDeeds hd_InvalidDeeds ty_InvalidDeeds kk_InvalidPaces_InvalidDeeds
      | 18, _ => exact kit_rf kn_InvalidPaces_UnknownName hd_UnknownName ty_UnknownName kk_InvalidPaces_UnknownName
      | 19, _ => exact kit_rf kn_InvalidPaces_InUse hd_InUse ty_InUse kk_InvalidPaces_InUse
      | 20, _ => exact kit_rf kn_InvalidPaces_TooMany hd_TooMany ty_TooMany kk_InvalidPaces_TooMany
      | 21, _ => exact kit_rf kn_InvalidPaces_OtherKind hd_OtherKind ty_OtherKind kk_InvalidPaces_OtherKind
      | 22, _ => exact kit_rf kn_InvalidPaces_Broken hd_Broken ty_Broken kk_InvalidPaces_Broken
      | 23, _ => exact kit_rf kn_InvalidPaces_NothingToUndo hd_NothingToUndo ty_NothingToUndo kk_InvalidPaces_NothingToUndo
      | j + 24, hj => exact absurd hj (by omega)
    · intro j hj
      match j, hj with
      | 0, _ => exact kit_rf1 hd_WrongValue ty_WrongValue kk_InvalidPaces_WrongValue
      | 1, _ => exact kit_rf kn_InvalidPaces_WrongName hd_WrongName ty_WrongName kk_InvalidPaces_WrongName
      | 2, _ => exact kit_rf kn_InvalidPaces_NoAnswer hd_NoAnswer ty_NoAnswer kk_InvalidPaces_NoAnswer
      | j + 3, hj => exact absurd hj (by omega)
  have ei_InvalidPlace : ErrI Tc (cm "InvalidPlace") 5 (fun j => j == 0 || j == 3) := by
    refine ⟨by decide, ⟨ga_InvalidPlace, gg_InvalidPlace, sb_InvalidPlace, hd_InvalidPlace, cA_InvalidPlace, xg, xt, cM_InvalidPlace⟩, ⟨ga_InvalidPlace, gg_InvalidPlace, sb_InvalidPlace, hd_InvalidPlace⟩, no_InvalidPlace, ⟨?_, ?_, kit_bt1 (by decide +kernel) kt_InvalidPlace_ValueError, kit_bt (by decide +kernel) kt_InvalidPlace_LookupError, kit_bt (by decide +kernel) kt_InvalidPlace_ArithmeticError⟩, exm3 (exm_of sb_WrongValue hd_WrongValue ty_WrongValue kk_InvalidPlace_WrongValue) (exm_of sb_WrongName hd_WrongName ty_WrongName kk_InvalidPlace_WrongName) (exm_of sb_NoAnswer hd_NoAnswer ty_NoAnswer kk_InvalidPlace_NoAnswer) rfl⟩
    · intro j hj
      match j, hj with
      | 0, _ => exact kit_rf kn_InvalidPlace_NotASign hd_NotASign ty_NotASign kk_InvalidPlace_NotASign
      | 1, _ => exact kit_rf kn_InvalidPlace_NotARecord hd_NotARecord ty_NotARecord kk_InvalidPlace_NotARecord
      | 2, _ => exact kit_rf kn_InvalidPlace_InvalidText hd_InvalidText ty_InvalidText kk_InvalidPlace_InvalidText
      | 3, _ => exact kit_rf kn_InvalidPlace_InvalidPace hd_InvalidPace ty_InvalidPace kk_InvalidPlace_InvalidPace
      | 4, _ => exact kit_rf kn_InvalidPlace_InvalidWidth hd_InvalidWidth ty_InvalidWidth kk_InvalidPlace_InvalidWidth
      | 5, _ => exact kit_self
      | 6, _ => exact kit_rf kn_InvalidPlace_InvalidLength hd_InvalidLength ty_InvalidLength kk_InvalidPlace_InvalidLength
      | 7, _ => exact kit_rf kn_InvalidPlace_InvalidTime hd_InvalidTime ty_InvalidTime kk_InvalidPlace_InvalidTime
      | 8, _ => exact kit_rf kn_InvalidPlace_InvalidWindow hd_InvalidWindow ty_InvalidWindow kk_InvalidPlace_InvalidWindow
      | 9, _ => exact kit_rf kn_InvalidPlace_InvalidName hd_InvalidName ty_InvalidName kk_InvalidPlace_InvalidName
      | 10, _ => exact kit_rf kn_InvalidPlace_InvalidClaim hd_InvalidClaim ty_InvalidClaim kk_InvalidPlace_InvalidClaim
      | 11, _ => exact kit_rf kn_InvalidPlace_InvalidIndex hd_InvalidIndex ty_InvalidIndex kk_InvalidPlace_InvalidIndex
      | 12, _ => exact kit_rf kn_InvalidPlace_InvalidLine hd_InvalidLine ty_InvalidLine kk_InvalidPlace_InvalidLine
      | 13, _ => exact kit_rf kn_InvalidPlace_InvalidDead hd_InvalidDead ty_InvalidDead kk_InvalidPlace_InvalidDead
      | 14, _ => exact kit_rf kn_InvalidPlace_InvalidPaces hd_InvalidPaces ty_InvalidPaces kk_InvalidPlace_InvalidPaces
      | 15, _ => exact kit_rf kn_InvalidPlace_InvalidGroups hd_InvalidGroups ty_InvalidGroups kk_InvalidPlace_InvalidGroups
      | 16, _ => exact kit_rf kn_InvalidPlace_InvalidTimes hd_InvalidTimes ty_InvalidTimes kk_InvalidPlace_InvalidTimes
      | 17, _ => exact kit_rf kn_InvalidPlace_InvalidDeeds hd_InvalidDeeds ty_InvalidDeeds kk_InvalidPlace_InvalidDeeds
      | 18, _ => exact kit_rf kn_InvalidPlace_UnknownName hd_UnknownName ty_UnknownName kk_InvalidPlace_UnknownName
      | 19, _ => exact kit_rf kn_InvalidPlace_InUse hd_InUse ty_InUse kk_InvalidPlace_InUse
      | 20, _ => exact kit_rf kn_InvalidPlace_TooMany hd_TooMany ty_TooMany kk_InvalidPlace_TooMany
      | 21, _ => exact kit_rf kn_InvalidPlace_OtherKind hd_OtherKind ty_OtherKind kk_InvalidPlace_OtherKind
      | 22, _ => exact kit_rf kn_InvalidPlace_Broken hd_Broken ty_Broken kk_InvalidPlace_Broken
      | 23, _ => exact kit_rf kn_InvalidPlace_NothingToUndo hd_NothingToUndo ty_NothingToUndo kk_InvalidPlace_NothingToUndo
      | j + 24, hj => exact absurd hj (by omega)
    · intro j hj
      match j, hj with
      | 0, _ => exact kit_rf1 hd_WrongValue ty_WrongValue kk_InvalidPlace_WrongValue
      | 1, _ => exact kit_rf kn_InvalidPlace_WrongName hd_WrongName ty_WrongName kk_InvalidPlace_WrongName
      | 2, _ => exact kit_rf kn_InvalidPlace_NoAnswer hd_NoAnswer ty_NoAnswer kk_InvalidPlace_NoAnswer
      | j + 3, hj => exact absurd hj (by omega)
  have ei_InvalidTime : ErrI Tc (cm "InvalidTime") 7 (fun j => j == 0 || j == 3) := by
    refine ⟨by decide, ⟨ga_InvalidTime, gg_InvalidTime, sb_InvalidTime, hd_InvalidTime, cA_InvalidTime, xg, xt, cM_InvalidTime⟩, ⟨ga_InvalidTime, gg_InvalidTime, sb_InvalidTime, hd_InvalidTime⟩, no_InvalidTime, ⟨?_, ?_, kit_bt1 (by decide +kernel) kt_InvalidTime_ValueError, kit_bt (by decide +kernel) kt_InvalidTime_LookupError, kit_bt (by decide +kernel) kt_InvalidTime_ArithmeticError⟩, exm3 (exm_of sb_WrongValue hd_WrongValue ty_WrongValue kk_InvalidTime_WrongValue) (exm_of sb_WrongName hd_WrongName ty_WrongName kk_InvalidTime_WrongName) (exm_of sb_NoAnswer hd_NoAnswer ty_NoAnswer kk_InvalidTime_NoAnswer) rfl⟩
    · intro j hj
      match j, hj with
      | 0, _ => exact kit_rf kn_InvalidTime_NotASign hd_NotASign ty_NotASign kk_InvalidTime_NotASign
      | 1, _ => exact kit_rf kn_InvalidTime_NotARecord hd_NotARecord ty_NotARecord kk_InvalidTime_NotARecord
      | 2, _ => exact kit_rf kn_InvalidTime_InvalidText hd_InvalidText ty_InvalidText kk_InvalidTime_InvalidText
      | 3, _ => exact kit_rf kn_InvalidTime_InvalidPace hd_InvalidPace ty_InvalidPace kk_InvalidTime_InvalidPace
      | 4, _ => exact kit_rf kn_InvalidTime_InvalidWidth hd_InvalidWidth ty_InvalidWidth kk_InvalidTime_InvalidWidth
      | 5, _ => exact kit_rf kn_InvalidTime_InvalidPlace hd_InvalidPlace ty_InvalidPlace kk_InvalidTime_InvalidPlace
      | 6, _ => exact kit_rf kn_InvalidTime_InvalidLength hd_InvalidLength ty_InvalidLength kk_InvalidTime_InvalidLength
      | 7, _ => exact kit_self
      | 8, _ => exact kit_rf kn_InvalidTime_InvalidWindow hd_InvalidWindow ty_InvalidWindow kk_InvalidTime_InvalidWindow
      | 9, _ => exact kit_rf kn_InvalidTime_InvalidName hd_InvalidName ty_InvalidName kk_InvalidTime_InvalidName
      | 10, _ => exact kit_rf kn_InvalidTime_InvalidClaim hd_InvalidClaim ty_InvalidClaim kk_InvalidTime_InvalidClaim
      | 11, _ => exact kit_rf kn_InvalidTime_InvalidIndex hd_InvalidIndex ty_InvalidIndex kk_InvalidTime_InvalidIndex
      | 12, _ => exact kit_rf kn_InvalidTime_InvalidLine hd_InvalidLine ty_InvalidLine kk_InvalidTime_InvalidLine
      | 13, _ => exact kit_rf kn_InvalidTime_InvalidDead hd_InvalidDead ty_InvalidDead kk_InvalidTime_InvalidDead
      | 14, _ => exact kit_rf kn_InvalidTime_InvalidPaces hd_InvalidPaces ty_InvalidPaces kk_InvalidTime_InvalidPaces
      | 15, _ => exact kit_rf kn_InvalidTime_InvalidGroups hd_InvalidGroups ty_InvalidGroups kk_InvalidTime_InvalidGroups
      | 16, _ => exact kit_rf kn_InvalidTime_InvalidTimes hd_InvalidTimes ty_InvalidTimes kk_InvalidTime_InvalidTimes
      | 17, _ => exact kit_rf kn_InvalidTime_InvalidDeeds hd_InvalidDeeds ty_InvalidDeeds kk_InvalidTime_InvalidDeeds
      | 18, _ => exact kit_rf kn_InvalidTime_UnknownName hd_UnknownName ty_UnknownName kk_InvalidTime_UnknownName
      | 19, _ => exact kit_rf kn_InvalidTime_InUse hd_InUse ty_InUse kk_InvalidTime_InUse
      | 20, _ => exact kit_rf kn_InvalidTime_TooMany hd_TooMany ty_TooMany kk_InvalidTime_TooMany
      | 21, _ => exact kit_rf kn_InvalidTime_OtherKind hd_OtherKind ty_OtherKind kk_InvalidTime_OtherKind
      | 22, _ => exact kit_rf kn_InvalidTime_Broken hd_Broken ty_Broken kk_InvalidTime_Broken
      | 23, _ => exact kit_rf kn_InvalidTime_NothingToUndo hd_NothingToUndo ty_NothingToUndo kk_InvalidTime_NothingToUndo
      | j + 24, hj => exact absurd hj (by omega)
    · intro j hj
      match j, hj with
      | 0, _ => exact kit_rf1 hd_WrongValue ty_WrongValue kk_InvalidTime_WrongValue
      | 1, _ => exact kit_rf kn_InvalidTime_WrongName hd_WrongName ty_WrongName kk_InvalidTime_WrongName
      | 2, _ => exact kit_rf kn_InvalidTime_NoAnswer hd_NoAnswer ty_NoAnswer kk_InvalidTime_NoAnswer
      | j + 3, hj => exact absurd hj (by omega)
  have ei_InvalidWidth : ErrI Tc (cm "InvalidWidth") 4 (fun j => j == 0 || j == 3) := by
    refine ⟨by decide, ⟨ga_InvalidWidth, gg_InvalidWidth, sb_InvalidWidth, hd_InvalidWidth, cA_InvalidWidth, xg, xt, cM_InvalidWidth⟩, ⟨ga_InvalidWidth, gg_InvalidWidth, sb_InvalidWidth, hd_InvalidWidth⟩, no_InvalidWidth, ⟨?_, ?_, kit_bt1 (by decide +kernel) kt_InvalidWidth_ValueError, kit_bt (by decide +kernel) kt_InvalidWidth_LookupError, kit_bt (by decide +kernel) kt_InvalidWidth_ArithmeticError⟩, exm3 (exm_of sb_WrongValue hd_WrongValue ty_WrongValue kk_InvalidWidth_WrongValue) (exm_of sb_WrongName hd_WrongName ty_WrongName kk_InvalidWidth_WrongName) (exm_of sb_NoAnswer hd_NoAnswer ty_NoAnswer kk_InvalidWidth_NoAnswer) rfl⟩
    · intro j hj
      match j, hj with
      | 0, _ => exact kit_rf kn_InvalidWidth_NotASign hd_NotASign ty_NotASign kk_InvalidWidth_NotASign
      | 1, _ => exact kit_rf kn_InvalidWidth_NotARecord hd_NotARecord ty_NotARecord kk_InvalidWidth_NotARecord
      | 2, _ => exact kit_rf kn_InvalidWidth_InvalidText hd_InvalidText ty_InvalidText kk_InvalidWidth_InvalidText
      | 3, _ => exact kit_rf kn_InvalidWidth_InvalidPace hd_InvalidPace ty_InvalidPace kk_InvalidWidth_InvalidPace
      | 4, _ => exact kit_self
      | 5, _ => exact kit_rf kn_InvalidWidth_InvalidPlace hd_InvalidPlace ty_InvalidPlace kk_InvalidWidth_InvalidPlace
      | 6, _ => exact kit_rf kn_InvalidWidth_InvalidLength hd_InvalidLength ty_InvalidLength kk_InvalidWidth_InvalidLength
      | 7, _ => exact kit_rf kn_InvalidWidth_InvalidTime hd_InvalidTime ty_InvalidTime kk_InvalidWidth_InvalidTime
      | 8, _ => exact kit_rf kn_InvalidWidth_InvalidWindow hd_InvalidWindow ty_InvalidWindow kk_InvalidWidth_InvalidWindow
      | 9, _ => exact kit_rf kn_InvalidWidth_InvalidName hd_InvalidName ty_InvalidName kk_InvalidWidth_InvalidName
      | 10, _ => exact kit_rf kn_InvalidWidth_InvalidClaim hd_InvalidClaim ty_InvalidClaim kk_InvalidWidth_InvalidClaim
      | 11, _ => exact kit_rf kn_InvalidWidth_InvalidIndex hd_InvalidIndex ty_InvalidIndex kk_InvalidWidth_InvalidIndex
      | 12, _ => exact kit_rf kn_InvalidWidth_InvalidLine hd_InvalidLine ty_InvalidLine kk_InvalidWidth_InvalidLine
      | 13, _ => exact kit_rf kn_InvalidWidth_InvalidDead hd_InvalidDead ty_InvalidDead kk_InvalidWidth_InvalidDead
      | 14, _ => exact kit_rf kn_InvalidWidth_InvalidPaces hd_InvalidPaces ty_InvalidPaces kk_InvalidWidth_InvalidPaces
      | 15, _ => exact kit_rf kn_InvalidWidth_InvalidGroups hd_InvalidGroups ty_InvalidGroups kk_InvalidWidth_InvalidGroups
      | 16, _ => exact kit_rf kn_InvalidWidth_InvalidTimes hd_InvalidTimes ty_InvalidTimes kk_InvalidWidth_InvalidTimes
      | 17, _ => exact kit_rf kn_InvalidWidth_InvalidDeeds hd_InvalidDeeds ty_InvalidDeeds kk_InvalidWidth_InvalidDeeds
      | 18, _ => exact kit_rf kn_InvalidWidth_UnknownName hd_UnknownName ty_UnknownName kk_InvalidWidth_UnknownName
      | 19, _ => exact kit_rf kn_InvalidWidth_InUse hd_InUse ty_InUse kk_InvalidWidth_InUse
      | 20, _ => exact kit_rf kn_InvalidWidth_TooMany hd_TooMany ty_TooMany kk_InvalidWidth_TooMany
      | 21, _ => exact kit_rf kn_InvalidWidth_OtherKind hd_OtherKind ty_OtherKind kk_InvalidWidth_OtherKind
      | 22, _ => exact kit_rf kn_InvalidWidth_Broken hd_Broken ty_Broken kk_InvalidWidth_Broken
      | 23, _ => exact kit_rf kn_InvalidWidth_NothingToUndo hd_NothingToUndo ty_NothingToUndo kk_InvalidWidth_NothingToUndo
      | j + 24, hj => exact absurd hj (by omega)
    · intro j hj
      match j, hj with
      | 0, _ => exact kit_rf1 hd_WrongValue ty_WrongValue kk_InvalidWidth_WrongValue
      | 1, _ => exact kit_rf kn_InvalidWidth_WrongName hd_WrongName ty_WrongName kk_InvalidWidth_WrongName
      | 2, _ => exact kit_rf kn_InvalidWidth_NoAnswer hd_NoAnswer ty_NoAnswer kk_InvalidWidth_NoAnswer
      | j + 3, hj => exact absurd hj (by omega)
  have ei_InvalidWindow : ErrI Tc (cm "InvalidWindow") 8 (fun j => j == 0 || j == 3) := by
    refine ⟨by decide, ⟨ga_InvalidWindow, gg_InvalidWindow, sb_InvalidWindow, hd_InvalidWindow, cA_InvalidWindow, xg, xt, cM_InvalidWindow⟩, ⟨ga_InvalidWindow, gg_InvalidWindow, sb_InvalidWindow, hd_InvalidWindow⟩, no_InvalidWindow, ⟨?_, ?_, kit_bt1 (by decide +kernel) kt_InvalidWindow_ValueError, kit_bt (by decide +kernel) kt_InvalidWindow_LookupError, kit_bt (by decide +kernel) kt_InvalidWindow_ArithmeticError⟩, exm3 (exm_of sb_WrongValue hd_WrongValue ty_WrongValue kk_InvalidWindow_WrongValue) (exm_of sb_WrongName hd_WrongName ty_WrongName kk_InvalidWindow_WrongName) (exm_of sb_NoAnswer hd_NoAnswer ty_NoAnswer kk_InvalidWindow_NoAnswer) rfl⟩
    · intro j hj
      match j, hj with
      | 0, _ => exact kit_rf kn_InvalidWindow_NotASign hd_NotASign ty_NotASign kk_InvalidWindow_NotASign
      | 1, _ => exact kit_rf kn_InvalidWindow_NotARecord hd_NotARecord ty_NotARecord kk_InvalidWindow_NotARecord
      | 2, _ => exact kit_rf kn_InvalidWindow_InvalidText hd_InvalidText ty_InvalidText kk_InvalidWindow_InvalidText
      | 3, _ => exact kit_rf kn_InvalidWindow_InvalidPace hd_InvalidPace ty_InvalidPace kk_InvalidWindow_InvalidPace
      | 4, _ => exact kit_rf kn_InvalidWindow_InvalidWidth hd_InvalidWidth ty_InvalidWidth kk_InvalidWindow_InvalidWidth
      | 5, _ => exact kit_rf kn_InvalidWindow_InvalidPlace hd_InvalidPlace ty_InvalidPlace kk_InvalidWindow_InvalidPlace
      | 6, _ => exact kit_rf kn_InvalidWindow_InvalidLength hd_InvalidLength ty_InvalidLength kk_InvalidWindow_InvalidLength
      | 7, _ => exact kit_rf kn_InvalidWindow_InvalidTime hd_InvalidTime ty_InvalidTime kk_InvalidWindow_InvalidTime
      | 8, _ => exact kit_self
      | 9, _ => exact kit_rf kn_InvalidWindow_InvalidName hd_InvalidName ty_InvalidName kk_InvalidWindow_InvalidName
      | 10, _ => exact kit_rf kn_InvalidWindow_InvalidClaim hd_InvalidClaim ty_InvalidClaim kk_InvalidWindow_InvalidClaim
      | 11, _ => exact kit_rf kn_InvalidWindow_InvalidIndex hd_InvalidIndex ty_InvalidIndex kk_InvalidWindow_InvalidIndex
      | 12, _ => exact kit_rf kn_InvalidWindow_InvalidLine hd_InvalidLine ty_InvalidLine kk_InvalidWindow_InvalidLine
      | 13, _ => exact kit_rf kn_InvalidWindow_InvalidDead hd_InvalidDead ty_InvalidDead kk_InvalidWindow_InvalidDead
      | 14, _ => exact kit_rf kn_InvalidWindow_InvalidPaces hd_InvalidPaces ty_InvalidPaces kk_InvalidWindow_InvalidPaces
      | 15, _ => exact kit_rf kn_InvalidWindow_InvalidGroups hd_InvalidGroups ty_InvalidGroups kk_InvalidWindow_InvalidGroups
      | 16, _ => exact kit_rf kn_InvalidWindow_InvalidTimes hd_InvalidTimes ty_InvalidTimes kk_InvalidWindow_InvalidTimes
      | 17, _ => exact kit_rf kn_InvalidWindow_InvalidDeeds hd_InvalidDeeds ty_InvalidDeeds kk_InvalidWindow_InvalidDeeds
      | 18, _ => exact kit_rf kn_InvalidWindow_UnknownName hd_UnknownName ty_UnknownName kk_InvalidWindow_UnknownName
      | 19, _ => exact kit_rf kn_InvalidWindow_InUse hd_InUse ty_InUse kk_InvalidWindow_InUse
      | 20, _ => exact kit_rf kn_InvalidWindow_TooMany hd_TooMany ty_TooMany kk_InvalidWindow_TooMany
      | 21, _ => exact kit_rf kn_InvalidWindow_OtherKind hd_OtherKind ty_OtherKind kk_InvalidWindow_OtherKind
      | 22, _ => exact kit_rf kn_InvalidWindow_Broken hd_Broken ty_Broken kk_InvalidWindow_Broken
      | 23, _ => exact kit_rf kn_InvalidWindow_NothingToUndo hd_NothingToUndo ty_NothingToUndo kk_InvalidWindow_NothingToUndo
      | j + 24, hj => exact absurd hj (by omega)
    · intro j hj
      match j, hj with
      | 0, _ => exact kit_rf1 hd_WrongValue ty_WrongValue kk_InvalidWindow_WrongValue
      | 1, _ => exact kit_rf kn_InvalidWindow_WrongName hd_WrongName ty_WrongName kk_InvalidWindow_WrongName
      | 2, _ => exact kit_rf kn_InvalidWindow_NoAnswer hd_NoAnswer ty_NoAnswer kk_InvalidWindow_NoAnswer
      | j + 3, hj => exact absurd hj (by omega)
  have ei_NotARecord : ErrI Tc (cm "NotARecord") 1 (fun j => j == 0 || j == 3) := by
    refine ⟨by decide, ⟨ga_NotARecord, gg_NotARecord, sb_NotARecord, hd_NotARecord, cA_NotARecord, xg, xt, cM_NotARecord⟩, ⟨ga_NotARecord, gg_NotARecord, sb_NotARecord, hd_NotARecord⟩, no_NotARecord, ⟨?_, ?_, kit_bt1 (by decide +kernel) kt_NotARecord_ValueError, kit_bt (by decide +kernel) kt_NotARecord_LookupError, kit_bt (by decide +kernel) kt_NotARecord_ArithmeticError⟩, exm3 (exm_of sb_WrongValue hd_WrongValue ty_WrongValue kk_NotARecord_WrongValue) (exm_of sb_WrongName hd_WrongName ty_WrongName kk_NotARecord_WrongName) (exm_of sb_NoAnswer hd_NoAnswer ty_NoAnswer kk_NotARecord_NoAnswer) rfl⟩
    · intro j hj
      match j, hj with
      | 0, _ => exact kit_rf kn_NotARecord_NotASign hd_NotASign ty_NotASign kk_NotARecord_NotASign
      | 1, _ => exact kit_self
      | 2, _ => exact kit_rf kn_NotARecord_InvalidText hd_InvalidText ty_InvalidText kk_NotARecord_InvalidText
      | 3, _ => exact kit_rf kn_NotARecord_InvalidPace hd_InvalidPace ty_InvalidPace kk_NotARecord_InvalidPace
      | 4, _ => exact kit_rf kn_NotARecord_InvalidWidth hd_InvalidWidth ty_InvalidWidth kk_NotARecord_InvalidWidth
      | 5, _ => exact kit_rf kn_NotARecord_InvalidPlace hd_InvalidPlace ty_InvalidPlace kk_NotARecord_InvalidPlace
      | 6, _ => exact kit_rf kn_NotARecord_InvalidLength hd_InvalidLength ty_InvalidLength kk_NotARecord_InvalidLength
      | 7, _ => exact kit_rf kn_NotARecord_InvalidTime hd_InvalidTime ty_InvalidTime kk_NotARecord_InvalidTime
      | 8, _ => exact kit_rf kn_NotARecord_InvalidWindow hd_InvalidWindow ty_InvalidWindow kk_NotARecord_InvalidWindow
      | 9, _ => exact kit_rf kn_NotARecord_InvalidName hd_InvalidName ty_InvalidName kk_NotARecord_InvalidName
      | 10, _ => exact kit_rf kn_NotARecord_InvalidClaim hd_InvalidClaim ty_InvalidClaim kk_NotARecord_InvalidClaim
      | 11, _ => exact kit_rf kn_NotARecord_InvalidIndex hd_InvalidIndex ty_InvalidIndex kk_NotARecord_InvalidIndex
      | 12, _ => exact kit_rf kn_NotARecord_InvalidLine hd_InvalidLine ty_InvalidLine kk_NotARecord_InvalidLine
      | 13, _ => exact kit_rf kn_NotARecord_InvalidDead hd_InvalidDead ty_InvalidDead kk_NotARecord_InvalidDead
      | 14, _ => exact kit_rf kn_NotARecord_InvalidPaces hd_InvalidPaces ty_InvalidPaces kk_NotARecord_InvalidPaces
      | 15, _ => exact kit_rf kn_NotARecord_InvalidGroups hd_InvalidGroups ty_InvalidGroups kk_NotARecord_InvalidGroups
      | 16, _ => exact kit_rf kn_NotARecord_InvalidTimes hd_InvalidTimes ty_InvalidTimes kk_NotARecord_InvalidTimes
      | 17, _ => exact kit_rf kn_NotARecord_InvalidDeeds hd_InvalidDeeds ty_InvalidDeeds kk_NotARecord_InvalidDeeds
      | 18, _ => exact kit_rf kn_NotARecord_UnknownName hd_UnknownName ty_UnknownName kk_NotARecord_UnknownName
      | 19, _ => exact kit_rf kn_NotARecord_InUse hd_InUse ty_InUse kk_NotARecord_InUse
      | 20, _ => exact kit_rf kn_NotARecord_TooMany hd_TooMany ty_TooMany kk_NotARecord_TooMany
      | 21, _ => exact kit_rf kn_NotARecord_OtherKind hd_OtherKind ty_OtherKind kk_NotARecord_OtherKind
      | 22, _ => exact kit_rf kn_NotARecord_Broken hd_Broken ty_Broken kk_NotARecord_Broken
      | 23, _ => exact kit_rf kn_NotARecord_NothingToUndo hd_NothingToUndo ty_NothingToUndo kk_NotARecord_NothingToUndo
      | j + 24, hj => exact absurd hj (by omega)
    · intro j hj
      match j, hj with
      | 0, _ => exact kit_rf1 hd_WrongValue ty_WrongValue kk_NotARecord_WrongValue
      | 1, _ => exact kit_rf kn_NotARecord_WrongName hd_WrongName ty_WrongName kk_NotARecord_WrongName
      | 2, _ => exact kit_rf kn_NotARecord_NoAnswer hd_NoAnswer ty_NoAnswer kk_NotARecord_NoAnswer
      | j + 3, hj => exact absurd hj (by omega)
  have et : ErrT Tc cm errTab := by
    refine ⟨fun C i bs e => ?_⟩
    unfold errTab at e
    have mem := err_mem e
    simp only [List.mem_cons, List.not_mem_nil, or_false, Prod.mk.injEq] at mem
    rcases mem with ⟨rfl, rfl, rfl⟩ | ⟨rfl, rfl, rfl⟩ | ⟨rfl, rfl, rfl⟩ | ⟨rfl, rfl, rfl⟩ | ⟨rfl, rfl, rfl⟩ | ⟨rfl, rfl, rfl⟩ | ⟨rfl, rfl, rfl⟩ | ⟨rfl, rfl, rfl⟩ | ⟨rfl, rfl, rfl⟩
    · exact ⟨_, ei_InvalidDead, by decide, by decide⟩
    · exact ⟨_, ei_InvalidGroups, by decide, by decide⟩
    · exact ⟨_, ei_InvalidLength, by decide, by decide⟩
    · exact ⟨_, ei_InvalidPaces, by decide, by decide⟩
    · exact ⟨_, ei_InvalidPlace, by decide, by decide⟩
    · exact ⟨_, ei_InvalidTime, by decide, by decide⟩
    · exact ⟨_, ei_InvalidWidth, by decide, by decide⟩
    · exact ⟨_, ei_InvalidWindow, by decide, by decide⟩
    · exact ⟨_, ei_NotARecord, by decide, by decide⟩
  have c_l_caught : CauC l.prog w K mg base cm errTab := by
    refine ⟨f3, oc3, od3, sl3, defArgs s_l_caught, defBody s_l_caught, defScope s_l_caught, .none, kV3, dc3, pm3, cd3, ct3, an3, ["_law_act", "_law_e", "_law_found"], Tc, PySem.W.mg_of X Gn a3, k3, l3, c3, b3, sc_l_caught, rfl, .inl rfl, et, ?_⟩
    intro Y e1 e2 e3 e4 e5 qt q
    exact cau_all Tc B (ok_classes Tc F2 B) (PySem.W.mg_of X Gn a2) k2 b2 Y e1 e2 e3 e4 e5 qt
  have ok4 := ok_l_pick (P := l.prog) (w := w) (base := base) (cm := cm) (cs := cs) (T := T) F4 rfl B (c_l_sip := c_l_sip)
  have c_l_pick : CalG l.prog w K mg base 2 "_law_pick" (spL K cm cs T m_l_pick) := ⟨_, _, _, ok4, PySem.W.mg_of X Gn a4, k4, b4⟩
  have ok5 := ok_check_record (P := l.prog) (w := w) (base := base) (cm := cm) (cs := cs) F5 B (k_Record := k_Record) (s_Record := s_Record) (e_NotARecord := e_NotARecord) (ck := ck)
  have c_check_record : CalN l.prog w K mg base 3 "check_record" (spD K cm cs m_check_record) := ⟨_, _, _, ok5, PySem.W.mg_of X Gn a5, k5, b5⟩
  have ok6 := ok_is_whole (P := l.prog) (w := w) (base := base) (cm := cm) (cs := cs) F6 B (ck := ck)
  have c_is_whole : CalN l.prog w K mg base 1 "is_whole" (spD K cm cs m_is_whole) := ⟨_, _, _, ok6, PySem.W.mg_of X Gn a6, k6, b6⟩
  have ok7 := ok_is_time (P := l.prog) (w := w) (base := base) (cm := cm) (cs := cs) F7 B (c_is_whole := c_is_whole) (g_GREATEST := g_GREATEST)
  have c_is_time : CalN l.prog w K mg base 2 "is_time" (spD K cm cs m_is_time) := ⟨_, _, _, ok7, PySem.W.mg_of X Gn a7, k7, b7⟩
  have ok8 := ok_check_time (P := l.prog) (w := w) (base := base) (cm := cm) (cs := cs) F8 B (c_is_time := c_is_time) (e_InvalidTime := e_InvalidTime)
  have c_check_time : CalN l.prog w K mg base 3 "check_time" (spD K cm cs m_check_time) := ⟨_, _, _, ok8, PySem.W.mg_of X Gn a8, k8, b8⟩
  have ok9 := ok_letters_for (P := l.prog) (w := w) (base := base) (cm := cm) (cs := cs) F9 B (g_CAPITALS := g_CAPITALS) (g_LETTERS := g_LETTERS) (g_UNREAD := g_UNREAD)
  have c_letters_for : CalN l.prog w K mg base 1 "letters_for" (spD K cm cs m_letters_for) := ⟨_, _, _, ok9, PySem.W.mg_of X Gn a9, k9, b9⟩
  have ok10 := ok_is_reading (P := l.prog) (w := w) (base := base) (cm := cm) (cs := cs) F10 B (c_letters_for := c_letters_for) (ck := ck)
  have c_is_reading : CalN l.prog w K mg base 2 "is_reading" (spD K cm cs m_is_reading) := ⟨_, _, _, ok10, PySem.W.mg_of X Gn a10, k10, b10⟩
  have ok11 := ok_check_window (P := l.prog) (w := w) (base := base) (cm := cm) (cs := cs) F11 B (c_is_reading := c_is_reading) (e_InvalidWindow := e_InvalidWindow)
  have c_check_window : CalN l.prog w K mg base 3 "check_window" (spD K cm cs m_check_window) := ⟨_, _, _, ok11, PySem.W.mg_of X Gn a11, k11, b11⟩
  have ok12 := ok_mask_of (P := l.prog) (w := w) (base := base) (cm := cm) (cs := cs) F12 B (g_LETTERS := g_LETTERS)
  have c_mask_of : CalN l.prog w K mg base 1 "mask_of" (spD K cm cs m_mask_of) := ⟨_, _, _, ok12, PySem.W.mg_of X Gn a12, k12, b12⟩
  have ok13 := ok_masks_for (P := l.prog) (w := w) (base := base) (cm := cm) (cs := cs) F13 B (c_letters_for := c_letters_for) (c_mask_of := c_mask_of)
  have c_masks_for : CalN l.prog w K mg base 2 "masks_for" (spD K cm cs m_masks_for) := ⟨_, _, _, ok13, PySem.W.mg_of X Gn a13, k13, b13⟩
  have ok14 := ok_Record_glances (P := l.prog) (w := w) (base := base) (cm := cm) (cs := cs) F14 B (cl_Record := cl_Record) (n_kept := n_kept)
  have p_Record_glances : PrpN l.prog w K mg base 1 (cm "Record") "glances" (spD K cm cs (noE m_Record_glances)) := ⟨_, _, _, _, cl_Record, ⟨a14, g14, t14, _, r14⟩, fnok_imp ok14 spD_noE, b14⟩
  have ok15 := ok_Record_groups (P := l.prog) (w := w) (base := base) (cm := cm) (cs := cs) F15 B (cl_Record := cl_Record) (n_kept := n_kept)
  have p_Record_groups : PrpN l.prog w K mg base 1 (cm "Record") "groups" (spD K cm cs (noE m_Record_groups)) := ⟨_, _, _, _, cl_Record, ⟨a15, g15, t15, _, r15⟩, fnok_imp ok15 spD_noE, b15⟩
  have ok16 := ok_glimpses (P := l.prog) (w := w) (base := base) (cm := cm) (cs := cs) F16 B (c_masks_for := c_masks_for) (p_Record_glances := p_Record_glances) (p_Record_groups := p_Record_groups)
  have c_glimpses : CalN l.prog w K mg base 3 "glimpses" (spD K cm cs m_glimpses) := ⟨_, _, _, ok16, PySem.W.mg_of X Gn a16, k16, b16⟩
  have ok17 := ok_Record_least (P := l.prog) (w := w) (base := base) (cm := cm) (cs := cs) F17 B (cl_Record := cl_Record) (n_kept := n_kept)
  have p_Record_least : PrpN l.prog w K mg base 1 (cm "Record") "least" (spD K cm cs (noE m_Record_least)) := ⟨_, _, _, _, cl_Record, ⟨a17, g17, t17, _, r17⟩, fnok_imp ok17 spD_noE, b17⟩
  have ok18 := ok_Record_most (P := l.prog) (w := w) (base := base) (cm := cm) (cs := cs) F18 B (cl_Record := cl_Record) (n_kept := n_kept)
  have p_Record_most : PrpN l.prog w K mg base 1 (cm "Record") "most" (spD K cm cs (noE m_Record_most)) := ⟨_, _, _, _, cl_Record, ⟨a18, g18, t18, _, r18⟩, fnok_imp ok18 spD_noE, b18⟩
  have ok19 := ok_Record_paces (P := l.prog) (w := w) (base := base) (cm := cm) (cs := cs) F19 B (cl_Record := cl_Record) (n_kept := n_kept)
  have p_Record_paces : PrpN l.prog w K mg base 1 (cm "Record") "paces" (spD K cm cs (noE m_Record_paces)) := ⟨_, _, _, _, cl_Record, ⟨a19, g19, t19, _, r19⟩, fnok_imp ok19 spD_noE, b19⟩
  have ok20 := ok_let_pairs (P := l.prog) (w := w) (base := base) (cm := cm) (cs := cs) F20 B (p_Record_least := p_Record_least) (p_Record_most := p_Record_most) (p_Record_paces := p_Record_paces)
  have c_let_pairs : CalN l.prog w K mg base 3 "let_pairs" (spD K cm cs m_let_pairs) := ⟨_, _, _, ok20, PySem.W.mg_of X Gn a20, k20, b20⟩
  have ok21 := ok_number_at (P := l.prog) (w := w) (base := base) (cm := cm) (cs := cs) F21 B 
  have c_number_at : CalN l.prog w K mg base 1 "number_at" (spD K cm cs m_number_at) := ⟨_, _, _, ok21, PySem.W.mg_of X Gn a21, k21, b21⟩
  have ok22 := ok_numbers_at (P := l.prog) (w := w) (base := base) (cm := cm) (cs := cs) F22 B (c_number_at := c_number_at)
  have c_numbers_at : CalN l.prog w K mg base 2 "numbers_at" (spD K cm cs m_numbers_at) := ⟨_, _, _, ok22, PySem.W.mg_of X Gn a22, k22, b22⟩
  have ok23 := ok_cells (P := l.prog) (w := w) (base := base) (cm := cm) (cs := cs) F23 B (c_mask_of := c_mask_of) (c_numbers_at := c_numbers_at) (g_LETTERS := g_LETTERS)
  have c_cells : CalN l.prog w K mg base 3 "cells" (spD K cm cs m_cells) := ⟨_, _, _, ok23, PySem.W.mg_of X Gn a23, k23, b23⟩
  have ok24 := ok_some_fits (P := l.prog) (w := w) (base := base) (cm := cm) (cs := cs) F24 B (c_cells := c_cells)
  have c_some_fits : CalN l.prog w K mg base 4 "some_fits" (spD K cm cs m_some_fits) := ⟨_, _, _, ok24, PySem.W.mg_of X Gn a24, k24, b24⟩
  have ok25 := ok_Record_width (P := l.prog) (w := w) (base := base) (cm := cm) (cs := cs) F25 B (cl_Record := cl_Record) (n_kept := n_kept)
  have p_Record_width : PrpN l.prog w K mg base 1 (cm "Record") "width" (spD K cm cs (noE m_Record_width)) := ⟨_, _, _, _, cl_Record, ⟨a25, g25, t25, _, r25⟩, fnok_imp ok25 spD_noE, b25⟩
  have ok26 := ok_can (P := l.prog) (w := w) (base := base) (cm := cm) (cs := cs) F26 B (c_check_record := c_check_record) (c_check_time := c_check_time) (c_check_window := c_check_window) (c_glimpses := c_glimpses) (c_let_pairs := c_let_pairs) (c_masks_for := c_masks_for) (c_some_fits := c_some_fits) (p_Record_groups := p_Record_groups) (p_Record_width := p_Record_width)
  have c_can : CalN l.prog w K mg base 5 "can" (spD K cm cs m_can) := ⟨_, _, _, ok26, PySem.W.mg_of X Gn a26, k26, b26⟩
  have c_can_window_time_record : CalKN l.prog w K mg base 5 "can" ["window", "time", "record"] (fun _ zs => layL [.k 2, .k 1, .k 0] [] [] zs) (spD K cm cs m_can) := ⟨_, _, ["record", "time", "window"], fun _ ws => layL [.k 2, .k 1, .k 0] [] [] ws, ok26, PySem.W.mg_of X Gn a26, k26, ⟨fun s us ws _ l1 l2 => match us, ws, l1, l2 with | [], [_, _, _], _, _ => .of_eq rfl, fun _ r2 => vals_layL .nil .nil r2 [.k 2, .k 1, .k 0]⟩⟩
  have ok27 := ok_possible (P := l.prog) (w := w) (base := base) (cm := cm) (cs := cs) F27 B (c_cells := c_cells) (c_glimpses := c_glimpses) (c_let_pairs := c_let_pairs)
  have c_possible : CalN l.prog w K mg base 4 "possible" (spD K cm cs m_possible) := ⟨_, _, _, ok27, PySem.W.mg_of X Gn a27, k27, b27⟩
  have ok28 := ok_windows_at (P := l.prog) (w := w) (base := base) (cm := cm) (cs := cs) F28 B (c_numbers_at := c_numbers_at) (c_possible := c_possible) (p_Record_width := p_Record_width)
  have c_windows_at : CalN l.prog w K mg base 5 "windows_at" (spD K cm cs m_windows_at) := ⟨_, _, _, ok28, PySem.W.mg_of X Gn a28, k28, b28⟩
  have ok29 := ok_all_at (P := l.prog) (w := w) (base := base) (cm := cm) (cs := cs) F29 B (c_windows_at := c_windows_at) (p_Record_width := p_Record_width)
  have c_all_at : CalN l.prog w K mg base 6 "all_at" (spD K cm cs m_all_at) := ⟨_, _, _, ok29, PySem.W.mg_of X Gn a29, k29, b29⟩
  have ok30 := ok_check_place (P := l.prog) (w := w) (base := base) (cm := cm) (cs := cs) F30 B (c_is_whole := c_is_whole) (e_InvalidPlace := e_InvalidPlace)
  have c_check_place : CalN l.prog w K mg base 3 "check_place" (spD K cm cs m_check_place) := ⟨_, _, _, ok30, PySem.W.mg_of X Gn a30, k30, b30⟩
  have ok31 := ok_letters_in (P := l.prog) (w := w) (base := base) (cm := cm) (cs := cs) F31 B (g_LETTERS := g_LETTERS)
  have c_letters_in : CalN l.prog w K mg base 1 "letters_in" (spD K cm cs m_letters_in) := ⟨_, _, _, ok31, PySem.W.mg_of X Gn a31, k31, b31⟩
  have ok32 := ok_letters (P := l.prog) (w := w) (base := base) (cm := cm) (cs := cs) F32 B (c_all_at := c_all_at) (c_check_place := c_check_place) (c_check_record := c_check_record) (c_check_time := c_check_time) (c_letters_in := c_letters_in) (p_Record_width := p_Record_width)
  have c_letters : CalN l.prog w K mg base 7 "letters" (spD K cm cs m_letters) := ⟨_, _, _, ok32, PySem.W.mg_of X Gn a32, k32, b32⟩
  have c_letters_place_time_record : CalKN l.prog w K mg base 7 "letters" ["place", "time", "record"] (fun _ zs => layL [.k 2, .k 1, .k 0] [] [] zs) (spD K cm cs m_letters) := ⟨_, _, ["record", "time", "place"], fun _ ws => layL [.k 2, .k 1, .k 0] [] [] ws, ok32, PySem.W.mg_of X Gn a32, k32, ⟨fun s us ws _ l1 l2 => match us, ws, l1, l2 with | [], [_, _, _], _, _ => .of_eq rfl, fun _ r2 => vals_layL .nil .nil r2 [.k 2, .k 1, .k 0]⟩⟩
  have ok33 := ok_are_within (P := l.prog) (w := w) (base := base) (cm := cm) (cs := cs) F33 B 
  have c_are_within : CalN l.prog w K mg base 1 "are_within" (spD K cm cs m_are_within) := ⟨_, _, _, ok33, PySem.W.mg_of X Gn a33, k33, b33⟩
  have ok34 := ok_must (P := l.prog) (w := w) (base := base) (cm := cm) (cs := cs) F34 B (c_are_within := c_are_within) (c_check_record := c_check_record) (c_check_time := c_check_time) (c_check_window := c_check_window) (c_masks_for := c_masks_for) (c_windows_at := c_windows_at) (p_Record_groups := p_Record_groups) (p_Record_width := p_Record_width)
  have c_must : CalN l.prog w K mg base 6 "must" (spD K cm cs m_must) := ⟨_, _, _, ok34, PySem.W.mg_of X Gn a34, k34, b34⟩
  have c_must_window_time_record : CalKN l.prog w K mg base 6 "must" ["window", "time", "record"] (fun _ zs => layL [.k 2, .k 1, .k 0] [] [] zs) (spD K cm cs m_must) := ⟨_, _, ["record", "time", "window"], fun _ ws => layL [.k 2, .k 1, .k 0] [] [] ws, ok34, PySem.W.mg_of X Gn a34, k34, ⟨fun s us ws _ l1 l2 => match us, ws, l1, l2 with | [], [_, _, _], _, _ => .of_eq rfl, fun _ r2 => vals_layL .nil .nil r2 [.k 2, .k 1, .k 0]⟩⟩
  have ok35 := ok_only_letter (P := l.prog) (w := w) (base := base) (cm := cm) (cs := cs) F35 B (c_letters_in := c_letters_in) (g_UNREAD := g_UNREAD)
  have c_only_letter : CalN l.prog w K mg base 2 "only_letter" (spD K cm cs m_only_letter) := ⟨_, _, _, ok35, PySem.W.mg_of X Gn a35, k35, b35⟩
  have ok36 := ok_sure (P := l.prog) (w := w) (base := base) (cm := cm) (cs := cs) F36 B (c_all_at := c_all_at) (c_check_record := c_check_record) (c_check_time := c_check_time) (c_only_letter := c_only_letter)
  have c_sure : CalN l.prog w K mg base 7 "sure" (spD K cm cs m_sure) := ⟨_, _, _, ok36, PySem.W.mg_of X Gn a36, k36, b36⟩
  have c_sure_time_record : CalKN l.prog w K mg base 7 "sure" ["time", "record"] (fun _ zs => layL [.k 1, .k 0] [] [] zs) (spD K cm cs m_sure) := ⟨_, _, ["record", "time"], fun _ ws => layL [.k 1, .k 0] [] [] ws, ok36, PySem.W.mg_of X Gn a36, k36, ⟨fun s us ws _ l1 l2 => match us, ws, l1, l2 with | [], [_, _], _, _ => .of_eq rfl, fun _ r2 => vals_layL .nil .nil r2 [.k 1, .k 0]⟩⟩
  have ok37 := ok_first_not_rising (P := l.prog) (w := w) (base := base) (cm := cm) (cs := cs) F37 B (c_is_whole := c_is_whole)
  have c_first_not_rising : CalN l.prog w K mg base 2 "first_not_rising" (spD K cm cs m_first_not_rising) := ⟨_, _, _, ok37, PySem.W.mg_of X Gn a37, k37, b37⟩
  have ok38 := ok_check_dead (P := l.prog) (w := w) (base := base) (cm := cm) (cs := cs) F38 B (c_first_not_rising := c_first_not_rising) (e_InvalidDead := e_InvalidDead) (ck := ck)
  have c_check_dead : CalN l.prog w K mg base 3 "check_dead" (spD K cm cs m_check_dead) := ⟨_, _, _, ok38, PySem.W.mg_of X Gn a38, k38, b38⟩
  have ok39 := ok_is_group (P := l.prog) (w := w) (base := base) (cm := cm) (cs := cs) F39 B (g_SMALL := g_SMALL) (ck := ck)
  have c_is_group : CalN l.prog w K mg base 1 "is_group" (spD K cm cs m_is_group) := ⟨_, _, _, ok39, PySem.W.mg_of X Gn a39, k39, b39⟩
  have ok40 := ok_first_no_group (P := l.prog) (w := w) (base := base) (cm := cm) (cs := cs) F40 B (c_is_group := c_is_group)
  have c_first_no_group : CalN l.prog w K mg base 2 "first_no_group" (spD K cm cs m_first_no_group) := ⟨_, _, _, ok40, PySem.W.mg_of X Gn a40, k40, b40⟩
  have ok41 := ok_check_groups (P := l.prog) (w := w) (base := base) (cm := cm) (cs := cs) F41 B (c_first_no_group := c_first_no_group) (e_InvalidGroups := e_InvalidGroups) (ck := ck)
  have c_check_groups : CalN l.prog w K mg base 3 "check_groups" (spD K cm cs m_check_groups) := ⟨_, _, _, ok41, PySem.W.mg_of X Gn a41, k41, b41⟩
  have ok42 := ok_is_length (P := l.prog) (w := w) (base := base) (cm := cm) (cs := cs) F42 B (c_is_whole := c_is_whole) (g_MOST_LENGTH := g_MOST_LENGTH)
  have c_is_length : CalN l.prog w K mg base 2 "is_length" (spD K cm cs m_is_length) := ⟨_, _, _, ok42, PySem.W.mg_of X Gn a42, k42, b42⟩
  have ok43 := ok_check_length (P := l.prog) (w := w) (base := base) (cm := cm) (cs := cs) F43 B (c_is_length := c_is_length) (e_InvalidLength := e_InvalidLength)
  have c_check_length : CalN l.prog w K mg base 3 "check_length" (spD K cm cs m_check_length) := ⟨_, _, _, ok43, PySem.W.mg_of X Gn a43, k43, b43⟩
  have ok44 := ok_check_paces (P := l.prog) (w := w) (base := base) (cm := cm) (cs := cs) F44 B (c_first_not_rising := c_first_not_rising) (g_MOST_PACE := g_MOST_PACE) (e_InvalidPaces := e_InvalidPaces) (ck := ck)
  have c_check_paces : CalN l.prog w K mg base 3 "check_paces" (spD K cm cs m_check_paces) := ⟨_, _, _, ok44, PySem.W.mg_of X Gn a44, k44, b44⟩
  have ok45 := ok_check_width (P := l.prog) (w := w) (base := base) (cm := cm) (cs := cs) F45 B (c_is_whole := c_is_whole) (g_MOST_WIDTH := g_MOST_WIDTH) (e_InvalidWidth := e_InvalidWidth)
  have c_check_width : CalN l.prog w K mg base 3 "check_width" (spD K cm cs m_check_width) := ⟨_, _, _, ok45, PySem.W.mg_of X Gn a45, k45, b45⟩
  have ok46 := ok_Record_init (P := l.prog) (w := w) (base := base) (cm := cm) (cs := cs) F46 B (c_check_dead := c_check_dead) (c_check_groups := c_check_groups) (c_check_length := c_check_length) (c_check_paces := c_check_paces) (c_check_width := c_check_width) (cl_Record := cl_Record) (n_kept := n_kept)
  have M46 : Mk K (cm "Record") f46 := ⟨mk_Record, a46, i46, kc_Record⟩
  have f_Record_1_dead_groups : MakNK l.prog w K mg base 4 "Record" (cm "Record") 1 ["dead", "groups"] (fun vs zs => layS [.p 0, .k 0, .d 0, .d 1, .d 2, .k 1] vs [.int 1, .int 20, .ref T46_3] zs) (spI K cm cs "Record" m_Record_init) := ⟨_, _, _, _, M46, ok46, k_Record, kb_Record_1_dead_groups⟩
  have f_Record_1_dead_least_most_paces_groups : MakNK l.prog w K mg base 4 "Record" (cm "Record") 1 ["dead", "least", "most", "paces", "groups"] (fun vs zs => layS [.p 0, .k 0, .k 1, .k 2, .k 3, .k 4] vs [] zs) (spI K cm cs "Record" m_Record_init) := ⟨_, _, _, _, M46, ok46, k_Record, kb_Record_1_dead_least_most_paces_groups⟩
  have f_Record_1_groups : MakNK l.prog w K mg base 4 "Record" (cm "Record") 1 ["groups"] (fun vs zs => layS [.p 0, .d 0, .d 1, .d 2, .d 3, .k 0] vs [.ref T46_0, .int 1, .int 20, .ref T46_3] zs) (spI K cm cs "Record" m_Record_init) := ⟨_, _, _, _, M46, ok46, k_Record, kb_Record_1_groups⟩
  have ok47 := ok_unread_where_dead (P := l.prog) (w := w) (base := base) (cm := cm) (cs := cs) F47 B (g_UNREAD := g_UNREAD)
  have c_unread_where_dead : CalN l.prog w K mg base 1 "unread_where_dead" (spD K cm cs m_unread_where_dead) := ⟨_, _, _, ok47, PySem.W.mg_of X Gn a47, k47, b47⟩
  have ok48 := ok_Record_told (P := l.prog) (w := w) (base := base) (cm := cm) (cs := cs) F48 B (cl_Record := cl_Record) (n_kept := n_kept)
  have p_Record_told : PrpN l.prog w K mg base 1 (cm "Record") "told" (spD K cm cs (noE m_Record_told)) := ⟨_, _, _, _, cl_Record, ⟨a48, g48, t48, _, r48⟩, fnok_imp ok48 spD_noE, b48⟩
  have ok49 := ok_with_glances (P := l.prog) (w := w) (base := base) (cm := cm) (cs := cs) F49 B (k_Record := k_Record) (s_Record := s_Record) (cl_Record := cl_Record) (n_kept := n_kept) (df_Record_1_dead_least_most_paces_groups := df_Record_1_dead_least_most_paces_groups) (f_Record_1_dead_least_most_paces_groups := f_Record_1_dead_least_most_paces_groups) (p_Record_told := p_Record_told)
  have c_with_glances : CalN l.prog w K mg base 6 "with_glances" (spD K cm cs m_with_glances) := ⟨_, _, _, ok49, PySem.W.mg_of X Gn a49, k49, b49⟩
  have ok50 := ok_Record_dead (P := l.prog) (w := w) (base := base) (cm := cm) (cs := cs) F50 B (cl_Record := cl_Record) (n_kept := n_kept)
  have p_Record_dead : PrpN l.prog w K mg base 1 (cm "Record") "dead" (spD K cm cs (noE m_Record_dead)) := ⟨_, _, _, _, cl_Record, ⟨a50, g50, t50, _, r50⟩, fnok_imp ok50 spD_noE, b50⟩
  have ok51 := ok_Record_seen (P := l.prog) (w := w) (base := base) (cm := cm) (cs := cs) F51 B (c_check_time := c_check_time) (c_check_window := c_check_window) (c_unread_where_dead := c_unread_where_dead) (c_with_glances := c_with_glances) (g_MOST_GLANCES := g_MOST_GLANCES) (e_InvalidWindow := e_InvalidWindow) (p_Record_dead := p_Record_dead) (p_Record_glances := p_Record_glances) (p_Record_groups := p_Record_groups) (p_Record_width := p_Record_width)
  have q_Record_seen : MetN l.prog w K mg base 7 (cm "Record") "seen" (spD K cm cs m_Record_seen) := ⟨_, _, _, cl_Record, ⟨a51, i51, k51⟩, ok51, b51⟩
  have ok52 := ok_l_right (P := l.prog) (w := w) (base := base) (cm := cm) (cs := cs) (T := T) F52 rfl B (c_l_pick := c_l_pick) (c_can := c_can) (c_letters := c_letters) (c_must := c_must) (c_sure := c_sure) (c_can_window_time_record := c_can_window_time_record) (c_letters_place_time_record := c_letters_place_time_record) (c_must_window_time_record := c_must_window_time_record) (c_sure_time_record := c_sure_time_record) (c_l_caught := c_l_caught) (lt := lt52) (k_Record := k_Record) (s_Record := s_Record) (df_Record_1_dead_groups := df_Record_1_dead_groups) (f_Record_1_dead_groups := f_Record_1_dead_groups) (q_Record_seen := q_Record_seen) (p_Record_told := p_Record_told)
  have c_l_right : CalG l.prog w K mg base 11 "_law_right" (spL K cm cs T m_l_right) := ⟨_, _, _, ok52, PySem.W.mg_of X Gn a52, k52, b52⟩
  exact ok_law (P := l.prog) (w := w) (base := base) (cm := cm) (cs := cs) (T := T) F53 rfl B (c_l_right := c_l_right) (c_can := c_can) (c_letters := c_letters) (c_l_caught := c_l_caught) (lt := lt53) (k_Record := k_Record) (s_Record := s_Record) (c_l_cup := c_l_cup) (df_Record_1_groups := df_Record_1_groups) (f_Record_1_groups := f_Record_1_groups)
end L2.G
namespace L2.G
open PySem PySem.W
def loose0 : List PySem.Str := [("_wall" : PySem.Str), ("WrongValue" : PySem.Str), ("NotASign" : PySem.Str), ("NotARecord" : PySem.Str), ("InvalidText" : PySem.Str), ("InvalidPace" : PySem.Str), ("InvalidWidth" : PySem.Str), ("InvalidPlace" : PySem.Str), ("InvalidLength" : PySem.Str), ("InvalidTime" : PySem.Str), ("InvalidWindow" : PySem.Str), ("InvalidName" : PySem.Str), ("InvalidClaim" : PySem.Str), ("InvalidIndex" : PySem.Str), ("InvalidLine" : PySem.Str), ("InvalidDead" : PySem.Str), ("InvalidPaces" : PySem.Str), ("InvalidGroups" : PySem.Str), ("InvalidTimes" : PySem.Str), ("InvalidDeeds" : PySem.Str), ("WrongName" : PySem.Str), ("UnknownName" : PySem.Str), ("InUse" : PySem.Str), ("NoAnswer" : PySem.Str), ("TooMany" : PySem.Str), ("OtherKind" : PySem.Str), ("Broken" : PySem.Str), ("NothingToUndo" : PySem.Str), ("MOST_WIDTH" : PySem.Str), ("MOST_LENGTH" : PySem.Str)]
def loose1 : List PySem.Str := [("MOST_PACE" : PySem.Str), ("MOST_GLANCES" : PySem.Str), ("GREATEST" : PySem.Str), ("SMALL" : PySem.Str), ("CAPITALS" : PySem.Str), ("LETTERS" : PySem.Str), ("UNREAD" : PySem.Str), ("is_whole" : PySem.Str), ("is_row" : PySem.Str), ("is_time" : PySem.Str), ("check_time" : PySem.Str), ("check_width" : PySem.Str), ("check_place" : PySem.Str), ("is_pace" : PySem.Str), ("check_pace" : PySem.Str), ("is_length" : PySem.Str), ("check_length" : PySem.Str), ("first_not_rising" : PySem.Str), ("check_dead" : PySem.Str), ("check_paces" : PySem.Str), ("is_group" : PySem.Str), ("first_no_group" : PySem.Str), ("check_groups" : PySem.Str), ("number_at" : PySem.Str), ("numbers_at" : PySem.Str), ("letters_for" : PySem.Str), ("is_reading" : PySem.Str), ("check_window" : PySem.Str), ("agrees" : PySem.Str), ("mask_of" : PySem.Str)]
def loose2 : List PySem.Str := [("letters_in" : PySem.Str), ("masks_for" : PySem.Str), ("are_within" : PySem.Str), ("is_text" : PySem.Str), ("Sign" : PySem.Str), ("check_sign" : PySem.Str), ("Record" : PySem.Str), ("check_record" : PySem.Str), ("let_pairs" : PySem.Str), ("unread_where_dead" : PySem.Str), ("with_glances" : PySem.Str), ("is_row_of_pairs" : PySem.Str), ("record_told" : PySem.Str), ("retold" : PySem.Str), ("glimpses" : PySem.Str), ("cells" : PySem.Str), ("some_fits" : PySem.Str), ("possible" : PySem.Str), ("windows_at" : PySem.Str), ("all_at" : PySem.Str), ("letters" : PySem.Str), ("only_letter" : PySem.Str), ("sure" : PySem.Str), ("can" : PySem.Str), ("must" : PySem.Str), ("_law_cup" : PySem.Str), ("_law_sip" : PySem.Str), ("_law_pick" : PySem.Str), ("_law_classes" : PySem.Str), ("_law_caught" : PySem.Str)]
abbrev rowHd : OpenRow := OpenLaw.row PySem.Challenge.rw_glimpserounds_k15_letters_refused
abbrev viewHd : Program := view rowHd.prog [97, 98]
def looseHd : List PySem.Str := loose0 ++ loose1 ++ loose2
end L2.G
open PySem PySem.W PyProof.Rows
local macro_rules | `(tactic| o_head $H) => `(tactic| (refine PySem.W.holds_open (r := L2.G.rowHd) (q := L2.G.viewHd) (loose := L2.G.looseHd) (Xt := fun s => PySem.W.xlAt L2.G.viewHd [] s && PySem.W.recOk L2.G.rowHd.toRowW.records s) (XP := PySem.W.XL L2.G.viewHd []) (Yf := PySem.W.Hook.obs $H) (Ya := PySem.W.Hook.val $H) (YP := PySem.W.Hook.says $H) (N := 10500) (d := L2.G.defAt L2.G.rowHd.prog 98) (kwd := []) ?_ (PySem.W.Hook.of $H) (PySem.W.Hook.keeps $H) (fun s e => PySem.W.xl_of s (Bool.and_eq_true_iff.mp e).1) PySem.W.XL.keeps (by kernel_rfl) (by kernel_rfl) (by kernel_rfl) (fun s e => PySem.W.recFacts_of (Bool.and_eq_true_iff.mp e).2) (by rfl) (by first | assumption | decide +kernel) (by decide +kernel) ⟨rfl, rfl, rfl, rfl, rfl, by decide +kernel⟩ ?_ ?_; (focus (refine L2.G.left_km (M := 10400) (by kernel_rfl) (by rfl) (fun s => by kernel_rfl) (by rfl) ?_; intro w os; kernel_rfl)); (focus (apply L2.G.nameHw; exact trivial))))
set_option maxRecDepth 100000 in
set_option maxHeartbeats 0 in
open_top topHd for PySem.Challenge.rw_glimpserounds_k15_letters_refused
set_option maxRecDepth 100000 in
set_option maxHeartbeats 0 in
theorem PySem.Challenge.cw_glimpserounds_k15_letters_refused_holds : PySem.Challenge.rw_glimpserounds_k15_letters_refused.Holds := by
  refine topHd ?_
  k_fill
  refine L2.G.walk_ofGT2 (l := PySem.Challenge.rw_glimpserounds_k15_letters_refused) (n := 63) (k := 15) (x := "_law_script") (K := _) rfl (by decide) (by kernel_rfl) ⟨rfl, by decide, by decide⟩ (fun w h Y => PySem.W.km_in_of Y) ?F
  case F =>
    intro w mg fa h Y KX Gn hmg0 TBL
    have hmg : mg ("law" : PySem.Str) = some (.ref fa) := by
      have e : (L2.G.defAt L2.G.rowHd.prog 98).name = ("law" : PySem.Str) := by kernel_rfl
      rw [← e]
      exact hmg0
    refine' L2.G.all_mk KX Gn hmg TBL ?aC_Record ?aC_NotASign ?aC_NotARecord ?aC_InvalidText ?aC_InvalidPace ?aC_InvalidWidth ?aC_InvalidPlace ?aC_InvalidLength ?aC_InvalidTime ?aC_InvalidWindow ?aC_InvalidName ?aC_InvalidClaim ?aC_InvalidIndex ?aC_InvalidLine ?aC_InvalidDead ?aC_InvalidPaces ?aC_InvalidGroups ?aC_InvalidTimes ?aC_InvalidDeeds ?aC_UnknownName ?aC_InUse ?aC_TooMany ?aC_OtherKind ?aC_Broken ?aC_NothingToUndo ?aC_WrongValue ?aC_WrongName ?aC_NoAnswer ?a0 ?l0 ?c0 ?k0 ?a1 ?l1 ?c1 ?k1 ?a2 ?l2 ?c2 ?k2 ?a3 ?l3 ?c3 ?k3 ?a4 ?l4 ?c4 ?k4 ?a5 ?l5 ?c5 ?k5 ?a6 ?l6 ?c6 ?k6 ?a7 ?l7 ?c7 ?k7 ?a8 ?l8 ?c8 ?k8 ?a9 ?l9 ?c9 ?k9 ?a10 ?l10 ?c10 ?k10 ?a11 ?l11 ?c11 ?k11 ?a12 ?l12 ?c12 ?k12 ?a13 ?l13 ?c13 ?k13 ?a14 ?g14 ?t14 ?r14 ?l14 ?c14 ?k14 ?a15 ?g15 ?t15 ?r15 ?l15 ?c15 ?k15 ?a16 ?l16 ?c16 ?k16 ?a17 ?g17 ?t17 ?r17 ?l17 ?c17 ?k17 ?a18 ?g18 ?t18 ?r18 ?l18 ?c18 ?k18 ?a19 ?g19 ?t19 ?r19 ?l19 ?c19 ?k19 ?a20 ?l20 ?c20 ?k20 ?a21 ?l21 ?c21 ?k21 ?a22 ?l22 ?c22 ?k22 ?a23 ?l23 ?c23 ?k23 ?a24 ?l24 ?c24 ?k24 ?a25 ?g25 ?t25 ?r25 ?l25 ?c25 ?k25 ?a26 ?l26 ?c26 ?k26 ?a27 ?l27 ?c27 ?k27 ?a28 ?l28 ?c28 ?k28 ?a29 ?l29 ?c29 ?k29 ?a30 ?l30 ?c30 ?k30 ?a31 ?l31 ?c31 ?k31 ?a32 ?l32 ?c32 ?k32 ?a33 ?l33 ?c33 ?k33 ?a34 ?l34 ?c34 ?k34 ?a35 ?l35 ?c35 ?k35 ?a36 ?l36 ?c36 ?k36 ?a37 ?l37 ?c37 ?k37 ?a38 ?l38 ?c38 ?k38 ?a39 ?l39 ?c39 ?k39 ?a40 ?l40 ?c40 ?k40 ?a41 ?l41 ?c41 ?k41 ?a42 ?l42 ?c42 ?k42 ?a43 ?l43 ?c43 ?k43 ?a44 ?l44 ?c44 ?k44 ?a45 ?l45 ?c45 ?k45 ?a46 ?i46 ?d46_0 ?t46_0 ?d46_1 ?d46_2 ?d46_3 ?t46_3 ?d46_4 ?t46_4 ?l46 ?c46 ?k46 ?a47 ?l47 ?c47 ?k47 ?a48 ?g48 ?t48 ?r48 ?l48 ?c48 ?k48 ?a49 ?l49 ?c49 ?k49 ?a50 ?g50 ?t50 ?r50 ?l50 ?c50 ?k50 ?a51 ?i51 ?l51 ?c51 ?k51 ?a52 ?l52 ?c52 ?k52 ?cl52 ?cv52 ?tn52 ?rc52 ?a53 ?l53 ?c53 ?k53 ?cl53 ?cv53 ?tn53 ?rc53 ?a54 ?i54 ?l54 ?c54 ?k54 ?a55 ?i55 ?l55 ?c55 ?k55 ?a56 ?i56 ?l56 ?c56 ?k56 ?a57 ?i57 ?l57 ?c57 ?k57 ?a58 ?i58 ?l58 ?c58 ?k58 ?a59 ?i59 ?l59 ?c59 ?k59 ?a60 ?i60 ?l60 ?c60 ?k60 ?a61 ?i61 ?l61 ?c61 ?k61 ?a62 ?i62 ?l62 ?c62 ?k62 ?pg_Record ?hd_Record ?po_Record ?sa_Record ?mk_Record ?kc_Record ?cA_Record ?cM_Record ?cn_Record ?ty_Record ?nf0_Record ?nf1_Record ?nf2_Record ?nf3_Record ?nf4_Record ?nf5_Record ?nf6_Record ?kt0_Record ?kt1_Record ?kt2_Record ?kt3_Record ?hd_NotASign ?ty_NotASign ?hd_NotARecord ?ty_NotARecord ?hd_InvalidText ?ty_InvalidText ?hd_InvalidPace ?ty_InvalidPace ?hd_InvalidWidth ?ty_InvalidWidth ?hd_InvalidPlace ?ty_InvalidPlace ?hd_InvalidLength ?ty_InvalidLength ?hd_InvalidTime ?ty_InvalidTime ?hd_InvalidWindow ?ty_InvalidWindow ?hd_InvalidName ?ty_InvalidName ?hd_InvalidClaim ?ty_InvalidClaim ?hd_InvalidIndex ?ty_InvalidIndex ?hd_InvalidLine ?ty_InvalidLine ?hd_InvalidDead ?ty_InvalidDead ?hd_InvalidPaces ?ty_InvalidPaces ?hd_InvalidGroups ?ty_InvalidGroups ?hd_InvalidTimes ?ty_InvalidTimes ?hd_InvalidDeeds ?ty_InvalidDeeds ?hd_UnknownName ?ty_UnknownName ?hd_InUse ?ty_InUse ?hd_TooMany ?ty_TooMany ?hd_OtherKind ?ty_OtherKind ?hd_Broken ?ty_Broken ?hd_NothingToUndo ?ty_NothingToUndo ?hd_WrongValue ?ty_WrongValue ?hd_WrongName ?ty_WrongName ?hd_NoAnswer ?ty_NoAnswer ?xL_InvalidDead ?sa_InvalidDead ?sb_InvalidDead ?kc_InvalidDead ?no_InvalidDead ?ga_InvalidDead ?gg_InvalidDead ?cA_InvalidDead ?cM_InvalidDead ?kk_InvalidDead_NotASign ?kn_InvalidDead_NotASign ?kk_InvalidDead_NotARecord ?kn_InvalidDead_NotARecord ?kk_InvalidDead_InvalidText ?kn_InvalidDead_InvalidText ?kk_InvalidDead_InvalidPace ?kn_InvalidDead_InvalidPace ?kk_InvalidDead_InvalidWidth ?kn_InvalidDead_InvalidWidth ?kk_InvalidDead_InvalidPlace ?kn_InvalidDead_InvalidPlace ?kk_InvalidDead_InvalidLength ?kn_InvalidDead_InvalidLength ?kk_InvalidDead_InvalidTime ?kn_InvalidDead_InvalidTime ?kk_InvalidDead_InvalidWindow ?kn_InvalidDead_InvalidWindow ?kk_InvalidDead_InvalidName ?kn_InvalidDead_InvalidName ?kk_InvalidDead_InvalidClaim ?kn_InvalidDead_InvalidClaim ?kk_InvalidDead_InvalidIndex ?kn_InvalidDead_InvalidIndex ?kk_InvalidDead_InvalidLine ?kn_InvalidDead_InvalidLine ?kk_InvalidDead_InvalidPaces ?kn_InvalidDead_InvalidPaces ?kk_InvalidDead_InvalidGroups ?kn_InvalidDead_InvalidGroups ?kk_InvalidDead_InvalidTimes ?kn_InvalidDead_InvalidTimes ?kk_InvalidDead_InvalidDeeds ?kn_InvalidDead_InvalidDeeds ?kk_InvalidDead_UnknownName ?kn_InvalidDead_UnknownName ?kk_InvalidDead_InUse ?kn_InvalidDead_InUse ?kk_InvalidDead_TooMany ?kn_InvalidDead_TooMany ?kk_InvalidDead_OtherKind ?kn_InvalidDead_OtherKind ?kk_InvalidDead_Broken ?kn_InvalidDead_Broken ?kk_InvalidDead_NothingToUndo ?kn_InvalidDead_NothingToUndo ?kk_InvalidDead_WrongValue ?kk_InvalidDead_WrongName ?kn_InvalidDead_WrongName ?kk_InvalidDead_NoAnswer ?kn_InvalidDead_NoAnswer ?kt_InvalidDead_ValueError ?kt_InvalidDead_LookupError ?kt_InvalidDead_ArithmeticError ?xL_InvalidGroups ?sa_InvalidGroups ?sb_InvalidGroups ?kc_InvalidGroups ?no_InvalidGroups ?ga_InvalidGroups ?gg_InvalidGroups ?cA_InvalidGroups ?cM_InvalidGroups ?kk_InvalidGroups_NotASign ?kn_InvalidGroups_NotASign ?kk_InvalidGroups_NotARecord ?kn_InvalidGroups_NotARecord ?kk_InvalidGroups_InvalidText ?kn_InvalidGroups_InvalidText ?kk_InvalidGroups_InvalidPace ?kn_InvalidGroups_InvalidPace ?kk_InvalidGroups_InvalidWidth ?kn_InvalidGroups_InvalidWidth ?kk_InvalidGroups_InvalidPlace ?kn_InvalidGroups_InvalidPlace ?kk_InvalidGroups_InvalidLength ?kn_InvalidGroups_InvalidLength ?kk_InvalidGroups_InvalidTime ?kn_InvalidGroups_InvalidTime ?kk_InvalidGroups_InvalidWindow ?kn_InvalidGroups_InvalidWindow ?kk_InvalidGroups_InvalidName ?kn_InvalidGroups_InvalidName ?kk_InvalidGroups_InvalidClaim ?kn_InvalidGroups_InvalidClaim ?kk_InvalidGroups_InvalidIndex ?kn_InvalidGroups_InvalidIndex ?kk_InvalidGroups_InvalidLine ?kn_InvalidGroups_InvalidLine ?kk_InvalidGroups_InvalidDead ?kn_InvalidGroups_InvalidDead ?kk_InvalidGroups_InvalidPaces ?kn_InvalidGroups_InvalidPaces ?kk_InvalidGroups_InvalidTimes ?kn_InvalidGroups_InvalidTimes ?kk_InvalidGroups_InvalidDeeds ?kn_InvalidGroups_InvalidDeeds ?kk_InvalidGroups_UnknownName ?kn_InvalidGroups_UnknownName ?kk_InvalidGroups_InUse ?kn_InvalidGroups_InUse ?kk_InvalidGroups_TooMany ?kn_InvalidGroups_TooMany ?kk_InvalidGroups_OtherKind ?kn_InvalidGroups_OtherKind ?kk_InvalidGroups_Broken ?kn_InvalidGroups_Broken ?kk_InvalidGroups_NothingToUndo ?kn_InvalidGroups_NothingToUndo ?kk_InvalidGroups_WrongValue ?kk_InvalidGroups_WrongName ?kn_InvalidGroups_WrongName ?kk_InvalidGroups_NoAnswer ?kn_InvalidGroups_NoAnswer ?kt_InvalidGroups_ValueError ?kt_InvalidGroups_LookupError ?kt_InvalidGroups_ArithmeticError ?xL_InvalidLength ?sa_InvalidLength ?sb_InvalidLength ?kc_InvalidLength ?no_InvalidLength ?ga_InvalidLength ?gg_InvalidLength ?cA_InvalidLength ?cM_InvalidLength ?kk_InvalidLength_NotASign ?kn_InvalidLength_NotASign ?kk_InvalidLength_NotARecord ?kn_InvalidLength_NotARecord ?kk_InvalidLength_InvalidText ?kn_InvalidLength_InvalidText ?kk_InvalidLength_InvalidPace ?kn_InvalidLength_InvalidPace ?kk_InvalidLength_InvalidWidth ?kn_InvalidLength_InvalidWidth ?kk_InvalidLength_InvalidPlace ?kn_InvalidLength_InvalidPlace ?kk_InvalidLength_InvalidTime ?kn_InvalidLength_InvalidTime ?kk_InvalidLength_InvalidWindow ?kn_InvalidLength_InvalidWindow ?kk_InvalidLength_InvalidName ?kn_InvalidLength_InvalidName ?kk_InvalidLength_InvalidClaim ?kn_InvalidLength_InvalidClaim ?kk_InvalidLength_InvalidIndex ?kn_InvalidLength_InvalidIndex ?kk_InvalidLength_InvalidLine ?kn_InvalidLength_InvalidLine ?kk_InvalidLength_InvalidDead ?kn_InvalidLength_InvalidDead ?kk_InvalidLength_InvalidPaces ?kn_InvalidLength_InvalidPaces ?kk_InvalidLength_InvalidGroups ?kn_InvalidLength_InvalidGroups ?kk_InvalidLength_InvalidTimes ?kn_InvalidLength_InvalidTimes ?kk_InvalidLength_InvalidDeeds ?kn_InvalidLength_InvalidDeeds ?kk_InvalidLength_UnknownName ?kn_InvalidLength_UnknownName ?kk_InvalidLength_InUse ?kn_InvalidLength_InUse ?kk_InvalidLength_TooMany ?kn_InvalidLength_TooMany ?kk_InvalidLength_OtherKind ?kn_InvalidLength_OtherKind ?kk_InvalidLength_Broken ?kn_InvalidLength_Broken ?kk_InvalidLength_NothingToUndo ?kn_InvalidLength_NothingToUndo ?kk_InvalidLength_WrongValue ?kk_InvalidLength_WrongName ?kn_InvalidLength_WrongName ?kk_InvalidLength_NoAnswer ?kn_InvalidLength_NoAnswer ?kt_InvalidLength_ValueError ?kt_InvalidLength_LookupError ?kt_InvalidLength_ArithmeticError ?xL_InvalidPaces ?sa_InvalidPaces ?sb_InvalidPaces ?kc_InvalidPaces ?no_InvalidPaces ?ga_InvalidPaces ?gg_InvalidPaces ?cA_InvalidPaces ?cM_InvalidPaces ?kk_InvalidPaces_NotASign ?kn_InvalidPaces_NotASign ?kk_InvalidPaces_NotARecord ?kn_InvalidPaces_NotARecord ?kk_InvalidPaces_InvalidText ?kn_InvalidPaces_InvalidText ?kk_InvalidPaces_InvalidPace ?kn_InvalidPaces_InvalidPace ?kk_InvalidPaces_InvalidWidth ?kn_InvalidPaces_InvalidWidth ?kk_InvalidPaces_InvalidPlace ?kn_InvalidPaces_InvalidPlace ?kk_InvalidPaces_InvalidLength ?kn_InvalidPaces_InvalidLength ?kk_InvalidPaces_InvalidTime ?kn_InvalidPaces_InvalidTime ?kk_InvalidPaces_InvalidWindow ?kn_InvalidPaces_InvalidWindow ?kk_InvalidPaces_InvalidName ?kn_InvalidPaces_InvalidName ?kk_InvalidPaces_InvalidClaim ?kn_InvalidPaces_InvalidClaim ?kk_InvalidPaces_InvalidIndex ?kn_InvalidPaces_InvalidIndex ?kk_InvalidPaces_InvalidLine ?kn_InvalidPaces_InvalidLine ?kk_InvalidPaces_InvalidDead ?kn_InvalidPaces_InvalidDead ?kk_InvalidPaces_InvalidGroups ?kn_InvalidPaces_InvalidGroups ?kk_InvalidPaces_InvalidTimes ?kn_InvalidPaces_InvalidTimes ?kk_InvalidPaces_InvalidDeeds ?kn_InvalidPaces_InvalidDeeds ?kk_InvalidPaces_UnknownName ?kn_InvalidPaces_UnknownName ?kk_InvalidPaces_InUse ?kn_InvalidPaces_InUse ?kk_InvalidPaces_TooMany ?kn_InvalidPaces_TooMany ?kk_InvalidPaces_OtherKind ?kn_InvalidPaces_OtherKind ?kk_InvalidPaces_Broken ?kn_InvalidPaces_Broken ?kk_InvalidPaces_NothingToUndo ?kn_InvalidPaces_NothingToUndo ?kk_InvalidPaces_WrongValue ?kk_InvalidPaces_WrongName ?kn_InvalidPaces_WrongName ?kk_InvalidPaces_NoAnswer ?kn_InvalidPaces_NoAnswer ?kt_InvalidPaces_ValueError ?kt_InvalidPaces_LookupError ?kt_InvalidPaces_ArithmeticError ?xL_InvalidPlace ?sa_InvalidPlace ?sb_InvalidPlace ?kc_InvalidPlace ?no_InvalidPlace ?ga_InvalidPlace ?gg_InvalidPlace ?cA_InvalidPlace ?cM_InvalidPlace ?kk_InvalidPlace_NotASign ?kn_InvalidPlace_NotASign ?kk_InvalidPlace_NotARecord ?kn_InvalidPlace_NotARecord ?kk_InvalidPlace_InvalidText ?kn_InvalidPlace_InvalidText ?kk_InvalidPlace_InvalidPace ?kn_InvalidPlace_InvalidPace ?kk_InvalidPlace_InvalidWidth ?kn_InvalidPlace_InvalidWidth ?kk_InvalidPlace_InvalidLength ?kn_InvalidPlace_InvalidLength ?kk_InvalidPlace_InvalidTime ?kn_InvalidPlace_InvalidTime ?kk_InvalidPlace_InvalidWindow ?kn_InvalidPlace_InvalidWindow ?kk_InvalidPlace_InvalidName ?kn_InvalidPlace_InvalidName ?kk_InvalidPlace_InvalidClaim ?kn_InvalidPlace_InvalidClaim ?kk_InvalidPlace_InvalidIndex ?kn_InvalidPlace_InvalidIndex ?kk_InvalidPlace_InvalidLine ?kn_InvalidPlace_InvalidLine ?kk_InvalidPlace_InvalidDead ?kn_InvalidPlace_InvalidDead ?kk_InvalidPlace_InvalidPaces ?kn_InvalidPlace_InvalidPaces ?kk_InvalidPlace_InvalidGroups ?kn_InvalidPlace_InvalidGroups ?kk_InvalidPlace_InvalidTimes ?kn_InvalidPlace_InvalidTimes ?kk_InvalidPlace_InvalidDeeds ?kn_InvalidPlace_InvalidDeeds ?kk_InvalidPlace_UnknownName ?kn_InvalidPlace_UnknownName ?kk_InvalidPlace_InUse ?kn_InvalidPlace_InUse ?kk_InvalidPlace_TooMany ?kn_InvalidPlace_TooMany ?kk_InvalidPlace_OtherKind ?kn_InvalidPlace_OtherKind ?kk_InvalidPlace_Broken ?kn_InvalidPlace_Broken ?kk_InvalidPlace_NothingToUndo ?kn_InvalidPlace_NothingToUndo ?kk_InvalidPlace_WrongValue ?kk_InvalidPlace_WrongName ?kn_InvalidPlace_WrongName ?kk_InvalidPlace_NoAnswer ?kn_InvalidPlace_NoAnswer ?kt_InvalidPlace_ValueError ?kt_InvalidPlace_LookupError ?kt_InvalidPlace_ArithmeticError ?xL_InvalidTime ?sa_InvalidTime ?sb_InvalidTime ?kc_InvalidTime ?no_InvalidTime ?ga_InvalidTime ?gg_InvalidTime ?cA_InvalidTime ?cM_InvalidTime ?kk_InvalidTime_NotASign ?kn_InvalidTime_NotASign ?kk_InvalidTime_NotARecord ?kn_InvalidTime_NotARecord ?kk_InvalidTime_InvalidText ?kn_InvalidTime_InvalidText ?kk_InvalidTime_InvalidPace ?kn_InvalidTime_InvalidPace ?kk_InvalidTime_InvalidWidth ?kn_InvalidTime_InvalidWidth ?kk_InvalidTime_InvalidPlace ?kn_InvalidTime_InvalidPlace ?kk_InvalidTime_InvalidLength ?kn_InvalidTime_InvalidLength ?kk_InvalidTime_InvalidWindow ?kn_InvalidTime_InvalidWindow ?kk_InvalidTime_InvalidName ?kn_InvalidTime_InvalidName ?kk_InvalidTime_InvalidClaim ?kn_InvalidTime_InvalidClaim ?kk_InvalidTime_InvalidIndex ?kn_InvalidTime_InvalidIndex ?kk_InvalidTime_InvalidLine ?kn_InvalidTime_InvalidLine ?kk_InvalidTime_InvalidDead ?kn_InvalidTime_InvalidDead ?kk_InvalidTime_InvalidPaces ?kn_InvalidTime_InvalidPaces ?kk_InvalidTime_InvalidGroups ?kn_InvalidTime_InvalidGroups ?kk_InvalidTime_InvalidTimes ?kn_InvalidTime_InvalidTimes ?kk_InvalidTime_InvalidDeeds ?kn_InvalidTime_InvalidDeeds ?kk_InvalidTime_UnknownName ?kn_InvalidTime_UnknownName ?kk_InvalidTime_InUse ?kn_InvalidTime_InUse ?kk_InvalidTime_TooMany ?kn_InvalidTime_TooMany ?kk_InvalidTime_OtherKind ?kn_InvalidTime_OtherKind ?kk_InvalidTime_Broken ?kn_InvalidTime_Broken ?kk_InvalidTime_NothingToUndo ?kn_InvalidTime_NothingToUndo ?kk_InvalidTime_WrongValue ?kk_InvalidTime_WrongName ?kn_InvalidTime_WrongName ?kk_InvalidTime_NoAnswer ?kn_InvalidTime_NoAnswer ?kt_InvalidTime_ValueError ?kt_InvalidTime_LookupError ?kt_InvalidTime_ArithmeticError ?xL_InvalidWidth ?sa_InvalidWidth ?sb_InvalidWidth ?kc_InvalidWidth ?no_InvalidWidth ?ga_InvalidWidth ?gg_InvalidWidth ?cA_InvalidWidth ?cM_InvalidWidth ?kk_InvalidWidth_NotASign ?kn_InvalidWidth_NotASign ?kk_InvalidWidth_NotARecord ?kn_InvalidWidth_NotARecord ?kk_InvalidWidth_InvalidText ?kn_InvalidWidth_InvalidText ?kk_InvalidWidth_InvalidPace ?kn_InvalidWidth_InvalidPace ?kk_InvalidWidth_InvalidPlace ?kn_InvalidWidth_InvalidPlace ?kk_InvalidWidth_InvalidLength ?kn_InvalidWidth_InvalidLength ?kk_InvalidWidth_InvalidTime ?kn_InvalidWidth_InvalidTime ?kk_InvalidWidth_InvalidWindow ?kn_InvalidWidth_InvalidWindow ?kk_InvalidWidth_InvalidName ?kn_InvalidWidth_InvalidName ?kk_InvalidWidth_InvalidClaim ?kn_InvalidWidth_InvalidClaim ?kk_InvalidWidth_InvalidIndex ?kn_InvalidWidth_InvalidIndex ?kk_InvalidWidth_InvalidLine ?kn_InvalidWidth_InvalidLine ?kk_InvalidWidth_InvalidDead ?kn_InvalidWidth_InvalidDead ?kk_InvalidWidth_InvalidPaces ?kn_InvalidWidth_InvalidPaces ?kk_InvalidWidth_InvalidGroups ?kn_InvalidWidth_InvalidGroups ?kk_InvalidWidth_InvalidTimes ?kn_InvalidWidth_InvalidTimes ?kk_InvalidWidth_InvalidDeeds ?kn_InvalidWidth_InvalidDeeds ?kk_InvalidWidth_UnknownName ?kn_InvalidWidth_UnknownName ?kk_InvalidWidth_InUse ?kn_InvalidWidth_InUse ?kk_InvalidWidth_TooMany ?kn_InvalidWidth_TooMany ?kk_InvalidWidth_OtherKind ?kn_InvalidWidth_OtherKind ?kk_InvalidWidth_Broken ?kn_InvalidWidth_Broken ?kk_InvalidWidth_NothingToUndo ?kn_InvalidWidth_NothingToUndo ?kk_InvalidWidth_WrongValue ?kk_InvalidWidth_WrongName ?kn_InvalidWidth_WrongName ?kk_InvalidWidth_NoAnswer ?kn_InvalidWidth_NoAnswer ?kt_InvalidWidth_ValueError ?kt_InvalidWidth_LookupError ?kt_InvalidWidth_ArithmeticError ?xL_InvalidWindow ?sa_InvalidWindow ?sb_InvalidWindow ?kc_InvalidWindow ?no_InvalidWindow ?ga_InvalidWindow ?gg_InvalidWindow ?cA_InvalidWindow ?cM_InvalidWindow ?kk_InvalidWindow_NotASign ?kn_InvalidWindow_NotASign ?kk_InvalidWindow_NotARecord ?kn_InvalidWindow_NotARecord ?kk_InvalidWindow_InvalidText ?kn_InvalidWindow_InvalidText ?kk_InvalidWindow_InvalidPace ?kn_InvalidWindow_InvalidPace ?kk_InvalidWindow_InvalidWidth ?kn_InvalidWindow_InvalidWidth ?kk_InvalidWindow_InvalidPlace ?kn_InvalidWindow_InvalidPlace ?kk_InvalidWindow_InvalidLength ?kn_InvalidWindow_InvalidLength ?kk_InvalidWindow_InvalidTime ?kn_InvalidWindow_InvalidTime ?kk_InvalidWindow_InvalidName ?kn_InvalidWindow_InvalidName ?kk_InvalidWindow_InvalidClaim ?kn_InvalidWindow_InvalidClaim ?kk_InvalidWindow_InvalidIndex ?kn_InvalidWindow_InvalidIndex ?kk_InvalidWindow_InvalidLine ?kn_InvalidWindow_InvalidLine ?kk_InvalidWindow_InvalidDead ?kn_InvalidWindow_InvalidDead ?kk_InvalidWindow_InvalidPaces ?kn_InvalidWindow_InvalidPaces ?kk_InvalidWindow_InvalidGroups ?kn_InvalidWindow_InvalidGroups ?kk_InvalidWindow_InvalidTimes ?kn_InvalidWindow_InvalidTimes ?kk_InvalidWindow_InvalidDeeds ?kn_InvalidWindow_InvalidDeeds ?kk_InvalidWindow_UnknownName ?kn_InvalidWindow_UnknownName ?kk_InvalidWindow_InUse ?kn_InvalidWindow_InUse ?kk_InvalidWindow_TooMany ?kn_InvalidWindow_TooMany ?kk_InvalidWindow_OtherKind ?kn_InvalidWindow_OtherKind ?kk_InvalidWindow_Broken ?kn_InvalidWindow_Broken ?kk_InvalidWindow_NothingToUndo ?kn_InvalidWindow_NothingToUndo ?kk_InvalidWindow_WrongValue ?kk_InvalidWindow_WrongName ?kn_InvalidWindow_WrongName ?kk_InvalidWindow_NoAnswer ?kn_InvalidWindow_NoAnswer ?kt_InvalidWindow_ValueError ?kt_InvalidWindow_LookupError ?kt_InvalidWindow_ArithmeticError ?xL_NotARecord ?sa_NotARecord ?sb_NotARecord ?kc_NotARecord ?no_NotARecord ?ga_NotARecord ?gg_NotARecord ?cA_NotARecord ?cM_NotARecord ?kk_NotARecord_NotASign ?kn_NotARecord_NotASign ?kk_NotARecord_InvalidText ?kn_NotARecord_InvalidText ?kk_NotARecord_InvalidPace ?kn_NotARecord_InvalidPace ?kk_NotARecord_InvalidWidth ?kn_NotARecord_InvalidWidth ?kk_NotARecord_InvalidPlace ?kn_NotARecord_InvalidPlace ?kk_NotARecord_InvalidLength ?kn_NotARecord_InvalidLength ?kk_NotARecord_InvalidTime ?kn_NotARecord_InvalidTime ?kk_NotARecord_InvalidWindow ?kn_NotARecord_InvalidWindow ?kk_NotARecord_InvalidName ?kn_NotARecord_InvalidName ?kk_NotARecord_InvalidClaim ?kn_NotARecord_InvalidClaim ?kk_NotARecord_InvalidIndex ?kn_NotARecord_InvalidIndex ?kk_NotARecord_InvalidLine ?kn_NotARecord_InvalidLine ?kk_NotARecord_InvalidDead ?kn_NotARecord_InvalidDead ?kk_NotARecord_InvalidPaces ?kn_NotARecord_InvalidPaces ?kk_NotARecord_InvalidGroups ?kn_NotARecord_InvalidGroups ?kk_NotARecord_InvalidTimes ?kn_NotARecord_InvalidTimes ?kk_NotARecord_InvalidDeeds ?kn_NotARecord_InvalidDeeds ?kk_NotARecord_UnknownName ?kn_NotARecord_UnknownName ?kk_NotARecord_InUse ?kn_NotARecord_InUse ?kk_NotARecord_TooMany ?kn_NotARecord_TooMany ?kk_NotARecord_OtherKind ?kn_NotARecord_OtherKind ?kk_NotARecord_Broken ?kn_NotARecord_Broken ?kk_NotARecord_NothingToUndo ?kn_NotARecord_NothingToUndo ?kk_NotARecord_WrongValue ?kk_NotARecord_WrongName ?kn_NotARecord_WrongName ?kk_NotARecord_NoAnswer ?kn_NotARecord_NoAnswer ?kt_NotARecord_ValueError ?kt_NotARecord_LookupError ?kt_NotARecord_ArithmeticError ?sb_WrongValue ?sb_WrongName ?sb_NoAnswer ?nn_Record_kept ?xg ?xt ?w0 ?w1 ?w2 ?w3 ?w4 ?w5 ?w6 ?w7 ?w8 ?z0 ?z1 ?z2 ?z3 ?z4 ?z5 ?z6 ?z7 ?z8 ?z9 ?z10 ?z11 ?z12 ?z13 ?z14 ?z15 ?z16 ?z17 ?z18 ?zz_ValueError ?zz_LookupError ?zz_ArithmeticError ?pn53_52 ?pn52_53
    (case aC_Record => k_is)
    (case aC_NotASign => k_is)
    (case aC_NotARecord => k_is)
    (case aC_InvalidText => k_is)
    (case aC_InvalidPace => k_is)
    (case aC_InvalidWidth => k_is)
    (case aC_InvalidPlace => k_is)
    (case aC_InvalidLength => k_is)
    (case aC_InvalidTime => k_is)
    (case aC_InvalidWindow => k_is)
    (case aC_InvalidName => k_is)
    (case aC_InvalidClaim => k_is)
    (case aC_InvalidIndex => k_is)
    (case aC_InvalidLine => k_is)
    (case aC_InvalidDead => k_is)
    (case aC_InvalidPaces => k_is)
    (case aC_InvalidGroups => k_is)
    (case aC_InvalidTimes => k_is)
    (case aC_InvalidDeeds => k_is)
    (case aC_UnknownName => k_is)
    (case aC_InUse => k_is)
    (case aC_TooMany => k_is)
    (case aC_OtherKind => k_is)
    (case aC_Broken => k_is)
    (case aC_NothingToUndo => k_is)
    (case aC_WrongValue => k_is)
    (case aC_WrongName => k_is)
    (case aC_NoAnswer => k_is)
    (case a0 => k_is)
    (case l0 => k_is)
    (case c0 => k_is)
    (case k0 => k_is)
    (case a1 => k_is)
    (case l1 => k_is)
    (case c1 => k_is)
    (case k1 => k_is)
    (case a2 => k_is)
    (case l2 => k_is)
    (case c2 => k_is)
    (case k2 => k_is)
    (case a3 => k_is)
    (case l3 => k_is)
    (case c3 => k_is)
    (case k3 => k_is)
    (case a4 => k_is)
    (case l4 => k_is)
    (case c4 => k_is)
    (case k4 => k_is)
    (case a5 => k_is)
    (case l5 => k_is)
    (case c5 => k_is)
    (case k5 => k_is)
    (case a6 => k_is)
    (case l6 => k_is)
    (case c6 => k_is)
    (case k6 => k_is)
    (case a7 => k_is)
    (case l7 => k_is)
    (case c7 => k_is)
    (case k7 => k_is)
    (case a8 => k_is)
    (case l8 => k_is)
    (case c8 => k_is)
    (case k8 => k_is)
    (case a9 => k_is)
    (case l9 => k_is)
    (case c9 => k_is)
    (case k9 => k_is)
    (case a10 => k_is)
    (case l10 => k_is)
    (case c10 => k_is)
    (case k10 => k_is)
    (case a11 => k_is)
    (case l11 => k_is)
    (case c11 => k_is)
    (case k11 => k_is)
    (case a12 => k_is)
    (case l12 => k_is)
    (case c12 => k_is)
    (case k12 => k_is)
    (case a13 => k_is)
    (case l13 => k_is)
    (case c13 => k_is)
    (case k13 => k_is)
    (case a14 => k_is)
    (case g14 => k_is)
    (case t14 => k_is)
    (case r14 => k_is)
    (case l14 => k_is)
    (case c14 => k_is)
    (case k14 => k_is)
    (case a15 => k_is)
    (case g15 => k_is)
    (case t15 => k_is)
    (case r15 => k_is)
    (case l15 => k_is)
    (case c15 => k_is)
    (case k15 => k_is)
    (case a16 => k_is)
    (case l16 => k_is)
    (case c16 => k_is)
    (case k16 => k_is)
    (case a17 => k_is)
    (case g17 => k_is)
    (case t17 => k_is)
    (case r17 => k_is)
    (case l17 => k_is)
    (case c17 => k_is)
    (case k17 => k_is)
    (case a18 => k_is)
    (case g18 => k_is)
    (case t18 => k_is)
    (case r18 => k_is)
    (case l18 => k_is)
    (case c18 => k_is)
    (case k18 => k_is)
    (case a19 => k_is)
    (case g19 => k_is)
    (case t19 => k_is)
    (case r19 => k_is)
    (case l19 => k_is)
    (case c19 => k_is)
    (case k19 => k_is)
    (case a20 => k_is)
    (case l20 => k_is)
    (case c20 => k_is)
    (case k20 => k_is)
    (case a21 => k_is)
    (case l21 => k_is)
    (case c21 => k_is)
    (case k21 => k_is)
    (case a22 => k_is)
    (case l22 => k_is)
    (case c22 => k_is)
    (case k22 => k_is)
    (case a23 => k_is)
    (case l23 => k_is)
    (case c23 => k_is)
    (case k23 => k_is)
    (case a24 => k_is)
    (case l24 => k_is)
    (case c24 => k_is)
    (case k24 => k_is)
    (case a25 => k_is)
    (case g25 => k_is)
    (case t25 => k_is)
    (case r25 => k_is)
    (case l25 => k_is)
    (case c25 => k_is)
    (case k25 => k_is)
    (case a26 => k_is)
    (case l26 => k_is)
    (case c26 => k_is)
    (case k26 => k_is)
    (case a27 => k_is)
    (case l27 => k_is)
    (case c27 => k_is)
    (case k27 => k_is)
    (case a28 => k_is)
    (case l28 => k_is)
    (case c28 => k_is)
    (case k28 => k_is)
    (case a29 => k_is)
    (case l29 => k_is)
    (case c29 => k_is)
    (case k29 => k_is)
    (case a30 => k_is)
    (case l30 => k_is)
    (case c30 => k_is)
    (case k30 => k_is)
    (case a31 => k_is)
    (case l31 => k_is)
    (case c31 => k_is)
    (case k31 => k_is)
    (case a32 => k_is)
    (case l32 => k_is)
    (case c32 => k_is)
    (case k32 => k_is)
    (case a33 => k_is)
    (case l33 => k_is)
    (case c33 => k_is)
    (case k33 => k_is)
    (case a34 => k_is)
    (case l34 => k_is)
    (case c34 => k_is)
    (case k34 => k_is)
    (case a35 => k_is)
    (case l35 => k_is)
    (case c35 => k_is)
    (case k35 => k_is)
    (case a36 => k_is)
    (case l36 => k_is)
    (case c36 => k_is)
    (case k36 => k_is)
    (case a37 => k_is)
    (case l37 => k_is)
    (case c37 => k_is)
    (case k37 => k_is)
    (case a38 => k_is)
    (case l38 => k_is)
    (case c38 => k_is)
    (case k38 => k_is)
    (case a39 => k_is)
    (case l39 => k_is)
    (case c39 => k_is)
    (case k39 => k_is)
    (case a40 => k_is)
    (case l40 => k_is)
    (case c40 => k_is)
    (case k40 => k_is)
    (case a41 => k_is)
    (case l41 => k_is)
    (case c41 => k_is)
    (case k41 => k_is)
    (case a42 => k_is)
    (case l42 => k_is)
    (case c42 => k_is)
    (case k42 => k_is)
    (case a43 => k_is)
    (case l43 => k_is)
    (case c43 => k_is)
    (case k43 => k_is)
    (case a44 => k_is)
    (case l44 => k_is)
    (case c44 => k_is)
    (case k44 => k_is)
    (case a45 => k_is)
    (case l45 => k_is)
    (case c45 => k_is)
    (case k45 => k_is)
    (case a46 => k_is)
    (case i46 => k_is)
    (case l46 => k_is)
    (case c46 => k_is)
    (case k46 => k_is)
    (case a47 => k_is)
    (case l47 => k_is)
    (case c47 => k_is)
    (case k47 => k_is)
    (case a48 => k_is)
    (case g48 => k_is)
    (case t48 => k_is)
    (case r48 => k_is)
    (case l48 => k_is)
    (case c48 => k_is)
    (case k48 => k_is)
    (case a49 => k_is)
    (case l49 => k_is)
    (case c49 => k_is)
    (case k49 => k_is)
    (case a50 => k_is)
    (case g50 => k_is)
    (case t50 => k_is)
    (case r50 => k_is)
    (case l50 => k_is)
    (case c50 => k_is)
    (case k50 => k_is)
    (case a51 => k_is)
    (case i51 => k_is)
    (case l51 => k_is)
    (case c51 => k_is)
    (case k51 => k_is)
    (case a52 => k_is)
    (case l52 => k_is)
    (case c52 => k_is)
    (case k52 => k_is)
    (case a53 => k_is)
    (case l53 => k_is)
    (case c53 => k_is)
    (case k53 => k_is)
    (case a54 => k_is)
    (case i54 => k_is)
    (case l54 => k_is)
    (case c54 => k_is)
    (case k54 => k_is)
    (case a55 => k_is)
    (case i55 => k_is)
    (case l55 => k_is)
    (case c55 => k_is)
    (case k55 => k_is)
    (case a56 => k_is)
    (case i56 => k_is)
    (case l56 => k_is)
    (case c56 => k_is)
    (case k56 => k_is)
    (case a57 => k_is)
    (case i57 => k_is)
    (case l57 => k_is)
    (case c57 => k_is)
    (case k57 => k_is)
    (case a58 => k_is)
    (case i58 => k_is)
    (case l58 => k_is)
    (case c58 => k_is)
    (case k58 => k_is)
    (case a59 => k_is)
    (case i59 => k_is)
    (case l59 => k_is)
    (case c59 => k_is)
    (case k59 => k_is)
    (case a60 => k_is)
    (case i60 => k_is)
    (case l60 => k_is)
    (case c60 => k_is)
    (case k60 => k_is)
    (case a61 => k_is)
    (case i61 => k_is)
    (case l61 => k_is)
    (case c61 => k_is)
    (case k61 => k_is)
    (case a62 => k_is)
    (case i62 => k_is)
    (case l62 => k_is)
    (case c62 => k_is)
    (case k62 => k_is)
    (case pg_Record => k_is)
    (case hd_Record => k_is)
    (case po_Record => k_is)
    (case sa_Record => k_is)
    (case mk_Record => k_is)
    (case kc_Record => k_is)
    (case cA_Record => k_is)
    (case cM_Record => k_is)
    (case cn_Record => k_is)
    (case ty_Record => k_is)
    (case nf0_Record => k_is)
    (case nf1_Record => k_is)
    (case nf2_Record => k_is)
    (case nf3_Record => k_is)
    (case nf4_Record => k_is)
    (case nf5_Record => k_is)
    (case nf6_Record => k_is)
    (case kt0_Record => k_is)
    (case kt1_Record => k_is)
    (case kt2_Record => k_is)
    (case kt3_Record => k_is)
    (case hd_NotASign => k_is)
    (case ty_NotASign => k_is)
    (case hd_NotARecord => k_is)
    (case ty_NotARecord => k_is)
    (case hd_InvalidText => k_is)
    (case ty_InvalidText => k_is)
    (case hd_InvalidPace => k_is)
    (case ty_InvalidPace => k_is)
    (case hd_InvalidWidth => k_is)
    (case ty_InvalidWidth => k_is)
    (case hd_InvalidPlace => k_is)
    (case ty_InvalidPlace => k_is)
    (case hd_InvalidLength => k_is)
    (case ty_InvalidLength => k_is)
    (case hd_InvalidTime => k_is)
    (case ty_InvalidTime => k_is)
    (case hd_InvalidWindow => k_is)
    (case ty_InvalidWindow => k_is)
    (case hd_InvalidName => k_is)
    (case ty_InvalidName => k_is)
    (case hd_InvalidClaim => k_is)
    (case ty_InvalidClaim => k_is)
    (case hd_InvalidIndex => k_is)
    (case ty_InvalidIndex => k_is)
    (case hd_InvalidLine => k_is)
    (case ty_InvalidLine => k_is)
    (case hd_InvalidDead => k_is)
    (case ty_InvalidDead => k_is)
    (case hd_InvalidPaces => k_is)
    (case ty_InvalidPaces => k_is)
    (case hd_InvalidGroups => k_is)
    (case ty_InvalidGroups => k_is)
    (case hd_InvalidTimes => k_is)
    (case ty_InvalidTimes => k_is)
    (case hd_InvalidDeeds => k_is)
    (case ty_InvalidDeeds => k_is)
    (case hd_UnknownName => k_is)
    (case ty_UnknownName => k_is)
    (case hd_InUse => k_is)
    (case ty_InUse => k_is)
    (case hd_TooMany => k_is)
    (case ty_TooMany => k_is)
    (case hd_OtherKind => k_is)
    (case ty_OtherKind => k_is)
    (case hd_Broken => k_is)
    (case ty_Broken => k_is)
    (case hd_NothingToUndo => k_is)
    (case ty_NothingToUndo => k_is)
    (case hd_WrongValue => k_is)
    (case ty_WrongValue => k_is)
    (case hd_WrongName => k_is)
    (case ty_WrongName => k_is)
    (case hd_NoAnswer => k_is)
    (case ty_NoAnswer => k_is)
    (case xL_InvalidDead => k_is)
    (case sa_InvalidDead => k_is)
    (case sb_InvalidDead => k_is)
    (case kc_InvalidDead => k_is)
    (case no_InvalidDead => k_is)
    (case ga_InvalidDead => k_is)
    (case gg_InvalidDead => k_is)
    (case cA_InvalidDead => k_is)
    (case cM_InvalidDead => k_is)
    (case kk_InvalidDead_NotASign => k_is)
    (case kk_InvalidDead_NotARecord => k_is)
    (case kk_InvalidDead_InvalidText => k_is)
    (case kk_InvalidDead_InvalidPace => k_is)
    (case kk_InvalidDead_InvalidWidth => k_is)
    (case kk_InvalidDead_InvalidPlace => k_is)
    (case kk_InvalidDead_InvalidLength => k_is)
    (case kk_InvalidDead_InvalidTime => k_is)
    (case kk_InvalidDead_InvalidWindow => k_is)
    (case kk_InvalidDead_InvalidName => k_is)
    (case kk_InvalidDead_InvalidClaim => k_is)
    (case kk_InvalidDead_InvalidIndex => k_is)
    (case kk_InvalidDead_InvalidLine => k_is)
    (case kk_InvalidDead_InvalidPaces => k_is)
    (case kk_InvalidDead_InvalidGroups => k_is)
    (case kk_InvalidDead_InvalidTimes => k_is)
    (case kk_InvalidDead_InvalidDeeds => k_is)
    (case kk_InvalidDead_UnknownName => k_is)
    (case kk_InvalidDead_InUse => k_is)
    (case kk_InvalidDead_TooMany => k_is)
    (case kk_InvalidDead_OtherKind => k_is)
    (case kk_InvalidDead_Broken => k_is)
    (case kk_InvalidDead_NothingToUndo => k_is)
    (case kk_InvalidDead_WrongValue => k_is)
    (case kk_InvalidDead_WrongName => k_is)
    (case kk_InvalidDead_NoAnswer => k_is)
    (case kt_InvalidDead_ValueError => k_is)
    (case kt_InvalidDead_LookupError => k_is)
    (case kt_InvalidDead_ArithmeticError => k_is)
    (case xL_InvalidGroups => k_is)
    (case sa_InvalidGroups => k_is)
    (case sb_InvalidGroups => k_is)
    (case kc_InvalidGroups => k_is)
    (case no_InvalidGroups => k_is)
    (case ga_InvalidGroups => k_is)
    (case gg_InvalidGroups => k_is)
    (case cA_InvalidGroups => k_is)
    (case cM_InvalidGroups => k_is)
    (case kk_InvalidGroups_NotASign => k_is)
    (case kk_InvalidGroups_NotARecord => k_is)
    (case kk_InvalidGroups_InvalidText => k_is)
    (case kk_InvalidGroups_InvalidPace => k_is)
    (case kk_InvalidGroups_InvalidWidth => k_is)
    (case kk_InvalidGroups_InvalidPlace => k_is)
    (case kk_InvalidGroups_InvalidLength => k_is)
    (case kk_InvalidGroups_InvalidTime => k_is)
    (case kk_InvalidGroups_InvalidWindow => k_is)
    (case kk_InvalidGroups_InvalidName => k_is)
    (case kk_InvalidGroups_InvalidClaim => k_is)
    (case kk_InvalidGroups_InvalidIndex => k_is)
    (case kk_InvalidGroups_InvalidLine => k_is)
    (case kk_InvalidGroups_InvalidDead => k_is)
    (case kk_InvalidGroups_InvalidPaces => k_is)
    (case kk_InvalidGroups_InvalidTimes => k_is)
    (case kk_InvalidGroups_InvalidDeeds => k_is)
    (case kk_InvalidGroups_UnknownName => k_is)
    (case kk_InvalidGroups_InUse => k_is)
    (case kk_InvalidGroups_TooMany => k_is)
    (case kk_InvalidGroups_OtherKind => k_is)
    (case kk_InvalidGroups_Broken => k_is)
    (case kk_InvalidGroups_NothingToUndo => k_is)
    (case kk_InvalidGroups_WrongValue => k_is)
    (case kk_InvalidGroups_WrongName => k_is)
    (case kk_InvalidGroups_NoAnswer => k_is)
    (case kt_InvalidGroups_ValueError => k_is)
    (case kt_InvalidGroups_LookupError => k_is)
    (case kt_InvalidGroups_ArithmeticError => k_is)
    (case xL_InvalidLength => k_is)
    (case sa_InvalidLength => k_is)
    (case sb_InvalidLength => k_is)
    (case kc_InvalidLength => k_is)
    (case no_InvalidLength => k_is)
    (case ga_InvalidLength => k_is)
    (case gg_InvalidLength => k_is)
    (case cA_InvalidLength => k_is)
    (case cM_InvalidLength => k_is)
    (case kk_InvalidLength_NotASign => k_is)
    (case kk_InvalidLength_NotARecord => k_is)
    (case kk_InvalidLength_InvalidText => k_is)
    (case kk_InvalidLength_InvalidPace => k_is)
    (case kk_InvalidLength_InvalidWidth => k_is)
    (case kk_InvalidLength_InvalidPlace => k_is)
    (case kk_InvalidLength_InvalidTime => k_is)
    (case kk_InvalidLength_InvalidWindow => k_is)
    (case kk_InvalidLength_InvalidName => k_is)
    (case kk_InvalidLength_InvalidClaim => k_is)
    (case kk_InvalidLength_InvalidIndex => k_is)
    (case kk_InvalidLength_InvalidLine => k_is)
    (case kk_InvalidLength_InvalidDead => k_is)
    (case kk_InvalidLength_InvalidPaces => k_is)
    (case kk_InvalidLength_InvalidGroups => k_is)
    (case kk_InvalidLength_InvalidTimes => k_is)
    (case kk_InvalidLength_InvalidDeeds => k_is)
    (case kk_InvalidLength_UnknownName => k_is)
    (case kk_InvalidLength_InUse => k_is)
    (case kk_InvalidLength_TooMany => k_is)
    (case kk_InvalidLength_OtherKind => k_is)
    (case kk_InvalidLength_Broken => k_is)
    (case kk_InvalidLength_NothingToUndo => k_is)
    (case kk_InvalidLength_WrongValue => k_is)
    (case kk_InvalidLength_WrongName => k_is)
    (case kk_InvalidLength_NoAnswer => k_is)
    (case kt_InvalidLength_ValueError => k_is)
    (case kt_InvalidLength_LookupError => k_is)
    (case kt_InvalidLength_ArithmeticError => k_is)
    (case xL_InvalidPaces => k_is)
    (case sa_InvalidPaces => k_is)
    (case sb_InvalidPaces => k_is)
    (case kc_InvalidPaces => k_is)
    (case no_InvalidPaces => k_is)
    (case ga_InvalidPaces => k_is)
    (case gg_InvalidPaces => k_is)
    (case cA_InvalidPaces => k_is)
    (case cM_InvalidPaces => k_is)
    (case kk_InvalidPaces_NotASign => k_is)
    (case kk_InvalidPaces_NotARecord => k_is)
    (case kk_InvalidPaces_InvalidText => k_is)
    (case kk_InvalidPaces_InvalidPace => k_is)
    (case kk_InvalidPaces_InvalidWidth => k_is)
    (case kk_InvalidPaces_InvalidPlace => k_is)
    (case kk_InvalidPaces_InvalidLength => k_is)
    (case kk_InvalidPaces_InvalidTime => k_is)
    (case kk_InvalidPaces_InvalidWindow => k_is)
    (case kk_InvalidPaces_InvalidName => k_is)
    (case kk_InvalidPaces_InvalidClaim => k_is)
    (case kk_InvalidPaces_InvalidIndex => k_is)
    (case kk_InvalidPaces_InvalidLine => k_is)
    (case kk_InvalidPaces_InvalidDead => k_is)
    (case kk_InvalidPaces_InvalidGroups => k_is)
    (case kk_InvalidPaces_InvalidTimes => k_is)
    (case kk_InvalidPaces_InvalidDeeds => k_is)
    (case kk_InvalidPaces_UnknownName => k_is)
    (case kk_InvalidPaces_InUse => k_is)
    (case kk_InvalidPaces_TooMany => k_is)
    (case kk_InvalidPaces_OtherKind => k_is)
    (case kk_InvalidPaces_Broken => k_is)
    (case kk_InvalidPaces_NothingToUndo => k_is)
    (case kk_InvalidPaces_WrongValue => k_is)
    (case kk_InvalidPaces_WrongName => k_is)
    (case kk_InvalidPaces_NoAnswer => k_is)
    (case kt_InvalidPaces_ValueError => k_is)
    (case kt_InvalidPaces_LookupError => k_is)
    (case kt_InvalidPaces_ArithmeticError => k_is)
    (case xL_InvalidPlace => k_is)
    (case sa_InvalidPlace => k_is)
    (case sb_InvalidPlace => k_is)
    (case kc_InvalidPlace => k_is)
    (case no_InvalidPlace => k_is)
    (case ga_InvalidPlace => k_is)
    (case gg_InvalidPlace => k_is)
    (case cA_InvalidPlace => k_is)
    (case cM_InvalidPlace => k_is)
    (case kk_InvalidPlace_NotASign => k_is)
    (case kk_InvalidPlace_NotARecord => k_is)
    (case kk_InvalidPlace_InvalidText => k_is)
    (case kk_InvalidPlace_InvalidPace => k_is)
    (case kk_InvalidPlace_InvalidWidth => k_is)
    (case kk_InvalidPlace_InvalidLength => k_is)
    (case kk_InvalidPlace_InvalidTime => k_is)
    (case kk_InvalidPlace_InvalidWindow => k_is)
    (case kk_InvalidPlace_InvalidName => k_is)
    (case kk_InvalidPlace_InvalidClaim => k_is)
    (case kk_InvalidPlace_InvalidIndex => k_is)
    (case kk_InvalidPlace_InvalidLine => k_is)
    (case kk_InvalidPlace_InvalidDead => k_is)
    (case kk_InvalidPlace_InvalidPaces => k_is)
    (case kk_InvalidPlace_InvalidGroups => k_is)
    (case kk_InvalidPlace_InvalidTimes => k_is)
    (case kk_InvalidPlace_InvalidDeeds => k_is)
    (case kk_InvalidPlace_UnknownName => k_is)
    (case kk_InvalidPlace_InUse => k_is)
    (case kk_InvalidPlace_TooMany => k_is)
    (case kk_InvalidPlace_OtherKind => k_is)
    (case kk_InvalidPlace_Broken => k_is)
    (case kk_InvalidPlace_NothingToUndo => k_is)
    (case kk_InvalidPlace_WrongValue => k_is)
    (case kk_InvalidPlace_WrongName => k_is)
    (case kk_InvalidPlace_NoAnswer => k_is)
    (case kt_InvalidPlace_ValueError => k_is)
    (case kt_InvalidPlace_LookupError => k_is)
    (case kt_InvalidPlace_ArithmeticError => k_is)
    (case xL_InvalidTime => k_is)
    (case sa_InvalidTime => k_is)
    (case sb_InvalidTime => k_is)
    (case kc_InvalidTime => k_is)
    (case no_InvalidTime => k_is)
    (case ga_InvalidTime => k_is)
    (case gg_InvalidTime => k_is)
    (case cA_InvalidTime => k_is)
    (case cM_InvalidTime => k_is)
    (case kk_InvalidTime_NotASign => k_is)
    (case kk_InvalidTime_NotARecord => k_is)
    (case kk_InvalidTime_InvalidText => k_is)
    (case kk_InvalidTime_InvalidPace => k_is)
    (case kk_InvalidTime_InvalidWidth => k_is)
    (case kk_InvalidTime_InvalidPlace => k_is)
    (case kk_InvalidTime_InvalidLength => k_is)
    (case kk_InvalidTime_InvalidWindow => k_is)
    (case kk_InvalidTime_InvalidName => k_is)
    (case kk_InvalidTime_InvalidClaim => k_is)
    (case kk_InvalidTime_InvalidIndex => k_is)
    (case kk_InvalidTime_InvalidLine => k_is)
    (case kk_InvalidTime_InvalidDead => k_is)
    (case kk_InvalidTime_InvalidPaces => k_is)
    (case kk_InvalidTime_InvalidGroups => k_is)
    (case kk_InvalidTime_InvalidTimes => k_is)
    (case kk_InvalidTime_InvalidDeeds => k_is)
    (case kk_InvalidTime_UnknownName => k_is)
    (case kk_InvalidTime_InUse => k_is)
    (case kk_InvalidTime_TooMany => k_is)
    (case kk_InvalidTime_OtherKind => k_is)
    (case kk_InvalidTime_Broken => k_is)
    (case kk_InvalidTime_NothingToUndo => k_is)
    (case kk_InvalidTime_WrongValue => k_is)
    (case kk_InvalidTime_WrongName => k_is)
    (case kk_InvalidTime_NoAnswer => k_is)
    (case kt_InvalidTime_ValueError => k_is)
    (case kt_InvalidTime_LookupError => k_is)
    (case kt_InvalidTime_ArithmeticError => k_is)
    (case xL_InvalidWidth => k_is)
    (case sa_InvalidWidth => k_is)
    (case sb_InvalidWidth => k_is)
    (case kc_InvalidWidth => k_is)
    (case no_InvalidWidth => k_is)
    (case ga_InvalidWidth => k_is)
    (case gg_InvalidWidth => k_is)
    (case cA_InvalidWidth => k_is)
    (case cM_InvalidWidth => k_is)
    (case kk_InvalidWidth_NotASign => k_is)
    (case kk_InvalidWidth_NotARecord => k_is)
    (case kk_InvalidWidth_InvalidText => k_is)
    (case kk_InvalidWidth_InvalidPace => k_is)
    (case kk_InvalidWidth_InvalidPlace => k_is)
    (case kk_InvalidWidth_InvalidLength => k_is)
    (case kk_InvalidWidth_InvalidTime => k_is)
    (case kk_InvalidWidth_InvalidWindow => k_is)
    (case kk_InvalidWidth_InvalidName => k_is)
    (case kk_InvalidWidth_InvalidClaim => k_is)
    (case kk_InvalidWidth_InvalidIndex => k_is)
    (case kk_InvalidWidth_InvalidLine => k_is)
    (case kk_InvalidWidth_InvalidDead => k_is)
    (case kk_InvalidWidth_InvalidPaces => k_is)
    (case kk_InvalidWidth_InvalidGroups => k_is)
    (case kk_InvalidWidth_InvalidTimes => k_is)
    (case kk_InvalidWidth_InvalidDeeds => k_is)
    (case kk_InvalidWidth_UnknownName => k_is)
    (case kk_InvalidWidth_InUse => k_is)
    (case kk_InvalidWidth_TooMany => k_is)
    (case kk_InvalidWidth_OtherKind => k_is)
    (case kk_InvalidWidth_Broken => k_is)
    (case kk_InvalidWidth_NothingToUndo => k_is)
    (case kk_InvalidWidth_WrongValue => k_is)
    (case kk_InvalidWidth_WrongName => k_is)
    (case kk_InvalidWidth_NoAnswer => k_is)
    (case kt_InvalidWidth_ValueError => k_is)
    (case kt_InvalidWidth_LookupError => k_is)
    (case kt_InvalidWidth_ArithmeticError => k_is)
    (case xL_InvalidWindow => k_is)
    (case sa_InvalidWindow => k_is)
    (case sb_InvalidWindow => k_is)
    (case kc_InvalidWindow => k_is)
    (case no_InvalidWindow => k_is)
    (case ga_InvalidWindow => k_is)
    (case gg_InvalidWindow => k_is)
    (case cA_InvalidWindow => k_is)
    (case cM_InvalidWindow => k_is)
    (case kk_InvalidWindow_NotASign => k_is)
    (case kk_InvalidWindow_NotARecord => k_is)
    (case kk_InvalidWindow_InvalidText => k_is)
    (case kk_InvalidWindow_InvalidPace => k_is)
    (case kk_InvalidWindow_InvalidWidth => k_is)
    (case kk_InvalidWindow_InvalidPlace => k_is)
    (case kk_InvalidWindow_InvalidLength => k_is)
    (case kk_InvalidWindow_InvalidTime => k_is)
    (case kk_InvalidWindow_InvalidName => k_is)
    (case kk_InvalidWindow_InvalidClaim => k_is)
    (case kk_InvalidWindow_InvalidIndex => k_is)
    (case kk_InvalidWindow_InvalidLine => k_is)
    (case kk_InvalidWindow_InvalidDead => k_is)
    (case kk_InvalidWindow_InvalidPaces => k_is)
    (case kk_InvalidWindow_InvalidGroups => k_is)
    (case kk_InvalidWindow_InvalidTimes => k_is)
    (case kk_InvalidWindow_InvalidDeeds => k_is)
    (case kk_InvalidWindow_UnknownName => k_is)
    (case kk_InvalidWindow_InUse => k_is)
    (case kk_InvalidWindow_TooMany => k_is)
    (case kk_InvalidWindow_OtherKind => k_is)
    (case kk_InvalidWindow_Broken => k_is)
    (case kk_InvalidWindow_NothingToUndo => k_is)
    (case kk_InvalidWindow_WrongValue => k_is)
    (case kk_InvalidWindow_WrongName => k_is)
    (case kk_InvalidWindow_NoAnswer => k_is)
    (case kt_InvalidWindow_ValueError => k_is)
    (case kt_InvalidWindow_LookupError => k_is)
    (case kt_InvalidWindow_ArithmeticError => k_is)
    (case xL_NotARecord => k_is)
    (case sa_NotARecord => k_is)
    (case sb_NotARecord => k_is)
    (case kc_NotARecord => k_is)
    (case no_NotARecord => k_is)
    (case ga_NotARecord => k_is)
    (case gg_NotARecord => k_is)
    (case cA_NotARecord => k_is)
    (case cM_NotARecord => k_is)
    (case kk_NotARecord_NotASign => k_is)
    (case kk_NotARecord_InvalidText => k_is)
    (case kk_NotARecord_InvalidPace => k_is)
    (case kk_NotARecord_InvalidWidth => k_is)
    (case kk_NotARecord_InvalidPlace => k_is)
    (case kk_NotARecord_InvalidLength => k_is)
    (case kk_NotARecord_InvalidTime => k_is)
    (case kk_NotARecord_InvalidWindow => k_is)
    (case kk_NotARecord_InvalidName => k_is)
    (case kk_NotARecord_InvalidClaim => k_is)
    (case kk_NotARecord_InvalidIndex => k_is)
    (case kk_NotARecord_InvalidLine => k_is)
    (case kk_NotARecord_InvalidDead => k_is)
    (case kk_NotARecord_InvalidPaces => k_is)
    (case kk_NotARecord_InvalidGroups => k_is)
    (case kk_NotARecord_InvalidTimes => k_is)
    (case kk_NotARecord_InvalidDeeds => k_is)
    (case kk_NotARecord_UnknownName => k_is)
    (case kk_NotARecord_InUse => k_is)
    (case kk_NotARecord_TooMany => k_is)
    (case kk_NotARecord_OtherKind => k_is)
    (case kk_NotARecord_Broken => k_is)
    (case kk_NotARecord_NothingToUndo => k_is)
    (case kk_NotARecord_WrongValue => k_is)
    (case kk_NotARecord_WrongName => k_is)
    (case kk_NotARecord_NoAnswer => k_is)
    (case kt_NotARecord_ValueError => k_is)
    (case kt_NotARecord_LookupError => k_is)
    (case kt_NotARecord_ArithmeticError => k_is)
    (case sb_WrongValue => k_is)
    (case sb_WrongName => k_is)
    (case sb_NoAnswer => k_is)
    (case nn_Record_kept => k_is)
    (case xg => k_is)
    (case xt => k_is)
    (case w0 => k_is)
    (case w1 => k_is)
    (case w2 => k_is)
    (case w3 => k_is)
    (case w4 => k_is)
    (case w5 => k_is)
    (case w6 => k_is)
    (case w7 => k_is)
    (case w8 => k_is)
    (case z0 => k_is)
    (case z1 => k_is)
    (case z2 => k_is)
    (case z3 => k_is)
    (case z4 => k_is)
    (case z5 => k_is)
    (case z6 => k_is)
    (case z7 => k_is)
    (case z8 => k_is)
    (case z9 => k_is)
    (case z10 => k_is)
    (case z11 => k_is)
    (case z12 => k_is)
    (case z13 => k_is)
    (case z14 => k_is)
    (case z15 => k_is)
    (case z16 => k_is)
    (case z17 => k_is)
    (case z18 => k_is)
    (case zz_ValueError => k_is)
    (case zz_LookupError => k_is)
    (case zz_ArithmeticError => k_is)
    (case d46_0 => k_is)
    (case t46_0 => k_is)
    (case d46_1 => k_is)
    (case d46_2 => k_is)
    (case d46_3 => k_is)
    (case t46_3 => k_is)
    (case d46_4 => k_is)
    (case t46_4 => k_is)
    (case cl52 => k_is)
    (case cv52 => rfl)
    (case tn52 => exact L2.G.km_out Y (by decide +kernel))
    (case cl53 => k_is)
    (case cv53 => rfl)
    (case tn53 => exact L2.G.km_out Y (by decide +kernel))
    (case kn_InvalidDead_NotASign => decide)
    (case kn_InvalidDead_NotARecord => decide)
    (case kn_InvalidDead_InvalidText => decide)
    (case kn_InvalidDead_InvalidPace => decide)
    (case kn_InvalidDead_InvalidWidth => decide)
    (case kn_InvalidDead_InvalidPlace => decide)
    (case kn_InvalidDead_InvalidLength => decide)
    (case kn_InvalidDead_InvalidTime => decide)
    (case kn_InvalidDead_InvalidWindow => decide)
    (case kn_InvalidDead_InvalidName => decide)
    (case kn_InvalidDead_InvalidClaim => decide)
    (case kn_InvalidDead_InvalidIndex => decide)
    (case kn_InvalidDead_InvalidLine => decide)
    (case kn_InvalidDead_InvalidPaces => decide)
    (case kn_InvalidDead_InvalidGroups => decide)
    (case kn_InvalidDead_InvalidTimes => decide)
    (case kn_InvalidDead_InvalidDeeds => decide)
    (case kn_InvalidDead_UnknownName => decide)
    (case kn_InvalidDead_InUse => decide)
    (case kn_InvalidDead_TooMany => decide)
    (case kn_InvalidDead_OtherKind => decide)
    (case kn_InvalidDead_Broken => decide)
    (case kn_InvalidDead_NothingToUndo => decide)
    (case kn_InvalidDead_WrongName => decide)
    (case kn_InvalidDead_NoAnswer => decide)
    (case kn_InvalidGroups_NotASign => decide)
    (case kn_InvalidGroups_NotARecord => decide)
    (case kn_InvalidGroups_InvalidText => decide)
    (case kn_InvalidGroups_InvalidPace => decide)
    (case kn_InvalidGroups_InvalidWidth => decide)
    (case kn_InvalidGroups_InvalidPlace => decide)
    (case kn_InvalidGroups_InvalidLength => decide)
    (case kn_InvalidGroups_InvalidTime => decide)
    (case kn_InvalidGroups_InvalidWindow => decide)
    (case kn_InvalidGroups_InvalidName => decide)
    (case kn_InvalidGroups_InvalidClaim => decide)
    (case kn_InvalidGroups_InvalidIndex => decide)
    (case kn_InvalidGroups_InvalidLine => decide)
    (case kn_InvalidGroups_InvalidDead => decide)
    (case kn_InvalidGroups_InvalidPaces => decide)
    (case kn_InvalidGroups_InvalidTimes => decide)
    (case kn_InvalidGroups_InvalidDeeds => decide)
    (case kn_InvalidGroups_UnknownName => decide)
    (case kn_InvalidGroups_InUse => decide)
    (case kn_InvalidGroups_TooMany => decide)
    (case kn_InvalidGroups_OtherKind => decide)
    (case kn_InvalidGroups_Broken => decide)
    (case kn_InvalidGroups_NothingToUndo => decide)
    (case kn_InvalidGroups_WrongName => decide)
    (case kn_InvalidGroups_NoAnswer => decide)
    (case kn_InvalidLength_NotASign => decide)
    (case kn_InvalidLength_NotARecord => decide)
    (case kn_InvalidLength_InvalidText => decide)
    (case kn_InvalidLength_InvalidPace => decide)
    (case kn_InvalidLength_InvalidWidth => decide)
    (case kn_InvalidLength_InvalidPlace => decide)
    (case kn_InvalidLength_InvalidTime => decide)
    (case kn_InvalidLength_InvalidWindow => decide)
    (case kn_InvalidLength_InvalidName => decide)
    (case kn_InvalidLength_InvalidClaim => decide)
    (case kn_InvalidLength_InvalidIndex => decide)
    (case kn_InvalidLength_InvalidLine => decide)
    (case kn_InvalidLength_InvalidDead => decide)
    (case kn_InvalidLength_InvalidPaces => decide)
    (case kn_InvalidLength_InvalidGroups => decide)
    (case kn_InvalidLength_InvalidTimes => decide)
    (case kn_InvalidLength_InvalidDeeds => decide)
    (case kn_InvalidLength_UnknownName => decide)
    (case kn_InvalidLength_InUse => decide)
    (case kn_InvalidLength_TooMany => decide)
    (case kn_InvalidLength_OtherKind => decide)
    (case kn_InvalidLength_Broken => decide)
    (case kn_InvalidLength_NothingToUndo => decide)
    (case kn_InvalidLength_WrongName => decide)
    (case kn_InvalidLength_NoAnswer => decide)
    (case kn_InvalidPaces_NotASign => decide)
    (case kn_InvalidPaces_NotARecord => decide)
    (case kn_InvalidPaces_InvalidText => decide)
    (case kn_InvalidPaces_InvalidPace => decide)
    (case kn_InvalidPaces_InvalidWidth => decide)
    (case kn_InvalidPaces_InvalidPlace => decide)
    (case kn_InvalidPaces_InvalidLength => decide)
    (case kn_InvalidPaces_InvalidTime => decide)
    (case kn_InvalidPaces_InvalidWindow => decide)
    (case kn_InvalidPaces_InvalidName => decide)
    (case kn_InvalidPaces_InvalidClaim => decide)
    (case kn_InvalidPaces_InvalidIndex => decide)
    (case kn_InvalidPaces_InvalidLine => decide)
    (case kn_InvalidPaces_InvalidDead => decide)
    (case kn_InvalidPaces_InvalidGroups => decide)
    (case kn_InvalidPaces_InvalidTimes => decide)
    (case kn_InvalidPaces_InvalidDeeds => decide)
    (case kn_InvalidPaces_UnknownName => decide)
    (case kn_InvalidPaces_InUse => decide)
    (case kn_InvalidPaces_TooMany => decide)
    (case kn_InvalidPaces_OtherKind => decide)
    (case kn_InvalidPaces_Broken => decide)
    (case kn_InvalidPaces_NothingToUndo => decide)
    (case kn_InvalidPaces_WrongName => decide)
    (case kn_InvalidPaces_NoAnswer => decide)
    (case kn_InvalidPlace_NotASign => decide)
    (case kn_InvalidPlace_NotARecord => decide)
    (case kn_InvalidPlace_InvalidText => decide)
    (case kn_InvalidPlace_InvalidPace => decide)
    (case kn_InvalidPlace_InvalidWidth => decide)
    (case kn_InvalidPlace_InvalidLength => decide)
    (case kn_InvalidPlace_InvalidTime => decide)
    (case kn_InvalidPlace_InvalidWindow => decide)
    (case kn_InvalidPlace_InvalidName => decide)
    (case kn_InvalidPlace_InvalidClaim => decide)
    (case kn_InvalidPlace_InvalidIndex => decide)
    (case kn_InvalidPlace_InvalidLine => decide)
    (case kn_InvalidPlace_InvalidDead => decide)
    (case kn_InvalidPlace_InvalidPaces => decide)
    (case kn_InvalidPlace_InvalidGroups => decide)
    (case kn_InvalidPlace_InvalidTimes => decide)
    (case kn_InvalidPlace_InvalidDeeds => decide)
    (case kn_InvalidPlace_UnknownName => decide)
    (case kn_InvalidPlace_InUse => decide)
    (case kn_InvalidPlace_TooMany => decide)
    (case kn_InvalidPlace_OtherKind => decide)
    (case kn_InvalidPlace_Broken => decide)
    (case kn_InvalidPlace_NothingToUndo => decide)
    (case kn_InvalidPlace_WrongName => decide)
    (case kn_InvalidPlace_NoAnswer => decide)
    (case kn_InvalidTime_NotASign => decide)
    (case kn_InvalidTime_NotARecord => decide)
    (case kn_InvalidTime_InvalidText => decide)
    (case kn_InvalidTime_InvalidPace => decide)
    (case kn_InvalidTime_InvalidWidth => decide)
    (case kn_InvalidTime_InvalidPlace => decide)
    (case kn_InvalidTime_InvalidLength => decide)
    (case kn_InvalidTime_InvalidWindow => decide)
    (case kn_InvalidTime_InvalidName => decide)
    (case kn_InvalidTime_InvalidClaim => decide)
    (case kn_InvalidTime_InvalidIndex => decide)
    (case kn_InvalidTime_InvalidLine => decide)
    (case kn_InvalidTime_InvalidDead => decide)
    (case kn_InvalidTime_InvalidPaces => decide)
    (case kn_InvalidTime_InvalidGroups => decide)
    (case kn_InvalidTime_InvalidTimes => decide)
    (case kn_InvalidTime_InvalidDeeds => decide)
    (case kn_InvalidTime_UnknownName => decide)
    (case kn_InvalidTime_InUse => decide)
    (case kn_InvalidTime_TooMany => decide)
    (case kn_InvalidTime_OtherKind => decide)
    (case kn_InvalidTime_Broken => decide)
    (case kn_InvalidTime_NothingToUndo => decide)
    (case kn_InvalidTime_WrongName => decide)
    (case kn_InvalidTime_NoAnswer => decide)
    (case kn_InvalidWidth_NotASign => decide)
    (case kn_InvalidWidth_NotARecord => decide)
    (case kn_InvalidWidth_InvalidText => decide)
    (case kn_InvalidWidth_InvalidPace => decide)
    (case kn_InvalidWidth_InvalidPlace => decide)
    (case kn_InvalidWidth_InvalidLength => decide)
    (case kn_InvalidWidth_InvalidTime => decide)
    (case kn_InvalidWidth_InvalidWindow => decide)
    (case kn_InvalidWidth_InvalidName => decide)
    (case kn_InvalidWidth_InvalidClaim => decide)
    (case kn_InvalidWidth_InvalidIndex => decide)
    (case kn_InvalidWidth_InvalidLine => decide)
    (case kn_InvalidWidth_InvalidDead => decide)
    (case kn_InvalidWidth_InvalidPaces => decide)
    (case kn_InvalidWidth_InvalidGroups => decide)
    (case kn_InvalidWidth_InvalidTimes => decide)
    (case kn_InvalidWidth_InvalidDeeds => decide)
    (case kn_InvalidWidth_UnknownName => decide)
    (case kn_InvalidWidth_InUse => decide)
    (case kn_InvalidWidth_TooMany => decide)
    (case kn_InvalidWidth_OtherKind => decide)
    (case kn_InvalidWidth_Broken => decide)
    (case kn_InvalidWidth_NothingToUndo => decide)
    (case kn_InvalidWidth_WrongName => decide)
    (case kn_InvalidWidth_NoAnswer => decide)
    (case kn_InvalidWindow_NotASign => decide)
    (case kn_InvalidWindow_NotARecord => decide)
    (case kn_InvalidWindow_InvalidText => decide)
    (case kn_InvalidWindow_InvalidPace => decide)
    (case kn_InvalidWindow_InvalidWidth => decide)
    (case kn_InvalidWindow_InvalidPlace => decide)
    (case kn_InvalidWindow_InvalidLength => decide)
    (case kn_InvalidWindow_InvalidTime => decide)
    (case kn_InvalidWindow_InvalidName => decide)
    (case kn_InvalidWindow_InvalidClaim => decide)
    (case kn_InvalidWindow_InvalidIndex => decide)
    (case kn_InvalidWindow_InvalidLine => decide)
    (case kn_InvalidWindow_InvalidDead => decide)
    (case kn_InvalidWindow_InvalidPaces => decide)
    (case kn_InvalidWindow_InvalidGroups => decide)
    (case kn_InvalidWindow_InvalidTimes => decide)
    (case kn_InvalidWindow_InvalidDeeds => decide)
    (case kn_InvalidWindow_UnknownName => decide)
    (case kn_InvalidWindow_InUse => decide)
    (case kn_InvalidWindow_TooMany => decide)
    (case kn_InvalidWindow_OtherKind => decide)
    (case kn_InvalidWindow_Broken => decide)
    (case kn_InvalidWindow_NothingToUndo => decide)
    (case kn_InvalidWindow_WrongName => decide)
    (case kn_InvalidWindow_NoAnswer => decide)
    (case kn_NotARecord_NotASign => decide)
    (case kn_NotARecord_InvalidText => decide)
    (case kn_NotARecord_InvalidPace => decide)
    (case kn_NotARecord_InvalidWidth => decide)
    (case kn_NotARecord_InvalidPlace => decide)
    (case kn_NotARecord_InvalidLength => decide)
    (case kn_NotARecord_InvalidTime => decide)
    (case kn_NotARecord_InvalidWindow => decide)
    (case kn_NotARecord_InvalidName => decide)
    (case kn_NotARecord_InvalidClaim => decide)
    (case kn_NotARecord_InvalidIndex => decide)
    (case kn_NotARecord_InvalidLine => decide)
    (case kn_NotARecord_InvalidDead => decide)
    (case kn_NotARecord_InvalidPaces => decide)
    (case kn_NotARecord_InvalidGroups => decide)
    (case kn_NotARecord_InvalidTimes => decide)
    (case kn_NotARecord_InvalidDeeds => decide)
    (case kn_NotARecord_UnknownName => decide)
    (case kn_NotARecord_InUse => decide)
    (case kn_NotARecord_TooMany => decide)
    (case kn_NotARecord_OtherKind => decide)
    (case kn_NotARecord_Broken => decide)
    (case kn_NotARecord_NothingToUndo => decide)
    (case kn_NotARecord_WrongName => decide)
    (case kn_NotARecord_NoAnswer => decide)
    (case pn53_52 => decide)
    (case pn52_53 => decide)
    (case rc52 => rfl)
    (case rc53 => rfl)
