import PyProof.Rows.All
import Wide.All
import OpenK.AllK
import Wide.FinOn
import PyProof.InstNe
import PyProof.ReprRoads
import KE.KCallOwn
import HandS.ForMost
import HandS.OwnEq
import HandS.Defaults
import HandS.MakeKw
import HandS.Property
import HandS.IsInst
import HandS.FStr
import HandS.Wide
import HandS.WideBits
import HandS.Codes
import HandS.MakeKwOnly
import HandS.Flow
import HandS.Deep
import HandS.TupAny
import HandS.Style
import HandS.Records
import HandS.Walk
import HandS.Evl
import PySem.Challenge.RW_glimpserounds_k02_whole_windows_of_signs
set_option Elab.async false
set_option linter.all false
set_option maxRecDepth 100000
set_option maxHeartbeats 2000000
namespace L2.G
open PySem PySem.Spec PyProof.Rows
section
variable {X : Cx} {CX : CXT} {k : Nat} {f C : Addr} {fd : FuncData} {ps : List Str} {sp : Sp} {E : XK} {pins : List (Addr × Obj)} {σ : St} {H : Hp} {s : Shared} {A : Around}
theorem env_at (I : Inv X pins σ H s) (fr : A.frames = X.A.frames) : Env0 X.prog X.w X.K X.mg X.base A X.stack s H := by
  have e := I.env0
  exact ⟨fr.trans e.frames, e.mod, e.bs, e.bsz, e.funs, e.frf, e.hok, e.bare⟩
/-- a def that is kept, called from below the running body -/
theorem run_at (F : FnOk X.prog X.w X.K X.mg X.base CX k f fd ps sp) (hb : Binds X.K fd ps []) (hx : Passes CX X E) (rm : Room k A) (fr : A.frames = X.A.frames)
    (I : Inv X pins σ H s) {vs : List V} {us : List Value} {Q : VK} (r : Vals vs us) (h : sp vs H Q E) :
    wpAny (model X.prog X.w) A (call (.ref f) us) (EP X pins σ Q) X.xe s := by
  have hl : us.length = ps.length := r.length.symm.trans (F.len _ _ _ _ h)
  have bb := hb s us I.kIn (by simpa using hl)
  refine wpAny_call (codeAny_mono (F.run A X.stack s H ⟨us, []⟩ us vs Q E rm (env_at I fr) (by simpa using bb) r h) fun res s' hq => ?_)
  match res, hq with
  | .error e, hq => exact hx pins σ H s e s' I hq
  | .ok (.ret u), hq => exact I.after hq
  | .ok .next, hq => exact False.elim hq
  | .ok .brk, hq => exact False.elim hq
  | .ok .cont, hq => exact False.elim hq
theorem inst_at (I : Inv X pins σ H s) {a dx : Addr} {fs : List (Str × V)} (e : H a = some (.ins C dx fs)) : ∃ od, PySem.W.InstAt s.heap a (PySem.W.instObj C dx) C (some od) := by
  obtain ⟨mA, O, _⟩ := ins_get I.hok e
  obtain ⟨od, J, _⟩ := O.look
  exact ⟨od, J⟩
def rLenI (C : Addr) (sp : Sp) (E : XK) : List V → Hp → VK → Prop := fun xs H Q => ∃ a dx fs, xs = [.ref a] ∧ H a = some (.ins C dx fs) ∧ sp [.ref a] H (fun v H' => ∃ n : Int, v = .int n ∧ 0 ≤ n ∧ n < 2 ^ 63 ∧ Q (.int n) H') E
/-- len(o) by an own __len__ -/
theorem cr_lenI (F : FnOk X.prog X.w X.K X.mg X.base CX k f fd ps sp) (hb : Binds X.K fd ps []) (hx : Passes CX X E) (hr : Room (k + 1) X.A)
    (hs : PySem.W.findIn X.K (.ref C) "__len__" = some (some (.ref f))) (hf : PySem.W.isFn X.K (.ref f) = true) : CallR X (.builtin "len") (rLenI C sp E) := by
  intro pins s σ H xs us Q I r h
  obtain ⟨a, dx, fs, rfl, ea, q⟩ := h
  obtain ⟨u, rfl, ru⟩ := vals1 r
  cases (show u = Value.ref a from ru)
  obtain ⟨od, J⟩ := inst_at I ea
  obtain ⟨m, hF⟩ := I.fr
  refine PySem.W.len_K hF I.ok.mod.kin J hs hf (thn (run_at F hb hx hr.in1 rfl I (vs := [.ref a]) (us := [.ref a]) (.cons rfl .nil) q) fun v s' hv => ?_)
  obtain ⟨z, H', I', rz, n, ez, h0, h1, q'⟩ := hv
  subst ez
  obtain ⟨t, rfl⟩ := rz
  exact ⟨⟨h0, h1⟩, .int n, H', I'.tok _, ⟨_, rfl⟩, q'⟩
/-- repr(o) by an own __repr__ -/
def rTxtI (C : Addr) (sp : Sp) (E : XK) : List V → Hp → VK → Prop := fun xs H Q => ∃ a dx fs, xs = [.ref a] ∧ H a = some (.ins C dx fs) ∧ sp [.ref a] H (fun v H' => ∃ z : Str, v = .str z ∧ Q (.str z) H') E
theorem cr_reprI (F : FnOk X.prog X.w X.K X.mg X.base CX k f fd ps sp) (hb : Binds X.K fd ps []) (hx : Passes CX X E) (hr : Room (k + 1) X.A)
    (hs : PySem.W.findIn X.K (.ref C) "__repr__" = some (some (.ref f))) (hf : PySem.W.isFn X.K (.ref f) = true) : CallR X (.builtin "repr") (rTxtI C sp E) := by
  intro pins s σ H xs us Q I r h
  obtain ⟨a, dx, fs, rfl, ea, q⟩ := h
  obtain ⟨u, rfl, ru⟩ := vals1 r
  cases (show u = Value.ref a from ru)
  obtain ⟨od, J⟩ := inst_at I ea
  obtain ⟨m, hF⟩ := I.fr
  refine PySem.W.repr_K hr.in1.units0 hF I.ok.mod.kin J hs hf (thn (run_at F hb hx hr.in1 rfl I (vs := [.ref a]) (us := [.ref a]) (.cons rfl .nil) q) fun v s' hv => ?_)
  obtain ⟨z, H', I', rz, n, ez, q'⟩ := hv
  subst ez
  obtain ⟨t, rfl⟩ := rz
  exact ⟨.str n, H', I', ⟨_, rfl⟩, q'⟩
/-- str(o) by an own __str__ -/
theorem cr_strI (F : FnOk X.prog X.w X.K X.mg X.base CX k f fd ps sp) (hb : Binds X.K fd ps []) (hx : Passes CX X E) (hr : Room (k + 2) X.A)
    (hs : PySem.W.findIn X.K (.ref C) "__str__" = some (some (.ref f))) (hf : PySem.W.isFn X.K (.ref f) = true) : CallR X (.type "str") (rTxtI C sp E) := by
  intro pins s σ H xs us Q I r h
  obtain ⟨a, dx, fs, rfl, ea, q⟩ := h
  obtain ⟨u, rfl, ru⟩ := vals1 r
  cases (show u = Value.ref a from ru)
  obtain ⟨od, J⟩ := inst_at I ea
  refine PySem.W.kso_call hr.in1.in1.units0 I.kIn J hs hf (thn (run_at F hb hx hr.in1.in1 rfl I (vs := [.ref a]) (us := [.ref a]) (.cons rfl .nil) q) fun v s' hv => ?_)
  obtain ⟨z, H', I', rz, n, ez, q'⟩ := hv
  subst ez
  obtain ⟨t, rfl⟩ := rz
  exact ⟨.str n, H', I', ⟨_, rfl⟩, q'⟩
/-- the truth of o by an own __len__, no __bool__ -/
def rTruI (C : Addr) (sp : Sp) (E : XK) : V → Hp → (Bool → Hp → Prop) → Prop := fun x H Q => ∃ a dx fs, x = .ref a ∧ H a = some (.ins C dx fs) ∧ sp [.ref a] H (fun v H' => ∃ n : Int, v = .int n ∧ 0 ≤ n ∧ n < 2 ^ 63 ∧ Q (n != 0) H') E
theorem len_body (F : FnOk X.prog X.w X.K X.mg X.base CX k f fd ps sp) (hb : Binds X.K fd ps []) (hx : Passes CX X E) (hr : Room k A) (fr : A.frames = X.A.frames) {a dx : Addr} {fs : List (Str × V)}
    (hs : PySem.W.findIn X.K (.ref C) "__len__" = some (some (.ref f))) (hf : PySem.W.isFn X.K (.ref f) = true) (I : Inv X pins σ H s) (ea : H a = some (.ins C dx fs)) {R : Int → Hp → Prop}
    (q : sp [.ref a] H (fun v H' => ∃ n : Int, v = .int n ∧ 0 ≤ n ∧ n < 2 ^ 63 ∧ R n H') E) :
    wpAny (model X.prog X.w) A (Builtin.«len» ⟨[.ref a], []⟩) (fun fin s' => ∃ n t, fin = .done (.ret (.int n t)) ∧ ∃ H', Inv X pins σ H' s' ∧ R n H') X.xe s := by
  obtain ⟨od, J⟩ := inst_at I ea
  unfold Builtin.«len»
  refine wpAny_bind (m := oneArg "len" _) (wpAny_pure ?_)
  refine wpAny_bind (m := callSpecial? (.ref a) (Str.ofString "__len__")) (PySem.W.special_fn I.kIn J hs (beq_iff_eq.mp hf) (thn (run_at F hb hx hr fr I (vs := [.ref a]) (us := [.ref a]) (.cons rfl .nil) q) fun v s' hv => ?_))
  obtain ⟨z, H', I', rz, n, ez, h0, h1, q'⟩ := hv
  subst ez
  obtain ⟨t, rfl⟩ := rz
  refine wpAny_bind (wpAny_holding (wpAny_pure ?_))
  refine wpAny_bind (wpAny_letGo ?_)
  dsimp only
  rw [if_neg (by omega), if_neg (by omega)]
  exact wpAny_bind (wpAny_mkInt (wpAny_pure ⟨_, _, rfl, H', I'.tok _, q'⟩))
theorem tr_lenI (F : FnOk X.prog X.w X.K X.mg X.base CX k f fd ps sp) (hb : Binds X.K fd ps []) (hx : Passes CX X E) (hr : Room (k + 1) X.A)
    (hn : PySem.W.findIn X.K (.ref C) "__bool__" = some none) (hs : PySem.W.findIn X.K (.ref C) "__len__" = some (some (.ref f))) (hf : PySem.W.isFn X.K (.ref f) = true) : TruR X (rTruI C sp E) := by
  intro pins s σ H x u Q I r h
  obtain ⟨a, dx, fs, rfl, ea, q⟩ := h
  cases (show u = Value.ref a from r)
  obtain ⟨od, J⟩ := inst_at I ea
  unfold truthy
  refine wpAny_bind (m := callSpecial? (.ref a) (Str.ofString "__bool__")) (wpAny_bind (wpAny_bind (J.type.here ((PySem.W.looks_findIn I.kIn hn).here (wpAny_pure ?_)))))
  refine wpAny_bind (wpAny_bind (J.type.here ((PySem.W.looks_findIn I.kIn hs).here ?_)))
  rw [if_neg (by simp)]
  refine wpAny_bind (wpAny_runValue (codeAny_builtin entry_len ?_))
  rw [Around.under_plainId plain_len _]
  refine thn (len_body F hb hx hr.in1 rfl hs hf I ea q) fun fin s' hh => ?_
  obtain ⟨n, t, rfl, H', I', q'⟩ := hh
  exact wpAny_pure ⟨H', I', q'⟩
/-- x == y by an own __eq__ that gives a truth -/
def rEqI (C : Addr) (sp : Sp) (E : XK) (T : V → Hp → Prop) (g : Bool → Bool) : R2 := fun x y H Q => ∃ a dx fs, x = .ref a ∧ H a = some (.ins C dx fs) ∧ T y H ∧ sp [.ref a, y] H (fun v H' => ∃ b : Bool, v = .bl b ∧ Q (.bl (g b)) H') E
/-- what is known of a value's type: not a subclass of C -/
def NotSub (K : PySem.W.Frag) (C : Addr) (y : V) (H : Hp) : Prop := (∃ dx b fs, y = .ref b ∧ H b = some (.ins C dx fs)) ∨ ∃ t, TyX K H y t ∧ PySem.W.notFirst K C t = true
theorem notSub_looks {y : V} {u : Value} (I : Inv X pins σ H s) (ry : RelV y u) (h : NotSub X.K C y H) : ∃ t, PySem.W.Looks (model X.prog X.w) s.heap (typeOf u) t ∧ PySem.W.notFirst X.K C t = true := by
  rcases h with ⟨dx, b, fs, rfl, e⟩ | ⟨t, ty, n⟩
  · cases (show u = Value.ref b from ry)
    obtain ⟨od, J⟩ := inst_at I e
    exact ⟨.ref C, J.type, by simp [PySem.W.notFirst]⟩
  · obtain ⟨P, Z, p, _⟩ := kit_of I ry ty
    exact ⟨t, Z.ty _ _ I.kIn p, n⟩
theorem op_eqI (F : FnOk X.prog X.w X.K X.mg X.base CX k f fd ps sp) (hb : Binds X.K fd ps []) (hx : Passes CX X E) (hr : Room k X.A)
    (hs : PySem.W.findIn X.K (.ref C) "__eq__" = some (some (.ref f))) (hf : PySem.W.isFn X.K (.ref f) = true) : OpR X (compareOp .Eq) (rEqI C sp E (NotSub X.K C) id) := by
  intro pins s σ H x y v u Q I rx ry h
  obtain ⟨a, dx, fs, rfl, ea, ty, q⟩ := h
  cases (show v = Value.ref a from rx)
  obtain ⟨od, J⟩ := inst_at I ea
  obtain ⟨m, hF⟩ := I.fr
  obtain ⟨t, lt, hn⟩ := notSub_looks I ry ty
  show wpAny _ _ (richCompare .Eq (.ref a) u) _ _ _
  refine PySem.W.cmp_K (op := .Eq) hr.units0 hF I.ok.mod.kin J lt hn hs hf (thn (run_at F hb hx hr rfl I (vs := [.ref a, y]) (us := [.ref a, u]) (.cons rfl (.cons ry .nil)) q) fun v' s' hv => ?_)
  obtain ⟨z, H', I', rz, b, ez, q'⟩ := hv
  subst ez
  cases (show v' = Value.bool b from rz)
  exact ⟨.bl b, H', I', rfl, q'⟩
theorem ifBound_ne {M : Model} {A : Around} {E' : Value → Shared → Prop} {s : Shared} {K : PySem.W.Frag} {x : Addr} {ox : Obj} {od : Option Obj} {args : List Value} {Q : Option Value → Shared → Prop} (XK' : K.In s.heap) (J : PySem.W.InstAt s.heap x ox C od)
    (hs : PySem.W.findIn K (.ref C) "__ne__" = some (some (.builtin "object.__ne__"))) (h : wpAny M A (call (.builtin "object.__ne__") (.ref x :: args)) (fun v => Q (some v)) E' s) :
    wpAny M A (callSpecialIfBound? (.ref x) "__ne__" args) Q E' s := by
  simp only [callSpecialIfBound?, bindSpecialIfBound?]
  refine wpAny_holding (wpAny_bind (wpAny_bind (wpAny_bind (J.type.here ((PySem.W.looks_findIn XK' hs).here ?_)))))
  refine wpAny_bind (wpAny_askSetting (wpAny_ite ?_))
  have goOn : wpAny M A (call (.builtin "object.__ne__") ([.ref x] ++ args) >>= fun v => pure (some v)) Q E' s :=
    wpAny_bind (wpAny_mono h (fun _ _ z => wpAny_pure z) fun _ _ z => z)
  split
  · exact wpAny_bind (wpAny_of_eq (PySem.F.cmp_object.ne.bind _) (wpAny_pure (by exact goOn)))
  · exact wpAny_tryCatch (wpAny_bind (wpAny_of_eq (PySem.F.cmp_object.ne.bind _) (wpAny_pure (by exact goOn))))
theorem ne_body {prog : Program} {w : World} {A : Around} {E' : Value → Shared → Prop} {s : Shared} {K : PySem.W.Frag} {x : Addr} {ox : Obj} {od : Option Obj} {b : Value} {Q : Fin → Shared → Prop} (hu : A.units < cLine) (XK' : K.In s.heap) (J : PySem.W.InstAt s.heap x ox C od)
    (hs : PySem.W.findIn K (.ref C) "__eq__" = some (some (.ref f))) (hf : PySem.W.isFn K (.ref f) = true)
    (h : wpAny (model prog w) A (call (.ref f) [.ref x, b]) (fun v s' => ∃ c : Bool, v = .bool c ∧ Q (.done (.ret (.bool (!c)))) s') E' s) : wpAny (model prog w) A (Builtin.«object.__ne__» ⟨[.ref x, b], []⟩) Q E' s := by
  unfold Builtin.«object.__ne__»
  repeat (first
    | with_reducible refine wpAny_cRoomFor hu ?_
    | (refine wpAny_bind (m := callSpecialIfBound? (.ref x) (Str.ofString "__eq__") [b]) (PySem.W.ifBound_K XK' J hs hf (wpAny_mono h (fun r s' hr => by
          obtain ⟨c, rfl, hq⟩ := hr
          repeat (first | exact hq | exact wpAny_pure hq | exact wpAny_truthy_bool hq | (refine wpAny_bind (m := truthy (.bool _)) (wpAny_truthy_bool ?_)) | wp_step)) fun _ _ z => z)))
    | wp_step)
theorem op_neI (F : FnOk X.prog X.w X.K X.mg X.base CX k f fd ps sp) (hb : Binds X.K fd ps []) (hx : Passes CX X E) (hr : Room (k + 2) X.A) (hm : PySem.W.mroIn X.K C (.type "object") = some true)
    (hne : PySem.W.findIn X.K (.ref C) "__ne__" = some (some (.builtin "object.__ne__"))) (hs : PySem.W.findIn X.K (.ref C) "__eq__" = some (some (.ref f))) (hf : PySem.W.isFn X.K (.ref f) = true) :
    OpR X (compareOp .NotEq) (rEqI C sp E (NotSub X.K C) fun b => !b) := by
  intro pins s σ H x y v u Q I rx ry h
  obtain ⟨a, dx, fs, rfl, ea, ty, q⟩ := h
  cases (show v = Value.ref a from rx)
  obtain ⟨od, J⟩ := inst_at I ea
  obtain ⟨t, lt, hn⟩ := notSub_looks I ry ty
  have run : wpAny (model X.prog X.w) X.A.in1 (call (.ref f) [.ref a, u]) (fun v s' => ∃ c : Bool, v = .bool c ∧ EP X pins σ Q (.bool (!c)) s') X.xe s := by
    refine thn (run_at F hb hx (hr.in1.mono (Nat.le_succ _)) rfl I (vs := [.ref a, y]) (us := [.ref a, u]) (.cons rfl (.cons ry .nil)) q) fun v' s' hv => ?_
    obtain ⟨z, H', I', rz, b, ez, q'⟩ := hv
    subst ez
    cases (show v' = Value.bool b from rz)
    exact ⟨b, rfl, .bl (!b), H', I', rfl, q'⟩
  have one : wpAny (model X.prog X.w) X.A (tryCompare (.ref a) "__ne__" u) (fun r s' => ∃ c : Bool, r = some (.bool c) ∧ EP X pins σ Q (.bool c) s') X.xe s := by
    unfold tryCompare
    refine wpAny_bind (ifBound_ne I.kIn J hne (wpAny_call (codeAny_call_builtin PySem.F.cmp_object.ne.plain PySem.F.cmpEntry_ne (PySem.W.check_slot PySem.F.cmpKind_ne PySem.F.cmpSplit_ne (J.type.andThen (PySem.W.looks_mroIn I.kIn hm)) (PySem.F.cmpArgs_ne _ _)
      (ne_body hr.in1.units0 I.kIn J hs hf (thn run fun v s' hv => ?_))))))
    obtain ⟨c, rfl, hq⟩ := hv
    exact ⟨c, rfl, wpAny_pure ⟨_, rfl, hq⟩⟩
  show wpAny _ _ (richCompare .NotEq (.ref a) u) _ _ _
  unfold richCompare
  simp only [oneThing_ref, cmpInfo_NotEq]
  refine wpAny_holding (wpAny_bind (wpAny_cRoomFor hr.units0 ?_))
  refine wpAny_bind (J.type.here (wpAny_bind (lt.here ?_)))
  split
  · rename_i qq
    have e : PySem.W.subIn X.K t (.ref C) = some false := by
      rcases Bool.or_eq_true_iff.mp hn with e | e
      · rw [beq_iff_eq.mp e] at qq
        simp at qq
      · exact beq_iff_eq.mp e
    refine wpAny_bind ((PySem.W.looks_subIn I.kIn e).here ?_)
    simp only [Bool.false_eq_true, if_false]
    refine wpAny_bind (wpAny_mono one (fun r s' z => ?_) fun _ _ e => e)
    obtain ⟨c, rfl, hq⟩ := z
    exact wpAny_pure hq
  · refine wpAny_bind (wpAny_pure ?_)
    simp only [Bool.false_eq_true, if_false]
    refine wpAny_bind (wpAny_mono one (fun r s' z => ?_) fun _ _ e => e)
    obtain ⟨c, rfl, hq⟩ := z
    exact wpAny_pure hq
end
end L2.G
set_option Elab.async false
set_option linter.all false
set_option maxRecDepth 100000
set_option maxHeartbeats 2000000
namespace L2.G
open PySem PySem.Spec PyProof.Rows
/-- nothing is being shown (no repr of a container runs around) -/
abbrev Quiet (A : Around) : Prop := A.guards = some []
theorem quiet_deeper {A : Around} (h : Quiet A) (env : Env) : Quiet (A.deeper env) := by
  first | exact h | (simpa [Around.deeper] using h)
/-- a def's promise where nothing is being shown -/
structure FnOkG (P : Program) (w : World) (K : PySem.W.Frag) (mg : Str → Option Value) (base : Heap) (CX : CXT) (k : Nat) (f : Addr) (fd : FuncData) (ps : List Str) (sp : Sp) : Prop where
  len : ∀ vs H Q E, sp vs H Q E → vs.length = ps.length
  run : ∀ (A : Around) (outer : List Env) (s : Shared) (H : Hp) (args : Args) (us : List Value) (vs : List V) (Q : VK) (E : XK), Quiet A → Room k A → Env0 P w K mg base A outer s H →
    BindsTo s fd args (ps.zip us) → Vals vs us → sp vs H Q E → codeAny (model P w) A (.call (.ref f) args) (CR CX outer P w H s Q E) s
section
variable {P : Program} {w : World} {K : PySem.W.Frag} {mg : Str → Option Value} {base : Heap} {CX : CXT} {k : Nat} {f : Addr} {fd : FuncData} {ps N : List Str} {sp : Sp}
theorem _root_.L2.FnOk.quiet (F : FnOk P w K mg base CX k f fd ps sp) : FnOkG P w K mg base CX k f fd ps sp :=
  ⟨F.len, fun A outer s H args us vs Q E _ => F.run A outer s H args us vs Q E⟩
/-- a def by its body, where nothing is being shown -/
theorem fn_ofG {name qual : Str} {params : Arguments} {body : List Stmt} {scope : Scope} {dV kV doc pm cdv ct oc : Value} {an od : Option Addr} {osl : Array (Option Value)}
    (lk : K.lookup f = some ⟨oc, od, .func (PySem.W.fnOf name qual params body scope dV kV doc pm an cdv ct), osl⟩) (hcd : PySem.W.codeIn K cdv qual = true) (S : FnScope N ps scope)
    (len : ∀ vs H Q E, sp vs H Q E → vs.length = ps.length)
    (hbody : ∀ (A : Around) (outer : List Env) (s : Shared) (H : Hp) (vs : List V) (Q : VK) (E : XK), Quiet (A.deeper (envOfC qual scope s.heap.objs.size f cdv)) → Room k (A.deeper (envOfC qual scope s.heap.objs.size f cdv)) → sp vs H Q E →
      ∃ t, PSs (cxOf CX P w K mg base N qual scope f cdv A outer s H E) body t ∧ t { nx := fun _ H' => Q .non H', rt := Q } (start N vs) H) :
    FnOkG P w K mg base CX (k + 1) f (PySem.W.fnOf name qual params body scope dV kV doc pm an cdv ct) ps sp := by
  refine ⟨len, fun A outer s H args us vs Q E qt hr e0 hb r hsp => ?_⟩
  have inS : K.In s.heap := e0.mod.kin.keeps fun b o z => (e0.bs b o z).1
  have noL : s.heap.NoLimit := e0.mod.nolimit.keeps fun b o z => (e0.bs b o z).1
  have kinds : ∀ y ∈ ps.zip us, scope.names.lookup y.1 = some .local ∨ (scope.names.lookup y.1 = some .cell ∧ ((cellsFrom (s.heap.objs.size + 1) scope.names []).lookup y.1).isSome = true) := by
    rintro ⟨n, v⟩ hy
    exact (S.par n (List.of_mem_zip hy).1).imp id fun z => ⟨z, PySem.W.cellsFrom_some _ _ _ (.inl z)⟩
  refine codeAny_call_function hr.depth (inS _ _ lk) rfl S.co S.gen rfl (PySem.W.codeRec_of inS hcd) (hb _ _ _ _ (wpAny_newFunctionEnv_cells S.kind kinds fun env he s1 x => ?_))
  subst he
  obtain ⟨t, ht, hq⟩ := hbody A outer s H vs Q E (quiet_deeper qt _) (hr.deeper _) hsp
  have I := inv_start (CX := CX) (E := E) S hr.hd e0 (len _ _ _ _ hsp) r x
  refine ⟨noL.keeps x.toInCall.keep, codeAny_func (wpAny_mono (ht.run [] s1 (start N vs) H _ I hq) (fun fl s' hs => ?_) fun _ _ hs => hs)⟩
  match fl, hs with
  | .ret u, ⟨v, σ', H', J, rv, q⟩ => exact ⟨v, H', J.os, J.bare, J.base, J.hok, rv, q⟩
  | .next, ⟨σ', H', J, q⟩ => exact ⟨.non, H', J.os, J.bare, J.base, J.hok, rfl, q⟩
  | .brk, ⟨_, _, _, q⟩ => exact False.elim q
  | .cont, ⟨_, _, _, q⟩ => exact False.elim q
theorem _root_.L2.Fun.okG {x qual : Str} {st : Stmt} (F : Fun K x qual st f fd) (S : FnScope N ps (defScope st)) (len : ∀ vs H Q E, sp vs H Q E → vs.length = ps.length)
    (hbody : ∀ (cdv : Value) (A : Around) (outer : List Env) (s : Shared) (H : Hp) (vs : List V) (Q : VK) (E : XK), Quiet (A.deeper (envOfC qual (defScope st) s.heap.objs.size f cdv)) → Room k (A.deeper (envOfC qual (defScope st) s.heap.objs.size f cdv)) → sp vs H Q E →
      ∃ t, PSs (cxOf CX0 P w K mg base N qual (defScope st) f cdv A outer s H E).nox (defBody st) t ∧ t { nx := fun _ H' => Q .non H', rt := Q } (start N vs) H) : FnOkG P w K mg base CX0 (k + 1) f fd ps sp := by
  obtain ⟨oc, od, kV, doc, pm, an, cdv, ct, osl, e, lk, hcd⟩ := F.ex
  subst e
  refine fn_ofG lk hcd S len fun A outer s H vs Q E qt hr hs => ?_
  obtain ⟨t, h, q⟩ := hbody cdv A outer s H vs Q E qt hr hs
  exact ⟨t, h.nox, q⟩
end
section
variable {X : Cx} {CX : CXT} {k : Nat} {f : Addr} {fd : FuncData} {ps : List Str} {sp : Sp} {E : XK} {pins : List (Addr × Obj)} {σ : St} {H : Hp} {s : Shared} {dvs : List V} {ds : List Value} {x : Str} {p pos : Pos} {e : Expr} {es : List Expr} {t : TA}
theorem run_atG (F : FnOkG X.prog X.w X.K X.mg X.base CX k f fd ps sp) (qt : Quiet X.A) (hr : Room k X.A) (hb : Binds X.K fd ps ds) (hd : Vals dvs ds) (hx : Passes CX X E)
    (I : Inv X pins σ H s) {vs : List V} {us : List Value} {Q : VK} (r : Vals vs us) (h : sp (vs ++ dvs) H Q E) : wpAny (model X.prog X.w) X.A (call (.ref f) us) (EP X pins σ Q) X.xe s := by
  have rr : Vals (vs ++ dvs) (us ++ ds) := r.append hd
  refine wpAny_call (codeAny_mono (F.run X.A X.stack s H ⟨us, []⟩ (us ++ ds) (vs ++ dvs) Q E qt hr I.env0 (hb s us I.kIn (rr.length.symm.trans (F.len _ _ _ _ h))) rr h) fun res s' hq => ?_)
  match res, hq with
  | .error e, hq => exact hx pins σ H s e s' I hq
  | .ok (.ret u), hq => exact I.after hq
  | .ok .next, hq => exact False.elim hq
  | .ok .brk, hq => exact False.elim hq
  | .ok .cont, hq => exact False.elim hq
/-- f(e, ..), where nothing is being shown -/
theorem pe_callG (F : FnOkG X.prog X.w X.K X.mg X.base CX k f fd ps sp) (qt : Quiet X.A) (hr : Room k X.A) (hg : Gl X x) (hm : X.mg x = some (.ref f)) (hk : PySem.W.keepIn X.K (.ref f) = true) (hb : Binds X.K fd ps ds) (hd : Vals dvs ds) (hx : Passes CX X E)
    (ha : PA X (e :: es) t) (hdb : (x == ("__debug__" : Str)) = false := by decide) (he : starEach (e :: es) X.env = (false, eval e X.env) :: starEach es X.env := by rfl) (hpl : (backTo pos (starEach es X.env)).any (·.1) = false := by rfl) :
    PE X (.Call (.Name x p) (e :: es) [] pos) (tCall sp dvs E t) := by
  refine ⟨fun pins s σ H Q I h => wpAny_Call_Name_kw (ld_glob I hg hm ?_ hdb)⟩
  refine PySem.W.callWith_K (h₀ := X.base) I.ok.mod.kin hk (thn (ha.run pos pins s σ H _ I h) fun us s1 hh => ?_) he hpl
  obtain ⟨vs, H1, I1, r, q⟩ := hh
  exact ⟨I1.kIn, run_atG F qt hr hb hd hx I1 r q⟩
/-- repr of data -/
def rShow (K : PySem.W.Frag) : List V → Hp → VK → Prop := fun xs H Q => ∃ (a : Addr) (d : PyData), xs = [.ref a] ∧ Dp K H (.ref a) d ∧ d.showable = true ∧ d.hasDict = false ∧ d.depth ≤ 20 ∧ d.shown.length ≤ sizeLine ∧ Q (.str d.shown) H
theorem cr_show (qt : Quiet X.A) (hr : Room k X.A) : CallR X (.builtin "repr") (rShow X.K) := by
  intro pins s σ H xs us Q I r h
  obtain ⟨a, d, rfl, hd, h1, h2, h3, h4, q⟩ := h
  obtain ⟨u, rfl, ru⟩ := vals1 r
  obtain ⟨as, rd⟩ := Dp.reads I d (.ref a) u hd ru
  cases (show u = Value.ref a from ru)
  refine repr_of_reads' rd h1 (fun z => by rw [h2] at z; cases z) qt (by have := hr.units; omega) (fun _ _ z => z) (fun h' u tk hk => ?_) h4
  exact ⟨.str d.shown, H, I.kept (t' := tk) hk, ⟨_, rfl⟩, q⟩
end
end L2.G
set_option Elab.async false
set_option linter.all false
set_option maxRecDepth 100000
set_option maxHeartbeats 2000000
namespace L2.G
open PySem PySem.Spec PyProof.Rows
theorem quiet_caller : Quiet callerA := by first | rfl | decide
/-- the law's call from a heap in which the script alone is tracked -/
theorem call_from {P : Program} {w : World} {K : PySem.W.Frag} {mg mb : Str → Option Value} {k : Nat} {fa a : Addr} {fd : FuncData} {x : Str} {sp : Sp} {s₁ : Shared} {vs : List Value} {ns : List Int}
    (KX : K.In s₁.heap) (hns : s₁.heap.Ns mainGlobals mg) (hb : s₁.heap.Ns builtinsNs mb) (hbb : ∀ x : Str, x ≠ "__name__" → mb x = bootBuiltins x) (hlim : s₁.heap.NoLimit) (hg : s₁.gens = #[])
    (ha : s₁.heap.get? a = some { cls := .type "list", data := .seq vs.toArray }) (hr : Room k callerA)
    (F : ∀ base : Heap, K.In base → base.Ns mainGlobals mg → FnOkG P w K mg base CX0 k fa fd [x] sp) (hbind : ∀ (s : Shared) (u : Value), BindsTo s fd ⟨[u], []⟩ [(x, u)])
    (H : Hp) (hO : Only H) (hsp : sp [.ref a] H (fun v _ => v = .bl true) fun _ _ _ => False) (hok : HOk P w H s₁.heap) (hA : ∀ b, H b ≠ none → b = a) (hK : H a ≠ none → K.lookup a = none) :
    codeAny (model P w) callerA (.call (.ref fa) ⟨[.ref a], []⟩) (fun r s' => r = .ok (.ret (.bool true)) ∧ OldK s₁.heap s'.heap ∧ s'.os = s₁.os ∧ AllBare s'.gens) s₁ := by
  have isA : ∀ {b : Addr} {u : HO}, H b = some u → b = a := fun {b u} q => hA b (by rw [q]; exact fun z => nomatch z)
  have free : ∀ {b : Addr} {o : Obj} {es : Array DictEntry} {ep : Nat}, s₁.heap.get? b = some o → o.data = .dict es ep → H b = none := by
    intro b o es ep e d
    match q : H b with
    | none => rfl
    | some u =>
      rw [isA q, ha] at e
      cases e
      exact nomatch (show Data.seq vs.toArray _ = Data.dict es ep from d)
  have ns' : ∀ {b : Addr} {m : Str → Option Value}, s₁.heap.Ns b m → (hidT s₁.heap H).Ns b m := by
    rintro b m ⟨o, es, ep, e, d, r⟩
    exact ⟨o, es, ep, hidT_get e (free e d), d, r⟩
  have inB : K.In (hidT s₁.heap H) := by
    intro b o e
    refine hidT_get (KX b o e) ?_
    match q : H b with
    | none => rfl
    | some u =>
      have z := isA q
      subst z
      rw [hK (by rw [q]; exact fun z => nomatch z)] at e
      cases e
  have md : Mod K mg (hidT s₁.heap H) := by
    obtain ⟨mc, h1, h2⟩ := hlim
    exact ⟨inB, ns' hns, ⟨mb, ns' hb, hbb⟩, mc, ns' h1, h2⟩
  have e0 : Env0 P w K mg (hidT s₁.heap H) callerA [] s₁ H := ⟨rfl, md, fun _ _ e => of_hidT e, Nat.le_of_eq (hidT_size _ _), trivial, fun b hb => (nomatch (show b ∈ ([] : List Addr) from hb)), hok, .of_eq hg⟩
  refine codeAny_mono ((F _ inB (ns' hns)).run callerA [] s₁ H ⟨[.ref a], []⟩ [.ref a] [.ref a] _ _ quiet_caller hr e0 (hbind s₁ (.ref a)) (.cons rfl .nil) hsp) fun r s' h => ?_
  match r, h with
  | .error _, h => exact False.elim h
  | .ok .next, h => exact False.elim h
  | .ok .brk, h => exact False.elim h
  | .ok .cont, h => exact False.elim h
  | .ok (.ret u), ⟨v, H', os, bare, un, hok', r', q⟩ =>
    cases (show v = .bl true from q)
    cases (show u = Value.bool true from r')
    refine ⟨rfl, OldK.of_keep fun b o e => ?_, os, bare⟩
    rcases hO b with z | ⟨ob, xs, z⟩
    · exact un.keep b o e z (fun y => nomatch (show b ∈ ([] : List Addr) from y)) (fun y => nomatch y)
    · have e1 := (hok b _ z).1
      rw [e] at e1
      cases e1
      exact (hok' b _ (un.frzs b _ _ z)).1
theorem law_callG {P : Program} {w : World} {K : PySem.W.Frag} {mg mb : Str → Option Value} {k : Nat} {fa a : Addr} {fd : FuncData} {x : Str} {sp : Sp} {s₁ : Shared} {vs : List Value} {ns : List Int}
    (KX : K.In s₁.heap) (hns : s₁.heap.Ns mainGlobals mg) (hb : s₁.heap.Ns builtinsNs mb) (hbb : ∀ x : Str, x ≠ "__name__" → mb x = bootBuiltins x) (hlim : s₁.heap.NoLimit) (hg : s₁.gens = #[])
    (ha : s₁.heap.get? a = some { cls := .type "list", data := .seq vs.toArray }) (hi : IntsAre vs ns) (hl : ns.length ≤ sizeLine) (hr : Room k callerA)
    (F : ∀ base : Heap, K.In base → base.Ns mainGlobals mg → FnOkG P w K mg base CX0 k fa fd [x] sp) (hbind : ∀ (s : Shared) (u : Value), BindsTo s fd ⟨[u], []⟩ [(x, u)])
    (hsp : ∀ H : Hp, Only H → SqL K H a (ns.map V.int) → sp [.ref a] H (fun v _ => v = .bl true) fun _ _ _ => False) :
    codeAny (model P w) callerA (.call (.ref fa) ⟨[.ref a], []⟩) (fun r s' => r = .ok (.ret (.bool true)) ∧ OldK s₁.heap s'.heap ∧ s'.os = s₁.os ∧ AllBare s'.gens) s₁ := by
  have go := call_from (P := P) (w := w) (sp := sp) KX hns hb hbb hlim hg ha hr F hbind (ns := ns)
  match hk : K.lookup a with
  | some o =>
    have e := KX a o hk
    rw [ha] at e
    cases e
    refine go (fun _ => none) (fun _ => .inl rfl) (hsp _ (fun _ => .inl rfl) (.inr ⟨_, vs.toArray, _, hk, rfl, rfl, rfl, ?_, ?_⟩)) (fun _ _ z => nomatch z) (fun b z => absurd rfl z) fun z => absurd rfl z
    · rw [List.size_toArray, hi.length]
      exact hl
    · simpa using vals_ints hi
  | none =>
    let H : Hp := fun b => if b = a then some (.frz { cls := .type "list", data := .seq vs.toArray } (.lst (ns.map V.int))) else none
    have at_ : H a = some (.frz { cls := .type "list", data := .seq vs.toArray } (.lst (ns.map V.int))) := if_pos rfl
    have off : ∀ b, b ≠ a → H b = none := fun b n => if_neg n
    have only : Only H := fun b => by
      by_cases n : b = a
      · exact n ▸ .inr ⟨_, _, at_⟩
      · exact .inl (off b n)
    refine go H only (hsp H only (.inl (.inr ⟨_, at_⟩))) (fun b u z => ?_) (fun b z => ?_) fun _ => hk
    · by_cases n : b = a
      · subst n
        rw [at_] at z
        cases z
        refine ⟨ha, ?_, vs, _, vals_ints hi, ha⟩
        rw [List.length_map]
        exact hl
      · rw [off b n] at z
        cases z
    · by_cases n : b = a
      · exact n
      · exact absurd (off b n) z
/-- the end of a law whose defs show things -/
theorem walk_ofG {l : PySem.W.OpenLaw} {n k : Nat} {q : Program} {loose : List Str} {XP : (Str → Option Value) → Heap → Prop} {YP : World → Heap → Prop} {d : DefRec} {K : Params → PySem.W.Frag} {sp : World → Sp} {x : Str}
    (hn : l.most = some n) (hn2 : n ≤ sizeLine) (hdf : d.params.defaults = []) (hr : Room k callerA) (hY : ∀ (w : World) (h : Heap), YP w h → (K w.params).In h)
    (F : ∀ (w : World) (mg : Str → Option Value) (fa : Addr) (h : Heap), (K w.params).In h → h.Ns mainGlobals mg → mg d.name = some (.ref fa) →
      ∃ fd : FuncData, (∀ (s : Shared) (u : Value), BindsTo s fd ⟨[u], []⟩ [(x, u)]) ∧ ∀ base : Heap, (K w.params).In base → base.Ns mainGlobals mg → FnOkG l.prog w (K w.params) mg base CX0 k fa fd [x] (sp w))
    (hsp : ∀ (w : World) (H : Hp) (a : Addr) (ns : List Int), ns.length ≤ n → Only H → SqL (K w.params) H a (ns.map V.int) → sp w [.ref a] H (fun v _ => v = .bl true) fun _ _ _ => False) :
    PySem.W.WalkO q loose XP YP l.row.toRowW d [] (fun f vs => PySem.call f vs) := by
  refine Att.attach_call hn hdf fun w s₀ s₁ mg mb fa o pm cd doc a vs ns G Y ho hd hcd hmg hobj hints hlen hg => ?_
  have inK := hY w _ Y
  obtain ⟨fd, hbi, hF⟩ := F w mg fa _ inK G.T.g hmg
  exact law_callG inK G.T.g G.T.b G.T.builtins G.T.nolimit hg hobj hints (Nat.le_trans hlen hn2) hr hF hbi fun H hO hS => hsp w H a ns hlen hO hS
end L2.G
set_option Elab.async false
set_option linter.all false
set_option maxRecDepth 100000
set_option maxHeartbeats 2000000
namespace L2.G
open PySem PySem.Spec PyProof.Rows
/-! bundles: a def, a class, a method by what it promises -/
structure CalG (P : Program) (w : World) (K : PySem.W.Frag) (mg : Str → Option Value) (base : Heap) (k : Nat) (x : Str) (sp : Sp) : Prop where
  ex : ∃ (f : Addr) (fd : FuncData) (ps : List Str), FnOkG P w K mg base CX0 k f fd ps sp ∧ mg x = some (.ref f) ∧ PySem.W.keepIn K (.ref f) = true ∧ Binds K fd ps []
structure MakK (P : Program) (w : World) (K : PySem.W.Frag) (mg : Str → Option Value) (base : Heap) (k : Nat) (x : Str) (C : Addr) (ks : List Str) (gV : List V → List V → List V) (sp : Sp) : Prop where
  ex : ∃ (f : Addr) (fd : FuncData) (ps : List Str) (g : List Value → List Value → List Value), Mk K C f ∧ FnOk P w K mg base CX0 k f fd ps sp ∧ mg x = some (.ref C) ∧ KBn K fd ps 1 ks g gV
structure MetK (P : Program) (w : World) (K : PySem.W.Frag) (mg : Str → Option Value) (base : Heap) (k : Nat) (C : Addr) (m : Str) (ks : List Str) (gV : List V → List V → List V) (sp : Sp) : Prop where
  ex : ∃ (f : Addr) (fd : FuncData) (ps : List Str) (g : List Value → List Value → List Value), Cls K C ∧ Meth K C m f ∧ FnOk P w K mg base CX0 k f fd ps sp ∧ KBn K fd ps 1 ks g gV
structure Spc (P : Program) (w : World) (K : PySem.W.Frag) (mg : Str → Option Value) (base : Heap) (k : Nat) (C : Addr) (m : Str) (sp : Sp) : Prop where
  ex : ∃ (f : Addr) (fd : FuncData) (ps : List Str), PySem.W.findIn K (.ref C) m = some (some (.ref f)) ∧ PySem.W.isFn K (.ref f) = true ∧ FnOk P w K mg base CX0 k f fd ps sp ∧ Binds K fd ps []
structure Prp (P : Program) (w : World) (K : PySem.W.Frag) (mg : Str → Option Value) (base : Heap) (k : Nat) (C : Addr) (m : Str) (sp : Sp) : Prop where
  ex : ∃ (p f : Addr) (fd : FuncData) (ps : List Str), Cls K C ∧ PropOf K C m p f ∧ FnOk P w K mg base CX0 k f fd ps sp ∧ Binds K fd ps []
section
variable {X : Cx} {k j : Nat} {C : Addr} {sp : Sp} {x m : Str} {p pos apos : Pos} {e o : Expr} {es : List Expr} {t tk : TA} {ta : TE} {kws : List Keyword} {ks : List Str} {gV : List V → List V → List V}
theorem pe_cG (c : CalG X.prog X.w X.K X.mg X.base k x sp) (qt : Quiet X.A) (hr : Room j X.A) (hk : k ≤ j) (hg : Gl X x) (ha : PA X (e :: es) t)
    (hdb : (x == ("__debug__" : Str)) = false := by decide) (he : starEach (e :: es) X.env = (false, eval e X.env) :: starEach es X.env := by rfl) (hpl : (backTo pos (starEach es X.env)).any (·.1) = false := by rfl) :
    PE X (.Call (.Name x p) (e :: es) [] pos) (tCall sp [] E0 t) := by
  obtain ⟨f, fd, ps, F, hm, kp, b⟩ := c.ex
  exact pe_callG F qt (hr.mono hk) hg hm kp b .nil pass0 ha hdb he hpl
theorem pe_mkK0 (c : MakK X.prog X.w X.K X.mg X.base k x C ks gV sp) (hr : Room j X.A) (hk : k + 1 ≤ j) (hg : Gl X x) (hkw : PK X kws tk)
    (hall : (backToKw pos (keywordEach kws X.env)).all (·.1.isSome) = true := by rfl) (hks : (backToKw pos (keywordEach kws X.env)).filterMap (·.1) = ks := by rfl) (hdb : (x == ("__debug__" : Str)) = false := by decide)
    (hpl : ((backTo pos (starEach [] X.env)).any (·.1) || (backToKw pos (keywordEach kws X.env)).any (·.1.isNone)) = false := by rfl) :
    PE X (.Call (.Name x p) [] kws pos) (tMakeK C 0 ks.length sp gV E0 tNil tk) := by
  obtain ⟨f, fd, ps, g, M, F, hm, b⟩ := c.ex
  exact pe_makeK0 M F (hr.mono hk) hg hm b pass0 hkw hall hks hdb hpl
/-- o.m(k = v, ..) -/
def tMethK (C : Addr) (m : Str) (n : Nat) (sp : Sp) (gV : List V → List V → List V) (ta : TE) (tk : TA) : TE := fun σ H Q => ta σ H fun x H1 => ∃ a dx fs, x = .ref a ∧ H1 a = some (.ins C dx fs) ∧ fs.lookup m = none ∧ tk σ H1 fun zs H2 => zs.length = n ∧ sp (gV [.ref a] zs) H2 Q E0
theorem pe_mtK {pl : Sem Bool} (c : MetK X.prog X.w X.K X.mg X.base k C m ks gV sp) (hr : Room j X.A) (hk : k ≤ j) (he : PE X o ta) (hkw : PK X kws tk)
    (hall : (backToKw pos (keywordEach kws X.env)).all (·.1.isSome) = true := by rfl) (hks : (backToKw pos (keywordEach kws X.env)).filterMap (·.1) = ks := by rfl)
    (hpl : ((backTo pos (starEach [] X.env)).any (·.1) || (backToKw pos (keywordEach kws X.env)).any (·.1.isNone)) = false := by rfl)
    (ht : eval (.Call (.Attribute o m apos) [] kws pos) X.env = (do
      let ov ← eval o X.env
      standAt apos.atName
      let (f, first) ← holding [ov] (getMethod ov m pl)
      callWith pos f first (backTo pos (starEach [] X.env)) (backToKw pos (keywordEach kws X.env))) := by rfl) :
    PE X (.Call (.Attribute o m apos) [] kws pos) (tMethK C m ks.length sp gV ta tk) := by
  obtain ⟨f, fd, ps, g, cl, hm, F, b⟩ := c.ex
  refine ⟨fun pins s σ H Q I h => PySem.W.methodCall_KW (pl := pl) (thn (he.run pins s σ H _ I h) fun u s1 hh => ?_) ht⟩
  obtain ⟨y, H1, I1, rx, a, dx, fs, ex, ea, l, q⟩ := hh
  subst ex
  cases (show u = Value.ref a from rx)
  refine getmeth_ok I1 ea cl hm l (PySem.W.callWith_KW0 (first := [.ref a]) (h₀ := X.base) I.ok.mod.kin hm.kp hall (thn (hkw.run pos pins s1 σ H1 _ I1 q) fun ws s2 hz => ?_) hpl)
  obtain ⟨zs, H2, I2, rz, l2, q2⟩ := hz
  refine ⟨I2.kIn, ?_⟩
  rw [hks]
  exact run_fnN (vs := [.ref a]) F (hr.mono hk) b pass0 I2 (.cons rfl .nil) rz rfl l2 q2
theorem pe_pr (c : Prp X.prog X.w X.K X.mg X.base k C m sp) (hr : Room j X.A) (hk : k + 1 ≤ j) (he : PE X e ta) (hab : attributeBase e m X.env (eval e X.env) = eval e X.env := by rfl) : PE X (.Attribute e m pos) (tProp C sp [] E0 ta) := by
  obtain ⟨p, f, fd, ps, cl, hp, F, b⟩ := c.ex
  exact pe_prop he cl hp F (hr.mono hk) b .nil (fun _ _ _ _ _ _ _ h => h.elim) hab
theorem sp_len (c : Spc X.prog X.w X.K X.mg X.base k C "__len__" sp) (hr : Room j X.A) (hk : k + 1 ≤ j) : CallR X (.builtin "len") (rLenI C sp E0) := by
  obtain ⟨f, fd, ps, h1, h2, F, b⟩ := c.ex
  exact cr_lenI F b pass0 (hr.mono hk) h1 h2
theorem sp_repr (c : Spc X.prog X.w X.K X.mg X.base k C "__repr__" sp) (hr : Room j X.A) (hk : k + 1 ≤ j) : CallR X (.builtin "repr") (rTxtI C sp E0) := by
  obtain ⟨f, fd, ps, h1, h2, F, b⟩ := c.ex
  exact cr_reprI F b pass0 (hr.mono hk) h1 h2
theorem sp_str (c : Spc X.prog X.w X.K X.mg X.base k C "__str__" sp) (hr : Room j X.A) (hk : k + 2 ≤ j) : CallR X (.type "str") (rTxtI C sp E0) := by
  obtain ⟨f, fd, ps, h1, h2, F, b⟩ := c.ex
  exact cr_strI F b pass0 (hr.mono hk) h1 h2
theorem sp_eq (c : Spc X.prog X.w X.K X.mg X.base k C "__eq__" sp) (hr : Room j X.A) (hk : k ≤ j) : OpR X (compareOp .Eq) (rEqI C sp E0 (NotSub X.K C) id) := by
  obtain ⟨f, fd, ps, h1, h2, F, b⟩ := c.ex
  exact op_eqI F b pass0 (hr.mono hk) h1 h2
theorem sp_ne (c : Spc X.prog X.w X.K X.mg X.base k C "__eq__" sp) (hm : PySem.W.mroIn X.K C (.type "object") = some true) (hne : PySem.W.findIn X.K (.ref C) "__ne__" = some (some (.builtin "object.__ne__"))) (hr : Room j X.A) (hk : k + 2 ≤ j) :
    OpR X (compareOp .NotEq) (rEqI C sp E0 (NotSub X.K C) fun b => !b) := by
  obtain ⟨f, fd, ps, h1, h2, F, b⟩ := c.ex
  exact op_neI F b pass0 (hr.mono hk) hm hne h1 h2
theorem sp_tru (c : Spc X.prog X.w X.K X.mg X.base k C "__len__" sp) (hn : PySem.W.findIn X.K (.ref C) "__bool__" = some none) (hr : Room j X.A) (hk : k + 1 ≤ j) : TruR X (rTruI C sp E0) := by
  obtain ⟨f, fd, ps, h1, h2, F, b⟩ := c.ex
  exact tr_lenI F b pass0 (hr.mono hk) hn h1 h2
end
/-- names that are still the built-in ones -/
structure Bn (mg : Str → Option Value) : Prop where
  len : mg "len" = none
  range : mg "range" = none
  str : mg "str" = none
  int : mg "int" = none
  abs : mg "abs" = none
  divmod : mg "divmod" = none
  all : mg "all" = none
  any : mg "any" = none
  repr : mg "repr" = none
  isinstance : mg "isinstance" = none
  max : mg "max" = none
  min : mg "min" = none
  bool : mg "bool" = none
  tuple : mg "tuple" = none
  list : mg "list" = none
  enumerate : mg "enumerate" = none
  zip : mg "zip" = none
  sorted : mg "sorted" = none
  sum : mg "sum" = none
end L2.G
set_option Elab.async false
set_option linter.all false
set_option maxRecDepth 100000
set_option maxHeartbeats 2000000
namespace L2.G
open PySem PySem.Spec PyProof.Rows
section
variable {X : Cx}
theorem PE_imp {e : Expr} {t t' : TE} (h : PE X e t) (m : ∀ σ H Q, t' σ H Q → t σ H Q) : PE X e t' := ⟨fun pins s σ H Q I q => h.run pins s σ H Q I (m σ H Q q)⟩
theorem IxR_imp {r r' : R2} (h : IxR X r) (m : ∀ x y H Q, r' x y H Q → r x y H Q) : IxR X r' := by
  intro a1 a2 a3 a4 a5 a6 a7 a8 a9 a10 a11 a12 a13 a14 q
  first
    | exact h a1 a2 a3 a4 a5 a6 a7 a8 a9 a10 a11 a12 a13 a14 (m _ _ _ _ q)
    | trace_state
theorem PSet_imp {t t' : TSet} (h : PSet X t) (m : ∀ o i v H Q, t' o i v H Q → t o i v H Q) : PSet X t' := fun pins s σ H o i v ov iv u Q I r1 r2 r3 q => h pins s σ H o i v ov iv u Q I r1 r2 r3 (m o i v H Q q)
theorem CallR_imp {f : Value} {r r' : List V → Hp → VK → Prop} (h : CallR X f r) (m : ∀ xs H Q, r' xs H Q → r xs H Q) : CallR X f r' := fun pins s σ H xs us Q I rx q => h pins s σ H xs us Q I rx (m xs H Q q)
theorem OpR_imp {f : Value → Value → Sem Value} {r r' : R2} (h : OpR X f r) (m : ∀ x y H Q, r' x y H Q → r x y H Q) : OpR X f r' := fun pins s σ H x y v u Q I rx ry q => h pins s σ H x y v u Q I rx ry (m x y H Q q)
/-- xs[i] of a tracked list or tuple, by reckoning -/
def cIx : R2 := fun x y H Q => match x, y with
  | .ref p, .int i => match H p with
    | some (.lst xs) => match atI xs i with
      | some v => Q v H
      | none => False
    | some (.tup xs) => match atI xs i with
      | some v => Q v H
      | none => False
    | _ => False
  | _, _ => False
theorem ix_c : IxR X cIx := by
  refine IxR_imp (IxR.or ix_list ix_tup) fun x y H Q q => ?_
  cases x <;> cases y <;> try exact q.elim
  rename_i p i
  unfold cIx at q
  dsimp only at q
  split at q
  · rename_i xs e
    split at q
    · rename_i v e2
      exact .inl ⟨p, xs, i, v, rfl, rfl, .inl (.inl e), e2, q⟩
    · exact q.elim
  · rename_i xs e
    split at q
    · rename_i v e2
      exact .inr ⟨p, xs, i, v, rfl, rfl, .inl (.inl e), e2, q⟩
    · exact q.elim
  · exact q.elim
/-- xs[i] = v of a tracked list -/
def cSet : TSet := fun o i v H Q => match o, i with
  | .ref p, .int k => match H p with
    | some (.lst xs) => match ixN xs.length k with
      | some j => Q (upd H p (.lst (xs.set j v)))
      | none => False
    | _ => False
  | _, _ => False
theorem set_c : PSet X cSet := by
  refine PSet_imp set_list fun o i v H Q q => ?_
  cases o <;> cases i <;> try exact q.elim
  rename_i p k
  unfold cSet at q
  dsimp only at q
  split at q
  · rename_i xs e
    split at q
    · rename_i j e2
      exact ⟨p, xs, k, j, rfl, rfl, e, e2, q⟩
    · exact q.elim
  · exact q.elim
/-- len of a text, a tracked list or tuple -/
def cLen : List V → Hp → VK → Prop := fun xs H Q => match xs with
  | [.str z] => z.length ≤ sizeLine ∧ Q (.int z.length) H
  | [.ref p] => match H p with
    | some (.lst ys) => Q (.int ys.length) H
    | some (.tup ys) => Q (.int ys.length) H
    | _ => False
  | _ => False
theorem len_c : CallR X (.builtin "len") cLen := by
  refine CallR_imp call_len fun xs H Q q => ?_
  match xs, q with
  | [.str z], q => exact ⟨.str z, z.length, rfl, ⟨q.1, rfl⟩, q.2⟩
  | [.ref p], q =>
    unfold cLen at q
    dsimp only at q
    split at q
    · rename_i ys e
      exact ⟨.ref p, ys.length, rfl, .inl ⟨ys, .inl (.inl e), rfl⟩, q⟩
    · rename_i ys e
      exact ⟨.ref p, ys.length, rfl, .inr ⟨ys, .inl (.inl e), rfl⟩, q⟩
    · exact q.elim
/-- int(n) of an int -/
def cInt : List V → Hp → VK → Prop := fun xs H Q => match xs with
  | [.int i] => Q (.int i) H
  | _ => False
theorem int_c : CallR X (.type "int") cInt := by
  refine CallR_imp call_int1 fun xs H Q q => ?_
  match xs, q with
  | [.int i], q => exact .inl ⟨i, rfl, q⟩
/-- o.f of a tracked instance -/
def cFld (C : Addr) (ta : TE) (f : Str) : TE := fun σ H Q => ta σ H fun x H1 => match x with
  | .ref a => match H1 a with
    | some (.ins C' dx fs) => C' = C ∧ match fs.lookup f with
      | some v => Q v H1
      | none => False
    | _ => False
  | _ => False
theorem pe_fldC {e : Expr} {ta : TE} {f : Str} {C : Addr} {pos : Pos} (c : Cls X.K C) (n : NoAttr X.K C f) (he : PE X e ta) (mono : ∀ σ H Q Q', (∀ v H', Q v H' → Q' v H') → ta σ H Q → ta σ H Q') (hb : attributeBase e f X.env (eval e X.env) = eval e X.env := by rfl) :
    PE X (.Attribute e f pos) (cFld C ta f) := by
  refine PE_imp (pe_fld he hb) fun σ H Q q0 => mono σ H _ _ (fun x H1 q => ?_) q0
  cases x <;> try exact q.elim
  rename_i a
  dsimp only at q
  split at q
  · rename_i C' dx fs e
    obtain ⟨rfl, q⟩ := q
    split at q
    · rename_i v e2
      exact ⟨a, C', dx, fs, v, rfl, e, c, n, e2, q⟩
    · exact q.elim
  · exact q.elim
theorem mono_var {i : Nat} : ∀ σ H (Q Q' : VK), (∀ v H', Q v H' → Q' v H') → tVar i σ H Q → tVar i σ H Q' := fun σ H Q Q' m ⟨v, e, q⟩ => ⟨v, e, m _ _ q⟩
/-- divmod of two ints -/
def cDivmod : List V → Hp → VK → Prop := fun xs H Q => match xs with
  | [.int i, .int j] => CDiv i j ∧ ∀ p, H p = none → Q (.ref p) (upd H p (.tup [.int (i / j), .int (i % j)]))
  | _ => False
theorem divmod_c : CallR X (.builtin "divmod") cDivmod := by
  refine CallR_imp call_divmod fun xs H Q q => ?_
  match xs, q with
  | [.int i, .int j], q => exact ⟨i, j, rfl, q⟩
/-- a, b = .. of a tracked tuple -/
def cTup (n : Nat) (t : TGs) : TG := fun v σ H Q => match v with
  | .ref a => match H a with
    | some (.tup xs) => xs.length = n ∧ t xs σ H Q
    | _ => False
  | _ => False
theorem pg_tupC (n : Nat) {es : List Expr} {k : Nat} {t : TGs} {pos : Pos} (hc : X.calm = true) (h : PGs X es t) (hn : (assignEach es X.env).length = n := by rfl) (hst : (assignEach es X.env).findIdx? (·.1) = none := by rfl) : PG X (.Tuple es k pos) (cTup n t) := by
  refine ⟨fun pins s σ H v u Q I r q => ?_⟩
  refine (pg_tup hc h hn hst).run pins s σ H v u Q I r ?_
  cases v <;> try exact q.elim
  rename_i a
  unfold cTup at q
  dsimp only at q
  split at q
  · rename_i xs e
    exact ⟨a, xs, rfl, .inl (.inl e), q⟩
  · exact q.elim
/-- the name of a value's type -/
def tyN (H : Hp) : V → Option String
  | .non => some "NoneType"
  | .bl _ => some "bool"
  | .int _ => some "int"
  | .str _ => some "str"
  | .ref a => match H a with
    | some (.lst _) => some "list"
    | some (.tup _) => some "tuple"
    | some (.dK _) => some "dict"
    | _ => none
  | _ => none
theorem tyN_ref {H : Hp} {a : Addr} {t : String} (h : tyN H (.ref a) = some t) : (∃ xs, H a = some (.lst xs) ∧ t = "list") ∨ (∃ xs, H a = some (.tup xs) ∧ t = "tuple") ∨ ∃ kvs, H a = some (.dK kvs) ∧ t = "dict" := by
  unfold tyN at h
  dsimp only at h
  split at h
  · rename_i e; exact .inl ⟨_, e, (Option.some.inj h).symm⟩
  · rename_i e; exact .inr (.inl ⟨_, e, (Option.some.inj h).symm⟩)
  · rename_i e; exact .inr (.inr ⟨_, e, (Option.some.inj h).symm⟩)
  · cases h
def tyNs : List String := ["NoneType", "bool", "int", "str", "list", "tuple", "dict"]
theorem tyN_mem {H : Hp} {x : V} {t : String} (h : tyN H x = some t) : t ∈ tyNs := by
  unfold tyN at h
  cases x <;> simp only [Option.some.injEq, reduceCtorEq] at h <;> try (subst h; decide)
  split at h <;> simp only [Option.some.injEq, reduceCtorEq] at h <;> (subst h; decide)
theorem tyN_ty {K : PySem.W.Frag} {H : Hp} {x : V} {t : String} (h : tyN H x = some t) : TyX K H x (.type t) := by
  unfold tyN at h
  cases x <;> simp only [Option.some.injEq, reduceCtorEq] at h
  · subst h; exact .base .non
  · subst h; exact .base (.bl _)
  · subst h; exact .base (.int _)
  · subst h; exact .base (.str _)
  · split at h <;> simp only [Option.some.injEq, reduceCtorEq] at h <;> subst h
    · rename_i e; exact .base (.lst e)
    · rename_i e; exact .base (.tup e)
    · rename_i e; exact .base (.dK e)
def isB (a b : String) : Bool := a == b || (a == "bool" && b == "int")
/-- isinstance(x, T), T of a built-in type -/
def cIsiB (T : String) : List V → Hp → VK → Prop := fun xs H Q => match xs with
  | [x, .ty T'] => T' = T ∧ match tyN H x with
    | some t => Q (.bl (isB t T)) H
    | none => False
  | _ => False
theorem isi_c (T : String) (hT : ∀ t ∈ tyNs, kitB t T = some (isB t T)) : CallR X (.builtin "isinstance") (cIsiB T) := by
  refine CallR_imp call_isi fun xs H Q q => ?_
  match xs, q with
  | [x, .ty T'], ⟨e, q⟩ =>
    subst e
    split at q
    · rename_i t e
      exact ⟨x, .ty T', .type t, .type T', _, rfl, .ty T', tyN_ty e, kit_ty (hT t (tyN_mem e)), q⟩
    · exact q.elim
theorem isi_int : CallR X (.builtin "isinstance") (cIsiB "int") := isi_c _ (by decide +kernel)
theorem isi_str : CallR X (.builtin "isinstance") (cIsiB "str") := isi_c _ (by decide +kernel)
theorem isi_bool : CallR X (.builtin "isinstance") (cIsiB "bool") := isi_c _ (by decide +kernel)
theorem isi_tuple : CallR X (.builtin "isinstance") (cIsiB "tuple") := isi_c _ (by decide +kernel)
/-- a class of one's own as isinstance wants it -/
structure InC (K : PySem.W.Frag) (C : Addr) : Prop where
  cl : Cls K C
  at_ : PySem.W.findIn K (.ref C) "__class__" = some (some (.builtin "object.__class__"))
  mro : PySem.W.mroIn K C (.type "object") = some true
  no : ∀ t ∈ tyNs, PySem.W.kitOne K (.type t) (.ref C) = some false
/-- isinstance(x, C) -/
def cIsiC (C : Addr) : List V → Hp → VK → Prop := fun xs H Q => match xs with
  | [x, .ref C'] => C' = C ∧ match x with
    | .ref a => match H a with
      | some (.ins D _ _) => D = C ∧ Q (.bl true) H
      | _ => match tyN H (.ref a) with
        | some _ => Q (.bl false) H
        | none => False
    | x => match tyN H x with
      | some _ => Q (.bl false) H
      | none => False
  | _ => False
end
section
variable {X : Cx}
theorem isi_own {C : Addr} (c : InC X.K C) (hn : PySem.W.specialIn X.K (.builtin "object.__class__") "__get__" = some (some (.builtin "getset_descriptor.__get__"))) (htk : PySem.W.takesIn X.K (.builtin "object.__class__") = some true) :
    CallR X (.builtin "isinstance") (cIsiC C) := by
  refine CallR_imp call_isi fun xs H Q q0 => ?_
  have other : ∀ x t, tyN H x = some t → Q (.bl false) H → rIsi X.K [x, .ref C] H Q := fun x t e q => ⟨x, .ref C, .type t, .ref C, false, rfl, .own C, tyN_ty e, c.no t (tyN_mem e), q⟩
  have kind : ∀ x, (match tyN H x with | some _ => Q (.bl false) H | none => False) → rIsi X.K [x, .ref C] H Q := fun x q => by
    split at q
    · rename_i t e
      exact other x t e q
    · exact q.elim
  match xs, q0 with
  | [x, .ref C'], ⟨e, q⟩ =>
    subst e
    cases x <;> try exact kind _ q
    rename_i a
    dsimp only at q
    split at q
    · rename_i D dx fs e
      obtain ⟨rfl, q⟩ := q
      exact ⟨.ref a, .ref D, .ref D, .ref D, true, rfl, .own D, .base (.ins e c.cl c.at_ hn htk c.mro), by simp [PySem.W.kitOne], q⟩
    · exact kind _ q
end
section
variable {X : Cx}
theorem pe_gi {x : Str} {n : Int} {pos : Pos} (h : ∃ t, X.mg x = some (.int n t)) (hg : Gl X x := by rfl) (hd : (x == ("__debug__" : Str)) = false := by decide) : PE X (.Name x pos) (tC (.int n)) := by
  obtain ⟨t, h⟩ := h
  exact pe_glob hg h ⟨t, rfl⟩ hd
theorem pe_gs {x z : Str} {pos : Pos} (h : ∃ t, X.mg x = some (.str z t)) (hg : Gl X x := by rfl) (hd : (x == ("__debug__" : Str)) = false := by decide) : PE X (.Name x pos) (tC (.str z)) := by
  obtain ⟨t, h⟩ := h
  exact pe_glob hg h ⟨t, rfl⟩ hd
/-- a place where ways meet: P is what holds behind the statement -/
def tCut (t : TS) : TS := fun D σ H => ∃ R : St → Hp → Prop, t { D with nx := R } σ H ∧ ∀ σ' H', R σ' H' → D.nx σ' H'
theorem SP_nx {pins : List (Addr × Obj)} {D : Ends} {R : St → Hp → Prop} (m : ∀ σ' H', R σ' H' → D.nx σ' H') {f : Flow} {s' : Shared} (h : SP X pins { D with nx := R } f s') : SP X pins D f s' := by
  cases f with
  | next =>
    obtain ⟨σ', H', I, q⟩ := h
    exact ⟨σ', H', I, m _ _ q⟩
  | brk => exact h
  | cont => exact h
  | ret u => exact h
theorem ps_cut {st : Stmt} {t : TS} (h : PS X st t) : PS X st (tCut t) := by
  refine ⟨fun pins s σ H D I q => ?_⟩
  obtain ⟨R, q, m⟩ := q
  exact thn (h.run pins s σ H { D with nx := R } I q) fun f s' z => SP_nx m z
/-- a place where ways meet in an expression -/
def eCut (t : TE) : TE := fun σ H Q => ∃ R : VK, t σ H R ∧ ∀ v H', R v H' → Q v H'
theorem pe_cut {e : Expr} {t : TE} (h : PE X e t) : PE X e (eCut t) := by
  refine ⟨fun pins s σ H Q I q => ?_⟩
  obtain ⟨R, q, m⟩ := q
  refine thn (h.run pins s σ H R I q) fun u s' z => ?_
  obtain ⟨v, H', I', r, z⟩ := z
  exact ⟨v, H', I', r, m _ _ z⟩
def aCut (t : TT) : TT := fun σ H Q => ∃ R : Bool → Hp → Prop, t σ H R ∧ ∀ v H', R v H' → Q v H'
theorem pt_cut {e : Expr} {t : TT} (h : PT X e t) : PT X e (aCut t) := by
  refine ⟨fun pins s σ H Q I q => ?_⟩
  obtain ⟨R, q, m⟩ := q
  refine thn (h.run pins s σ H R I q) fun u s' z => ?_
  obtain ⟨H', I', z⟩ := z
  exact ⟨H', I', m _ _ z⟩
end
theorem isB_NoneType_int : isB "NoneType" "int" = false := by decide
theorem isB_NoneType_str : isB "NoneType" "str" = false := by decide
theorem isB_NoneType_bool : isB "NoneType" "bool" = false := by decide
theorem isB_NoneType_tuple : isB "NoneType" "tuple" = false := by decide
theorem isB_bool_int : isB "bool" "int" = true := by decide
theorem isB_bool_str : isB "bool" "str" = false := by decide
theorem isB_bool_bool : isB "bool" "bool" = true := by decide
theorem isB_bool_tuple : isB "bool" "tuple" = false := by decide
theorem isB_int_int : isB "int" "int" = true := by decide
theorem isB_int_str : isB "int" "str" = false := by decide
theorem isB_int_bool : isB "int" "bool" = false := by decide
theorem isB_int_tuple : isB "int" "tuple" = false := by decide
theorem isB_str_int : isB "str" "int" = false := by decide
theorem isB_str_str : isB "str" "str" = true := by decide
theorem isB_str_bool : isB "str" "bool" = false := by decide
theorem isB_str_tuple : isB "str" "tuple" = false := by decide
theorem isB_list_int : isB "list" "int" = false := by decide
theorem isB_list_str : isB "list" "str" = false := by decide
theorem isB_list_bool : isB "list" "bool" = false := by decide
theorem isB_list_tuple : isB "list" "tuple" = false := by decide
theorem isB_tuple_int : isB "tuple" "int" = false := by decide
theorem isB_tuple_str : isB "tuple" "str" = false := by decide
theorem isB_tuple_bool : isB "tuple" "bool" = false := by decide
theorem isB_tuple_tuple : isB "tuple" "tuple" = true := by decide
theorem isB_dict_int : isB "dict" "int" = false := by decide
theorem isB_dict_str : isB "dict" "str" = false := by decide
theorem isB_dict_bool : isB "dict" "bool" = false := by decide
theorem isB_dict_tuple : isB "dict" "tuple" = false := by decide
theorem upd_at {H : Hp} {a b : Addr} {o : HO} : upd H a o b = if b = a then some o else H b := rfl
theorem atI0 (v : V) (xs : List V) : atI (v :: xs) 0 = some v := atI_nat (j := 0) rfl
theorem atI1 (v u : V) (xs : List V) : atI (v :: u :: xs) 1 = some u := atI_nat (j := 1) rfl
theorem ixN20 : ixN 2 0 = some 0 := by decide
theorem ixN21 : ixN 2 1 = some 1 := by decide
end L2.G
set_option Elab.async false
set_option linter.all false
set_option maxRecDepth 100000
set_option maxHeartbeats 2000000
namespace L2.G
open PySem PySem.Spec PyProof.Rows
section
variable {K : PySem.W.Frag} {t : TE} {g : TG} {tb : TS} {D : Ends} {σ : St} {H : Hp}
/-- for x in range(e) -/
theorem for_rngC (n : Nat) (ev : t σ H fun v H1 => v = .int n ∧ H1 = H) (hn : n < 2 ^ 62) (Pv : Nat → St → Hp → Prop) (h0 : Pv 0 σ H)
    (turn : ∀ (i : Nat) σ H, i < n → Pv i σ H → g (.int i) σ H fun σ2 H2 => tb { D with nx := Pv (i + 1), ct := Pv (i + 1), bk := D.nx } σ2 H2) (fin : ∀ σ H, Pv n σ H → D.nx σ H) :
    tFor (iRng1 (tCons (eCut t) tNil)) g tb D σ H := by
  refine ⟨_, ev, ?_⟩
  rintro _ _ ⟨rfl, rfl⟩
  have e : ((n : Int)).toNat = n := Int.toNat_natCast n
  refine ⟨n, rfl, by omega, by omega, ?_⟩
  rw [e]
  refine for_range (lo := 0) (n := n) Pv h0 (fun i σ H hi p => ?_) fin
  rw [Int.zero_add]
  exact turn i σ H hi p
/-- for x in e, a list -/
theorem for_lstC (R : VK) (ev : t σ H R) (go : ∀ v H1, R v H1 → ∃ (a : Addr) (xs : List V) (Pv : Nat → St → Hp → Prop), v = .ref a ∧ Pv 0 σ H1 ∧ (∀ i σ H, i ≤ xs.length → Pv i σ H → SqL K H a xs) ∧
      (∀ (i : Nat) x σ H, xs[i]? = some x → Pv i σ H → g x σ H fun σ2 H2 => tb { D with nx := Pv (i + 1), ct := Pv (i + 1), bk := D.nx } σ2 H2) ∧ ∀ σ H, Pv xs.length σ H → D.nx σ H) :
    tFor (iList K (eCut t)) g tb D σ H := by
  refine ⟨R, ev, fun v H1 r => ?_⟩
  obtain ⟨a, xs, Pv, rfl, h0, hl, turn, fin⟩ := go v H1 r
  exact ⟨a, rfl, ⟨xs, hl 0 _ _ (Nat.zero_le _) h0⟩, for_list Pv h0 hl turn fin⟩
theorem for_tupC (R : VK) (ev : t σ H R) (go : ∀ v H1, R v H1 → ∃ (a : Addr) (xs : List V) (Pv : Nat → St → Hp → Prop), v = .ref a ∧ Pv 0 σ H1 ∧ (∀ i σ H, i ≤ xs.length → Pv i σ H → SqT K H a xs) ∧
      (∀ (i : Nat) x σ H, xs[i]? = some x → Pv i σ H → g x σ H fun σ2 H2 => tb { D with nx := Pv (i + 1), ct := Pv (i + 1), bk := D.nx } σ2 H2) ∧ ∀ σ H, Pv xs.length σ H → D.nx σ H) :
    tFor (iTup K (eCut t)) g tb D σ H := by
  refine ⟨R, ev, fun v H1 r => ?_⟩
  obtain ⟨a, xs, Pv, rfl, h0, hl, turn, fin⟩ := go v H1 r
  exact ⟨a, rfl, ⟨xs, hl 0 _ _ (Nat.zero_le _) h0⟩, for_tup Pv h0 hl turn fin⟩
variable {te : TE} {j : Nat} {Q : VK}
theorem wipe1 (σ : St) (j : Nat) (v : Option V) : wipe ((wipe σ [j]).set j v) [j] = wipe σ [j] := by
  show ((σ.set j none).set j v).set j none = σ.set j none
  rw [List.set_set, List.set_set]
/-- [e for x in range(n)], no test -/
theorem lc_rngC (n : Nat) (ev : t σ H fun v H1 => v = .int n ∧ H1 = H) (hn : n < 2 ^ 62)
    (go : ∀ L, H L = none → ∃ Pv : Nat → Hp → Prop, Pv 0 (upd H L (.lst [])) ∧ (∀ (i : Nat) H', i < n → Pv i H' → te ((wipe σ [j]).set j (some (.int i))) H' fun y H4 => ∃ acc, H4 L = some (.lst acc) ∧ acc.length < sizeLine ∧ Pv (i + 1) (upd H4 L (.lst (acc ++ [y])))) ∧ ∀ H', Pv n H' → Q (.ref L) H') :
    tLc (iRng1 (tCons (eCut t) tNil)) (gName j) tYes te [j] σ H Q := by
  refine ⟨_, ev, ?_⟩
  rintro _ _ ⟨rfl, rfl⟩
  have e : ((n : Int)).toNat = n := Int.toNat_natCast n
  refine ⟨n, rfl, by omega, by omega, fun L hL => ?_⟩
  obtain ⟨Pv, h0, turn, fin⟩ := go L hL
  rw [e]
  refine lc_range (lo := 0) (n := n) Pv h0 (fun i H' hi p => ?_) fin
  rw [Int.zero_add]
  refine ⟨wipe1 _ _ _, ?_⟩
  simp only [tYes, if_true]
  exact turn i H' hi p
/-- [e for x in text], no test -/
theorem lc_strC (z : Str) (ev : t σ H fun v H1 => v = .str z ∧ H1 = H)
    (go : ∀ L, H L = none → ∃ Pv : Nat → Hp → Prop, Pv 0 (upd H L (.lst [])) ∧ (∀ (i c : Nat) H', z.cps[i]? = some c → Pv i H' → te ((wipe σ [j]).set j (some (.str ⟨#[c]⟩))) H' fun y H4 => ∃ acc, H4 L = some (.lst acc) ∧ acc.length < sizeLine ∧ Pv (i + 1) (upd H4 L (.lst (acc ++ [y])))) ∧ ∀ H', Pv z.cps.size H' → Q (.ref L) H') :
    tLc (iStr (eCut t)) (gName j) tYes te [j] σ H Q := by
  refine ⟨_, ev, ?_⟩
  rintro _ _ ⟨rfl, rfl⟩
  refine ⟨z, rfl, fun L hL => ?_⟩
  obtain ⟨Pv, h0, turn, fin⟩ := go L hL
  refine lc_it walk_str Pv h0 (fun _ _ _ _ => trivial) (fun i x H' H'' hi p y => ?_) fin
  obtain ⟨rfl, c, hc, rfl⟩ := y
  refine ⟨wipe1 _ _ _, ?_⟩
  simp only [tYes, if_true]
  exact turn i c _ hc p
theorem same_mut {H H' : Hp} {p : Addr} {o : HO} (e : Same H H') (h : H p = none) : Same H (upd H' p o) := fun a u ha => by
  rw [upd_ne (ne_of_none ha h)]
  exact e a u ha
theorem same_new {H : Hp} {p : Addr} {o : HO} (h : H p = none) : Same H (upd H p o) := same_mut (Same.refl H) h
/-- [e for x in range(n)] whose element is a function of x and leaves what stands -/
theorem lc_rng_map (n : Nat) (f : Nat → V) (ev : t σ H fun v H1 => v = .int n ∧ H1 = H) (hn : n < 100000)
    (el : ∀ (i : Nat), i < n → ∀ (H' : Hp) (R : VK), Same H H' → (∀ H4, Same H' H4 → R (f i) H4) → te ((wipe σ [j]).set j (some (.int i))) H' R)
    (fin : ∀ L H', H L = none → Same H H' → H' L = some (.lst ((List.range n).map f)) → Q (.ref L) H') : tLc (iRng1 (tCons (eCut t) tNil)) (gName j) tYes te [j] σ H Q := by
  refine lc_rngC n ev (by omega) fun L hL => ⟨fun i H' => Same H H' ∧ H' L = some (.lst ((List.range i).map f)), ⟨same_new hL, upd_same⟩, fun i H' hi p => ?_, fun H' p => fin L H' hL p.1 p.2⟩
  refine el i hi H' _ p.1 fun H4 s4 => ⟨_, s4 _ _ p.2, ?_, same_mut (p.1.trans s4) hL, ?_⟩
  · rw [List.length_map, List.length_range]
    exact Nat.lt_of_lt_of_le (Nat.lt_trans hi hn) (by decide)
  · rw [upd_same, List.range_succ, List.map_append]
    rfl
/-- [e for x in text] likewise -/
theorem lc_str_map (z : Str) (f : Nat → V) (ev : t σ H fun v H1 => v = .str z ∧ H1 = H) (hn : z.cps.size < 100000)
    (el : ∀ (c : Nat), c ∈ z.cps.toList → ∀ (H' : Hp) (R : VK), Same H H' → (∀ H4, Same H' H4 → R (f c) H4) → te ((wipe σ [j]).set j (some (.str ⟨#[c]⟩))) H' R)
    (fin : ∀ L H', H L = none → Same H H' → H' L = some (.lst (z.cps.toList.map f)) → Q (.ref L) H') : tLc (iStr (eCut t)) (gName j) tYes te [j] σ H Q := by
  refine lc_strC z ev fun L hL => ⟨fun i H' => Same H H' ∧ H' L = some (.lst ((z.cps.toList.take i).map f)), ⟨same_new hL, upd_same⟩, fun i c H' hi p => ?_, fun H' p => fin L H' hL p.1 ?_⟩
  · have hi' : z.cps.toList[i]? = some c := by rw [Array.getElem?_toList]; exact hi
    have hlt : i < z.cps.toList.length := (List.getElem?_eq_some_iff.mp hi').1
    refine el c (List.mem_of_getElem? hi') H' _ p.1 fun H4 s4 => ⟨_, s4 _ _ p.2, ?_, same_mut (p.1.trans s4) hL, ?_⟩
    · rw [List.length_map, List.length_take]
      have : z.cps.toList.length = z.cps.size := Array.length_toList
      exact Nat.lt_of_lt_of_le (show min i _ < 100000 by omega) (by decide)
    · rw [upd_same, List.take_succ, List.map_append, hi']
      rfl
  · have h2 := p.2
    rw [← Array.length_toList, List.take_length] at h2
    exact h2
end
theorem joinL_signs : ∀ l : List Nat, TL.joinL [] (l.map fun c => [c]) = l
  | [] => rfl
  | [_] => rfl
  | a :: b :: l => by
    have h := joinL_signs (b :: l)
    simp only [List.map_cons, TL.joinL] at h ⊢
    rw [h]
    rfl
theorem join_signs (l : List Nat) : Txt.join "" (l.map fun c => (⟨#[c]⟩ : Str)) = ⟨l.toArray⟩ := by
  have h := SX.join_S [] (l.map fun c => [c])
  rw [joinL_signs, List.map_map] at h
  exact h
/-- "".join of signs -/
def cJoin : V → List V → Hp → VK → Prop := fun x xs H Q => ∃ (p : Addr) (l : List Nat), x = .str "" ∧ xs = [.ref p] ∧ H p = some (.lst (l.map fun c => .str ⟨#[c]⟩)) ∧ l.length ≤ 100000 ∧ Q (.str ⟨l.toArray⟩) H
theorem join_c {X : Cx} : MtR X "str.join" cJoin := by
  intro pins s σ H x xs v us Q I rx rs h
  obtain ⟨p, l, rfl, rfl, hp, hl, q⟩ := h
  refine mt_join pins s σ H _ _ v us Q I rx rs ⟨"", p, l.map fun c => ⟨#[c]⟩, rfl, rfl, .inl (.inl (.inl ?_)), ?_, ?_⟩
  · rw [hp, List.map_map]
    rfl
  · have e : ((l.map fun c => (⟨#[c]⟩ : Str)).map (·.length)).sum = l.length := by
      rw [List.map_map]
      clear hp q hl
      induction l with
      | nil => rfl
      | cons a l ih =>
        rw [List.map_cons, List.sum_cons, ih, List.length_cons]
        show 1 + l.length = _
        omega
    rw [e]
    have e0 : ("" : Str).length = 0 := rfl
    rw [e0]
    omega
  · rw [join_signs]
    exact q
theorem atI_mod (l : List Nat) (i : Int) (h : 0 < l.length) : atI l (i % (l.length : Int)) = some (l.getD (i % (l.length : Int)).toNat 0) := by
  have h0 : 0 ≤ i % (l.length : Int) := Int.emod_nonneg _ (by omega)
  have h1 : i % (l.length : Int) < l.length := Int.emod_lt_of_pos _ (by omega)
  have hi : (i % (l.length : Int)).toNat < l.length := by omega
  have e : atI l (((i % (l.length : Int)).toNat : Nat) : Int) = some (l.getD (i % (l.length : Int)).toNat 0) := atI_nat (by rw [List.getD_eq_getElem?_getD, List.getElem?_eq_getElem hi]; rfl)
  rwa [Int.toNat_of_nonneg h0] at e
theorem scal_ss (a b : Str) : scal (.str a) (.str b) = true := rfl
theorem scal_ii (a b : Int) : scal (.int a) (.int b) = true := rfl
theorem scal_bb (a b : Bool) : scal (.bl a) (.bl b) = true := rfl
theorem scal_nn : scal .non .non = true := rfl
end L2.G
set_option Elab.async false
set_option linter.all false
set_option maxRecDepth 100000
set_option maxHeartbeats 4000000
namespace L2.G
open PySem PySem.Spec PyProof.Rows
local macro_rules | `(tactic| walk_at "rd") => `(tactic| first | simp only [cxOf, tSeq, tMethK, tMeth, tMake, tMakeK, tProp, rLenI, rTxtI, rTruI, rEqI, tJs, tFmt, wipe, tBM, tBM0, tyV, cJoin, rIxS, sFld, tAsg, tOp, tUn, tCB, tCons, tNil, tVar, tC, rI, rI0, rU, cIx, cSet, cLen, cInt, cDivmod, cTup, cIsiB, cIsiC, cFld, tyN, isB_NoneType_int, isB_NoneType_str, isB_NoneType_bool, isB_NoneType_tuple, isB_bool_int, isB_bool_str, isB_bool_bool, isB_bool_tuple, isB_int_int, isB_int_str, isB_int_bool, isB_int_tuple, isB_str_int, isB_str_str, isB_str_bool, isB_str_tuple, isB_list_int, isB_list_str, isB_list_bool, isB_list_tuple, isB_tuple_int, isB_tuple_str, isB_tuple_bool, isB_tuple_tuple, isB_dict_int, isB_dict_str, isB_dict_bool, isB_dict_tuple, gSub, start, tIfS, tTest, tB, tNot, tAnd, tOr, tAndV, tOrV, tNotV, tChain, tIf, tSl, tPart, tNoPart, rSlL, rSlS, tLst, tTup, tYes, tRet, tNext, tDrop, gCons, gNil, gName, tCall, tPar, rEq, rNe, scal_ss, scal_ii, scal_bb, scal_nn, tNever,
  List.map_cons, List.map_nil, List.length_cons, List.length_nil, List.replicate, List.cons_append, List.nil_append, List.append_nil, List.getElem?_cons_zero, List.getElem?_cons_succ, List.set_cons_zero, List.set_cons_succ, List.getElem?_nil, Nat.reduceAdd, Nat.reduceSub, List.replicate_succ, List.replicate_zero,
  Option.some.injEq, V.int.injEq, V.ref.injEq, V.str.injEq, V.bl.injEq, V.ty.injEq, List.cons.injEq, and_true, true_and, and_assoc, exists_false, false_and, or_false, false_or, and_false, exists_eq_left', exists_and_left, exists_eq_left, upd_same, atI0, atI1, ixN20, ixN21, decide_eq_true_eq, if_true, if_false, reduceIte, Bool.false_eq_true, Bool.not_true, Bool.not_false, Bool.not_eq_true', decide_eq_false_iff_not,  reduceCtorEq, eq_self, decide_true, decide_false, not_true_eq_false, not_false_eq_true, id_eq] | skip)
def top (i : Nat) : Stmt := PySem.Challenge.pw_glimpserounds_k02_whole_windows_of_signs.main.body.getD i (.Pass ⟨0, 0, 0, 0⟩)
abbrev s_WrongValue_init : Stmt := inClass (top 1) 0
abbrev s_InvalidText_init : Stmt := inClass (top 2) 0
abbrev s_InvalidPace_init : Stmt := inClass (top 3) 0
abbrev s_InvalidWidth_init : Stmt := inClass (top 4) 0
abbrev s_InvalidTime_init : Stmt := inClass (top 5) 0
abbrev s_is_whole : Stmt := top 12
abbrev s_is_time : Stmt := top 13
abbrev s_check_time : Stmt := top 14
abbrev s_check_width : Stmt := top 15
abbrev s_is_pace : Stmt := top 16
abbrev s_check_pace : Stmt := top 17
abbrev s_number_at : Stmt := top 18
abbrev s_numbers_at : Stmt := top 19
abbrev s_is_text : Stmt := top 21
abbrev s_Sign_init : Stmt := inClass (top 22) 0
abbrev s_Sign_text : Stmt := inClass (top 22) 1
abbrev s_Sign_pace : Stmt := inClass (top 22) 2
abbrev s_Sign_window : Stmt := inClass (top 22) 3
abbrev s_Sign_eq : Stmt := inClass (top 22) 4
abbrev s_Sign_len : Stmt := inClass (top 22) 5
abbrev s_Sign_str : Stmt := inClass (top 22) 6
abbrev s_Sign_repr : Stmt := inClass (top 22) 7
abbrev s_l_cup : Stmt := top 24
abbrev s_l_sip : Stmt := top 25
abbrev s_l_pick : Stmt := top 26
abbrev s_l_right : Stmt := top 27
abbrev s_law : Stmt := top 28
theorem sc_l_sip : FnScope ["_law_cup_here", "_law_many", "_law_part"] ["_law_cup_here", "_law_many"] (defScope s_l_sip) := ⟨rfl, rfl, rfl, by decide +kernel, rfl, by decide +kernel, by decide +kernel⟩
theorem sc_l_cup : FnScope ["_law_script", "_law_spot", "_law_cell", "_law_part"] ["_law_script", "_law_spot"] (defScope s_l_cup) := ⟨rfl, rfl, rfl, by decide +kernel, rfl, by decide +kernel, by decide +kernel⟩
theorem sc_l_pick : FnScope ["_law_cup_here", "_law_things"] ["_law_cup_here", "_law_things"] (defScope s_l_pick) := ⟨rfl, rfl, rfl, by decide +kernel, rfl, by decide +kernel, by decide +kernel⟩
section
variable {P : Program} {w : World} {K : PySem.W.Frag} {mg : Str → Option Value} {base : Heap}
/-- the state of the draws -/
def Cup (H : Hp) (p : Addr) : Prop := ∃ a b : Int, H p = some (.lst [.int a, .int b]) ∧ 0 ≤ a ∧ a < 2147483629 ∧ 0 ≤ b
/-- all but p is as it was -/
def But (p : Addr) (H H' : Hp) : Prop := ∀ b o, b ≠ p → H b = some o → H' b = some o
def spSip : Sp := fun vs H Q _ => ∃ (p : Addr) (n : Int), vs = [.ref p, .int n] ∧ Cup H p ∧ 0 < n ∧ n < 1073741824 ∧ ∀ (k : Int) (H' : Hp), 0 ≤ k → k < n → Cup H' p → But p H H' → Q (.int k) H'
theorem ok_sip {f : Addr} {fd : FuncData} (F : Fun K "_law_sip" "_law_sip" s_l_sip f fd) (B : Bn mg) : FnOk P w K mg base CX0 1 f fd ["_law_cup_here", "_law_many"] spSip := by
  refine F.ok sc_l_sip (fun vs H Q E h => ?_) (fun cdv A outer s H vs Q E hr h => ?_)
  · obtain ⟨p, n, rfl, _⟩ := h
    rfl
  · obtain ⟨p, n, rfl, ⟨a, b, hp, a0, a1, b0⟩, n0, n1, k⟩ := h
    refine ⟨_, (pss_cons (ps_asg (pe_op op_mod (pe_callTy int_c rfl B.int boot_int (pa_cons (pe_op op_add (pe_op op_mul (pe_ix ix_c (pv 0) pe_int (fun _ _ => rfl)) pe_int) pe_int) pa_nil)) pe_int) (pg_sub (pv 0) pe_int set_c))
      (pss_cons (ps_if (pt_cmpR op_gt (pe_ix ix_c (pv 0) pe_int (fun _ _ => rfl)) pe_int (nomark _)) (pss_cons (ps_asg (pe_callB divmod_c rfl B.divmod boot_divmod (pa_cons (pe_ix ix_c (pv 0) pe_int (fun _ _ => rfl)) (pa_cons (pv 1) pa_nil))) (pg_tupC 2 rfl (pgs_cons (pg_sub (pv 0) pe_int set_c) (pgs_cons (pg_name (i := 2) sc_l_sip.nd rfl (Or.inl rfl)) pgs_nil))))
      (pss_one (ps_ret (pv 2)))) pss_nil)
      (pss_one (ps_ret (pe_op op_mod (pe_callTy int_c rfl B.int boot_int (pa_cons (pe_op op_fdiv (pe_ix ix_c (pv 0) pe_int (fun _ _ => rfl)) pe_int) pa_nil)) (pv 1)))))), ?_⟩
    walk_at "rd"
    simp only [hp]
    walk_at "rd"
    have m1 : CMul a 48271 := .inr ⟨by decide, by decide⟩
    refine ⟨m1, by decide, ?_⟩
    split
    · refine ⟨⟨n0, n1⟩, fun q hq => ?_⟩
      have npq : p ≠ q := fun e => by subst e; rw [upd_same] at hq; cases hq
      walk_at "rd"
      simp only [upd_ne npq]
      walk_at "rd"
      refine k _ _ (Int.emod_nonneg _ (by omega)) (Int.emod_lt_of_pos _ n0) ⟨_, _, upd_same, Int.emod_nonneg _ (by decide), Int.emod_lt_of_pos _ (by decide), Int.ediv_nonneg b0 (by omega)⟩ fun c o hc e => ?_
      rw [upd_ne hc, upd_ne, upd_ne hc]
      · exact e
      · intro z
        subst z
        rw [upd_ne hc, e] at hq
        cases hq
    · refine ⟨⟨by decide, by decide⟩, n0, ?_⟩
      refine k _ _ (Int.emod_nonneg _ (by omega)) (Int.emod_lt_of_pos _ n0) ⟨_, _, upd_same, Int.emod_nonneg _ (by decide), Int.emod_lt_of_pos _ (by decide), b0⟩ fun c o hc e => ?_
      rw [upd_ne hc]
      exact e
def spCup (K : PySem.W.Frag) : Sp := fun vs H Q _ => ∃ (a : Addr) (ns : List Int) (j : Nat), vs = [.ref a, .int j] ∧ SqL K H a (ns.map V.int) ∧ ns.length ≤ 63 ∧ j ≤ 63 ∧ ∀ (p : Addr) (H' : Hp), H p = none → Same H H' → Cup H' p → Q (.ref p) H'
theorem all_int_cut {ns : List Int} {lo hi : Option Int} {i : Nat} {x : V} (h : (cutV (ns.map V.int) lo hi)[i]? = some x) : ∃ n : Int, x = .int n := by
  have hm : x ∈ cutV (ns.map V.int) lo hi := List.mem_of_getElem? h
  unfold cutV at hm
  obtain ⟨n, _, e⟩ := List.mem_map.mp (List.mem_of_mem_drop (List.mem_of_mem_take hm))
  exact ⟨n, e.symm⟩
theorem ok_cup {f : Addr} {fd : FuncData} (F : Fun K "_law_cup" "_law_cup" s_l_cup f fd) (B : Bn mg) : FnOk P w K mg base CX0 1 f fd ["_law_script", "_law_spot"] (spCup K) := by
  refine F.ok sc_l_cup (fun vs H Q E h => ?_) (fun cdv A outer s H vs Q E hr h => ?_)
  · obtain ⟨a, ns, j, rfl, _⟩ := h
    rfl
  · obtain ⟨a, ns, j, rfl, hS, l0, j0, k⟩ := h
    have hlen : LenV K (.ref a) H ns.length := .inl ⟨_, hS, by simp⟩
    refine ⟨_, (pss_cons (ps_cut (ps_set (i := 2) sc_l_cup.nd rfl (Or.inl rfl) (pe_ifExp (pt_cmpR op_lt (pv 1) (pe_callB call_len rfl B.len boot_len (pa_cons (pv 0) pa_nil)) (nomark _)) (pe_ix ix_list (pv 0) (pv 1) (fun _ _ => rfl)) (pe_op op_add (pe_op op_mul pe_int (pv 1)) pe_int))))
      (pss_cons (ps_for PassesOwn.never rfl (pi_list (pe_cut (pe_ifExp (pt_cmpR op_ge (pv 1) (pe_callB call_len rfl B.len boot_len (pa_cons (pv 0) pa_nil)) (nomark _)) (pe_slice sl_list (pv 0) po_none (po_some pe_int)) (pe_lst pa_nil)))) (pg_name (i := 3) sc_l_cup.nd rfl (Or.inl rfl)) (pss_one (ps_set (i := 2) sc_l_cup.nd rfl (Or.inl rfl) (pe_op op_mod (pe_callTy int_c rfl B.int boot_int (pa_cons (pe_op op_add (pe_op op_mul (pv 2) pe_int) (pv 3)) pa_nil)) pe_int))))
      (pss_one (ps_ret (pe_lst (pa_cons (pe_op op_mod (pe_callTy int_c rfl B.int boot_int (pa_cons (pe_op op_add (pe_op op_add (pe_op op_mul (pv 2) pe_int) (pe_op op_mul pe_int (pv 1))) pe_int) pa_nil)) pe_int) (pa_cons (pe_ifExp (PW.pt (pw_or (pt_cmpR op_lt (pv 2) pe_int (nomark _)) (pw_or1 (pt_cmpR op_ge (pv 2) (pe_op op_pow pe_int pe_int) (nomark _))))) (pe_callB call_abs rfl B.abs boot_abs (pa_cons (pv 2) pa_nil)) pe_int) pa_nil))))))), ?_⟩
    obtain ⟨R0, hR0⟩ : ∃ R : St → Hp → Prop, R = fun σ H' => H' = H ∧ ∃ c : Int, σ = [some (.ref a), some (.int j), some (.int c), none] := ⟨_, rfl⟩
    walk_at "rd"
    refine ⟨R0, ?_, ?_⟩
    · walk_at "rd"
      refine ⟨ns.length, hlen, ?_⟩
      split
      · rename_i hj
        have hj' : j < ns.length := by omega
        refine ⟨_, _, _, .int (ns[j]), rfl, rfl, hS, atI_nat (by simp [hj']), ?_⟩
        rw [hR0]
        exact ⟨rfl, _, rfl⟩
      · refine ⟨.inl ⟨by decide, by decide⟩, ?_⟩
        rw [hR0]
        exact ⟨rfl, _, rfl⟩
    · rw [hR0]
      rintro _ H0 ⟨rfl, c, rfl⟩
      obtain ⟨R1, hR1⟩ : ∃ R : VK, R = fun v H1 => ∃ (q : Addr) (xs : List V), v = .ref q ∧ Same H0 H1 ∧ H1 q = some (.lst xs) ∧ ∀ (i : Nat) x, xs[i]? = some x → ∃ n : Int, x = .int n := ⟨_, rfl⟩
      refine for_lstC R1 ?_ ?_
      · walk_at "rd"
        refine ⟨ns.length, hlen, ?_⟩
        split
        · refine ⟨_, hS, fun p hp => ?_⟩
          rw [hR1]
          exact ⟨p, _, rfl, Evl.Ex.new hp, upd_same, fun i x e => all_int_cut e⟩
        · refine ⟨by decide, fun p hp => ?_⟩
          rw [hR1]
          exact ⟨p, _, rfl, Evl.Ex.new hp, upd_same, fun i x e => by simp at e⟩
      · rw [hR1]
        rintro _ H1 ⟨q, xs, rfl, s1, hq, hx⟩
        obtain ⟨Pv, hPv⟩ : ∃ Pv : Nat → St → Hp → Prop, Pv = fun i σ H2 => H2 = H1 ∧ ∃ (c' : Int) (v : Option V), σ = [some (.ref a), some (.int j), some (.int c'), v] := ⟨_, rfl⟩
        refine ⟨q, xs, Pv, rfl, by rw [hPv]; exact ⟨rfl, c, none, rfl⟩, ?_, ?_, ?_⟩
        · rw [hPv]
          rintro i _ _ _ ⟨rfl, _⟩
          exact .inl (.inl hq)
        · intro i x σ2 H2 hi hp
          rw [hPv] at hp
          obtain ⟨rfl, c', v, rfl⟩ := hp
          obtain ⟨n, rfl⟩ := hx i x hi
          walk_at "rd"
          refine ⟨.inr ⟨by decide, by decide⟩, by decide, ?_⟩
          rw [hPv]
          exact ⟨rfl, _, _, rfl⟩
        · intro σ2 H2 hp
          rw [hPv] at hp
          obtain ⟨rfl, c', v, rfl⟩ := hp
          walk_at "rd"
          have fin : ∀ (b : Int) (p : Addr), 0 ≤ b → H2 p = none → Q (.ref p) (upd H2 p (.lst [.int ((c' * 4099 + 271 * ↑j + 17) % 2147483629), .int b])) := fun b p hb hp =>
            k p _ (s1.free hp) (s1.trans (Evl.Ex.new hp)) ⟨_, b, upd_same, Int.emod_nonneg _ (by decide), Int.emod_lt_of_pos _ (by decide), hb⟩
          refine ⟨.inr ⟨by decide, by decide⟩, .inl ⟨by decide, by decide⟩, by decide, ?_⟩
          split
          · exact ⟨by decide, fun p hp => fin _ p (by omega) hp⟩
          · refine ⟨⟨by decide, by decide, by decide⟩, ?_⟩
            split
            · exact ⟨by decide, fun p hp => fin _ p (by omega) hp⟩
            · exact ⟨by decide, fun p hp => fin _ p (by omega) hp⟩
end
end L2.G
set_option Elab.async false
set_option linter.all false
set_option maxRecDepth 100000
set_option maxHeartbeats 4000000
namespace L2.G
open PySem PySem.Spec PyProof.Rows
local macro_rules | `(tactic| walk_at "rd") => `(tactic| first | simp only [cxOf, tSeq, tMethK, tMeth, tMake, tMakeK, tProp, rLenI, rTxtI, rTruI, rEqI, tJs, tFmt, wipe, tBM, tBM0, tyV, cJoin, rIxS, sFld, tAsg, tOp, tUn, tCB, tCons, tNil, tVar, tC, rI, rI0, rU, cIx, cSet, cLen, cInt, cDivmod, cTup, cIsiB, cIsiC, cFld, tyN, isB_NoneType_int, isB_NoneType_str, isB_NoneType_bool, isB_NoneType_tuple, isB_bool_int, isB_bool_str, isB_bool_bool, isB_bool_tuple, isB_int_int, isB_int_str, isB_int_bool, isB_int_tuple, isB_str_int, isB_str_str, isB_str_bool, isB_str_tuple, isB_list_int, isB_list_str, isB_list_bool, isB_list_tuple, isB_tuple_int, isB_tuple_str, isB_tuple_bool, isB_tuple_tuple, isB_dict_int, isB_dict_str, isB_dict_bool, isB_dict_tuple, gSub, start, tIfS, tTest, tB, tNot, tAnd, tOr, tAndV, tOrV, tNotV, tChain, tIf, tSl, tPart, tNoPart, rSlL, rSlS, tLst, tTup, tYes, tRet, tNext, tDrop, gCons, gNil, gName, tCall, tPar, rEq, rNe, scal_ss, scal_ii, scal_bb, scal_nn, tNever,
  List.map_cons, List.map_nil, List.length_cons, List.length_nil, List.replicate, List.cons_append, List.nil_append, List.append_nil, List.getElem?_cons_zero, List.getElem?_cons_succ, List.set_cons_zero, List.set_cons_succ, List.getElem?_nil, Nat.reduceAdd, Nat.reduceSub, List.replicate_succ, List.replicate_zero,
  Option.some.injEq, V.int.injEq, V.ref.injEq, V.str.injEq, V.bl.injEq, V.ty.injEq, List.cons.injEq, and_true, true_and, and_assoc, exists_false, false_and, or_false, false_or, and_false, exists_eq_left', exists_and_left, exists_eq_left, upd_same, atI0, atI1, ixN20, ixN21, decide_eq_true_eq, if_true, if_false, reduceIte, Bool.false_eq_true, Bool.not_true, Bool.not_false, Bool.not_eq_true', decide_eq_false_iff_not,  reduceCtorEq, eq_self, decide_true, decide_false, not_true_eq_false, not_false_eq_true, id_eq] | skip)
theorem sc_is_whole : FnScope ["value", "least", "most"] ["value", "least", "most"] (defScope s_is_whole) := ⟨rfl, rfl, rfl, by decide +kernel, rfl, by decide +kernel, by decide +kernel⟩
theorem sc_is_time : FnScope ["value"] ["value"] (defScope s_is_time) := ⟨rfl, rfl, rfl, by decide +kernel, rfl, by decide +kernel, by decide +kernel⟩
theorem sc_is_pace : FnScope ["value"] ["value"] (defScope s_is_pace) := ⟨rfl, rfl, rfl, by decide +kernel, rfl, by decide +kernel, by decide +kernel⟩
theorem sc_check_time : FnScope ["time"] ["time"] (defScope s_check_time) := ⟨rfl, rfl, rfl, by decide +kernel, rfl, by decide +kernel, by decide +kernel⟩
theorem sc_check_width : FnScope ["width"] ["width"] (defScope s_check_width) := ⟨rfl, rfl, rfl, by decide +kernel, rfl, by decide +kernel, by decide +kernel⟩
theorem sc_check_pace : FnScope ["pace"] ["pace"] (defScope s_check_pace) := ⟨rfl, rfl, rfl, by decide +kernel, rfl, by decide +kernel, by decide +kernel⟩
theorem sc_is_text : FnScope ["value", "letter"] ["value"] (defScope s_is_text) := ⟨rfl, rfl, rfl, by decide +kernel, rfl, by decide +kernel, by decide +kernel⟩
section
variable {P : Program} {w : World} {K : PySem.W.Frag} {mg : Str → Option Value} {base : Heap}
abbrev Cal (P : Program) (w : World) (K : PySem.W.Frag) (mg : Str → Option Value) (base : Heap) (k : Nat) (x : Str) (sp : Sp) : Prop := C8.Cal P w K mg base k x sp []
def spPick : Sp := fun vs H Q _ => ∃ (p q : Addr) (xs : List V), vs = [.ref p, .ref q] ∧ Cup H p ∧ q ≠ p ∧ H q = some (.lst xs) ∧ 0 < xs.length ∧ xs.length < 1000 ∧ ∀ (i : Nat) (v : V) (H' : Hp), xs[i]? = some v → Cup H' p → But p H H' → Q v H'
theorem ok_pick {f : Addr} {fd : FuncData} (F : Fun K "_law_pick" "_law_pick" s_l_pick f fd) (B : Bn mg) (c_l_sip : Cal P w K mg base 1 "_law_sip" spSip) : FnOk P w K mg base CX0 2 f fd ["_law_cup_here", "_law_things"] spPick := by
  refine F.ok sc_l_pick (fun vs H Q E h => ?_) (fun cdv A outer s H vs Q E hr h => ?_)
  · obtain ⟨p, q, xs, rfl, _⟩ := h
    rfl
  · obtain ⟨p, q, xs, rfl, hc, hqp, hq, l0, l1, k⟩ := h
    refine ⟨_, (pss_one (ps_ret (pe_ix ix_c (pv 1) (C8.pe_c c_l_sip hr (by decide) rfl (pa_cons (pv 0) (pa_cons (pe_callB len_c rfl B.len boot_len (pa_cons (pv 1) pa_nil)) pa_nil))) (fun _ _ => rfl)))), ?_⟩
    walk_at "rd"
    simp only [hq]
    refine ⟨p, _, rfl, hc, by omega, by omega, fun i H' i0 i1 hc' hb => ?_⟩
    have hi : i.toNat < xs.length := by omega
    have e : atI xs i = some xs[i.toNat] := by
      have z : atI xs ((i.toNat : Nat) : Int) = some xs[i.toNat] := atI_nat (by simp [hi])
      rwa [Int.toNat_of_nonneg i0] at z
    walk_at "rd"
    simp only [hb q _ hqp hq, e]
    exact k i.toNat _ H' (by simp [hi]) hc' hb
/-- whether a value is an int from lo to hi -/
def isWhole (v : V) (lo hi : Int) : Bool := match v with
  | .int i => decide (lo ≤ i ∧ i ≤ hi)
  | _ => false
def spWhole : Sp := fun vs H Q _ => ∃ (v : V) (lo hi : Int) (t : String), vs = [v, .int lo, .int hi] ∧ tyN H v = some t ∧ Q (.bl (isWhole v lo hi)) H
theorem ok_whole {f : Addr} {fd : FuncData} (F : Fun K "is_whole" "is_whole" s_is_whole f fd) (B : Bn mg) : FnOk P w K mg base CX0 1 f fd ["value", "least", "most"] spWhole := by
  refine F.ok sc_is_whole (fun vs H Q E h => ?_) (fun cdv A outer s H vs Q E hr h => ?_)
  · obtain ⟨v, lo, hi, t, rfl, _⟩ := h
    rfl
  · obtain ⟨v, lo, hi, t, rfl, ht, k⟩ := h
    refine ⟨_, (pss_one (ps_ret (pe_and (pe_callB isi_int rfl B.isinstance boot_isinstance (pa_cons (pv 0) (pa_cons (pe_bltn (v := .ty "int") rfl B.int boot_int rfl) pa_nil))) (pe_and (pe_not (pe_callB isi_bool rfl B.isinstance boot_isinstance (pa_cons (pv 0) (pa_cons (pe_bltn (v := .ty "bool") rfl B.bool boot_bool rfl) pa_nil)))) (pe_one (pe_chain op_le op_le (pv 1) (pv 0) (pv 2))))))), ?_⟩
    cases v
    case int i =>
      walk_at "rd"
      split
      · rename_i h1
        have e : isWhole (.int i) lo hi = decide (i ≤ hi) := by simp [isWhole, h1]
        rw [← e]
        exact k
      · rename_i h1
        have e : isWhole (.int i) lo hi = false := by simp [isWhole, h1]
        rw [← e]
        exact k
    case ref a =>
      rcases tyN_ref ht with ⟨xs, e, rfl⟩ | ⟨xs, e, rfl⟩ | ⟨xs, e, rfl⟩ <;> (walk_at "rd"; simp only [e]; walk_at "rd"; exact k)
    all_goals first | (walk_at "rd"; exact k) | cases ht
/-- a check that finds nothing wrong -/
def spFine (lo hi : Int) : Sp := fun vs H Q _ => ∃ i : Int, vs = [.int i] ∧ lo ≤ i ∧ i ≤ hi ∧ Q .non H
abbrev GI (mg : Str → Option Value) (x : Str) (n : Int) : Prop := ∃ t, mg x = some (.int n t)
def spIs (lo hi : Int) : Sp := fun vs H Q _ => ∃ (v : V) (t : String), vs = [v] ∧ tyN H v = some t ∧ Q (.bl (isWhole v lo hi)) H
theorem ok_is_time {f : Addr} {fd : FuncData} (F : Fun K "is_time" "is_time" s_is_time f fd) (c_is_whole : Cal P w K mg base 1 "is_whole" spWhole) (T : GI mg "GREATEST" (10 ^ 30)) : FnOk P w K mg base CX0 2 f fd ["value"] (spIs (0) (10 ^ 30)) := by
  refine F.ok sc_is_time (fun vs H Q E h => ?_) (fun cdv A outer s H vs Q E hr h => ?_)
  · obtain ⟨i, t, rfl, _⟩ := h
    rfl
  · obtain ⟨i, t, rfl, ht, k⟩ := h
    refine ⟨_, (pss_one (ps_ret (C8.pe_c c_is_whole hr (by decide) rfl (pa_cons (pv 0) (pa_cons pe_int (pa_cons (pe_gi T) pa_nil)))))), ?_⟩
    walk_at "rd"
    exact ⟨_, _, _, _, rfl, ht, k⟩
theorem ok_time {f : Addr} {fd : FuncData} (F : Fun K "check_time" "check_time" s_check_time f fd) (c_is_time : Cal P w K mg base 2 "is_time" (spIs (0) (10 ^ 30))) : FnOk P w K mg base CX0 3 f fd ["time"] (spFine (0) (10 ^ 30)) := by
  refine F.ok sc_check_time (fun vs H Q E h => ?_) (fun cdv A outer s H vs Q E hr h => ?_)
  · obtain ⟨i, rfl, _⟩ := h
    rfl
  · obtain ⟨i, rfl, i0, i1, k⟩ := h
    refine ⟨_, (pss_one (ps_if (pt_not (pt_val (C8.pe_c c_is_time hr (by decide) rfl (pa_cons (pv 0) pa_nil)))) (pss_one ps_never) pss_nil)), ?_⟩
    walk_at "rd"
    refine ⟨_, _, rfl, rfl, ?_⟩
    have e : isWhole (.int i) (0) (10 ^ 30) = true := decide_eq_true ⟨i0, i1⟩
    rw [e]
    walk_at "rd"
    exact k
theorem ok_width {f : Addr} {fd : FuncData} (F : Fun K "check_width" "check_width" s_check_width f fd) (c_is_whole : Cal P w K mg base 1 "is_whole" spWhole) (T : GI mg "MOST_WIDTH" 8) : FnOk P w K mg base CX0 2 f fd ["width"] (spFine 1 8) := by
  refine F.ok sc_check_width (fun vs H Q E h => ?_) (fun cdv A outer s H vs Q E hr h => ?_)
  · obtain ⟨i, rfl, _⟩ := h
    rfl
  · obtain ⟨i, rfl, i0, i1, k⟩ := h
    refine ⟨_, (pss_one (ps_if (pt_not (pt_val (C8.pe_c c_is_whole hr (by decide) rfl (pa_cons (pv 0) (pa_cons pe_int (pa_cons (pe_gi T) pa_nil)))))) (pss_one ps_never) pss_nil)), ?_⟩
    walk_at "rd"
    refine ⟨_, _, _, _, rfl, rfl, ?_⟩
    have e : isWhole (.int i) 1 8 = true := by simp [isWhole, i0, i1]
    rw [e]
    walk_at "rd"
    exact k
theorem ok_is_pace {f : Addr} {fd : FuncData} (F : Fun K "is_pace" "is_pace" s_is_pace f fd) (c_is_whole : Cal P w K mg base 1 "is_whole" spWhole) (T : GI mg "MOST_PACE" 9) : FnOk P w K mg base CX0 2 f fd ["value"] (spIs (-9) (9)) := by
  refine F.ok sc_is_pace (fun vs H Q E h => ?_) (fun cdv A outer s H vs Q E hr h => ?_)
  · obtain ⟨i, t, rfl, _⟩ := h
    rfl
  · obtain ⟨i, t, rfl, ht, k⟩ := h
    refine ⟨_, (pss_one (ps_ret (C8.pe_c c_is_whole hr (by decide) rfl (pa_cons (pv 0) (pa_cons (pe_un un_neg (pe_gi T)) (pa_cons (pe_gi T) pa_nil)))))), ?_⟩
    walk_at "rd"
    exact ⟨_, _, _, _, rfl, ht, k⟩
theorem ok_pace {f : Addr} {fd : FuncData} (F : Fun K "check_pace" "check_pace" s_check_pace f fd) (c_is_pace : Cal P w K mg base 2 "is_pace" (spIs (-9) (9))) : FnOk P w K mg base CX0 3 f fd ["pace"] (spFine (-9) (9)) := by
  refine F.ok sc_check_pace (fun vs H Q E h => ?_) (fun cdv A outer s H vs Q E hr h => ?_)
  · obtain ⟨i, rfl, _⟩ := h
    rfl
  · obtain ⟨i, rfl, i0, i1, k⟩ := h
    refine ⟨_, (pss_one (ps_if (pt_not (pt_val (C8.pe_c c_is_pace hr (by decide) rfl (pa_cons (pv 0) pa_nil)))) (pss_one ps_never) pss_nil)), ?_⟩
    walk_at "rd"
    refine ⟨_, _, rfl, rfl, ?_⟩
    have e : isWhole (.int i) (-9) (9) = true := decide_eq_true ⟨i0, i1⟩
    rw [e]
    walk_at "rd"
    exact k
end
end L2.G
set_option Elab.async false
set_option linter.all false
set_option maxRecDepth 100000
set_option maxHeartbeats 4000000
namespace L2.G
open PySem PySem.Spec PyProof.Rows
local macro_rules | `(tactic| walk_at "rd") => `(tactic| first | simp only [cxOf, tSeq, tMethK, tMeth, tMake, tMakeK, tProp, rLenI, rTxtI, rTruI, rEqI, tJs, tFmt, wipe, tBM, tBM0, tyV, cJoin, rIxS, sFld, tAsg, tOp, tUn, tCB, tCons, tNil, tVar, tC, rI, rI0, rU, cIx, cSet, cLen, cInt, cDivmod, cTup, cIsiB, cIsiC, cFld, tyN, isB_NoneType_int, isB_NoneType_str, isB_NoneType_bool, isB_NoneType_tuple, isB_bool_int, isB_bool_str, isB_bool_bool, isB_bool_tuple, isB_int_int, isB_int_str, isB_int_bool, isB_int_tuple, isB_str_int, isB_str_str, isB_str_bool, isB_str_tuple, isB_list_int, isB_list_str, isB_list_bool, isB_list_tuple, isB_tuple_int, isB_tuple_str, isB_tuple_bool, isB_tuple_tuple, isB_dict_int, isB_dict_str, isB_dict_bool, isB_dict_tuple, gSub, start, tIfS, tTest, tB, tNot, tAnd, tOr, tAndV, tOrV, tNotV, tChain, tIf, tSl, tPart, tNoPart, rSlL, rSlS, tLst, tTup, tYes, tRet, tNext, tDrop, gCons, gNil, gName, tCall, tPar, rEq, rNe, scal_ss, scal_ii, scal_bb, scal_nn, tNever,
  List.map_cons, List.map_nil, List.length_cons, List.length_nil, List.replicate, List.cons_append, List.nil_append, List.append_nil, List.getElem?_cons_zero, List.getElem?_cons_succ, List.set_cons_zero, List.set_cons_succ, List.getElem?_nil, Nat.reduceAdd, Nat.reduceSub, List.replicate_succ, List.replicate_zero,
  Option.some.injEq, V.int.injEq, V.ref.injEq, V.str.injEq, V.bl.injEq, V.ty.injEq, List.cons.injEq, and_true, true_and, and_assoc, exists_false, false_and, or_false, false_or, and_false, exists_eq_left', exists_and_left, exists_eq_left, upd_same, atI0, atI1, ixN20, ixN21, decide_eq_true_eq, if_true, if_false, reduceIte, Bool.false_eq_true, Bool.not_true, Bool.not_false, Bool.not_eq_true', decide_eq_false_iff_not,  reduceCtorEq, eq_self, decide_true, decide_false, not_true_eq_false, not_false_eq_true, id_eq] | skip)
theorem sc_number_at : FnScope ["time", "place", "length", "pace"] ["time", "place", "length", "pace"] (defScope s_number_at) := ⟨rfl, rfl, rfl, by decide +kernel, rfl, by decide +kernel, by decide +kernel⟩
theorem sc_numbers_at : FnScope ["time", "width", "length", "pace", "start", "place"] ["time", "width", "length", "pace"] (defScope s_numbers_at) := ⟨rfl, rfl, rfl, by decide +kernel, rfl, by decide +kernel, by decide +kernel⟩
theorem sc_Sign_init : FnScope ["self", "text", "pace"] ["self", "text", "pace"] (defScope s_Sign_init) := ⟨rfl, rfl, rfl, by decide +kernel, rfl, by decide +kernel, by decide +kernel⟩
theorem sc_Sign_text : FnScope ["self"] ["self"] (defScope s_Sign_text) := ⟨rfl, rfl, rfl, by decide +kernel, rfl, by decide +kernel, by decide +kernel⟩
theorem sc_Sign_pace : FnScope ["self"] ["self"] (defScope s_Sign_pace) := ⟨rfl, rfl, rfl, by decide +kernel, rfl, by decide +kernel, by decide +kernel⟩
theorem sc_Sign_window : FnScope ["self", "time", "width", "numbers", "number"] ["self", "time", "width"] (defScope s_Sign_window) := ⟨rfl, rfl, rfl, by decide +kernel, rfl, by decide +kernel, by decide +kernel⟩
theorem sc_Sign_eq : FnScope ["self", "other"] ["self", "other"] (defScope s_Sign_eq) := ⟨rfl, rfl, rfl, by decide +kernel, rfl, by decide +kernel, by decide +kernel⟩
theorem sc_Sign_len : FnScope ["self"] ["self"] (defScope s_Sign_len) := ⟨rfl, rfl, rfl, by decide +kernel, rfl, by decide +kernel, by decide +kernel⟩
theorem sc_Sign_str : FnScope ["self"] ["self"] (defScope s_Sign_str) := ⟨rfl, rfl, rfl, by decide +kernel, rfl, by decide +kernel, by decide +kernel⟩
theorem sc_Sign_repr : FnScope ["self"] ["self"] (defScope s_Sign_repr) := ⟨rfl, rfl, rfl, by decide +kernel, rfl, by decide +kernel, by decide +kernel⟩
section
variable {P : Program} {w : World} {K : PySem.W.Frag} {mg : Str → Option Value} {base : Heap}
def LET : Str := "-abcdefghijklmnopqrstuvwxyz"
/-- whether a text is one of a sign -/
def isText (z : Str) : Bool := decide (1 ≤ z.length ∧ z.length ≤ 40) && z.cps.toList.all fun c => decide (c ∈ LET.cps.toList)
structure TxT (mg : Str → Option Value) : Prop where
  g_MOST_LENGTH : ∃ t, mg "MOST_LENGTH" = some (.int 40 t)
  g_LETTERS : ∃ t, mg "LETTERS" = some (.str LET t)
def spText : Sp := fun vs H Q _ => ∃ z : Str, vs = [.str z] ∧ z.length ≤ 1000 ∧ ∀ H', Same H H' → Q (.bl (isText z)) H'
theorem ok_text {f : Addr} {fd : FuncData} (F : Fun K "is_text" "is_text" s_is_text f fd) (B : Bn mg) (T : TxT mg) : FnOk P w K mg base CX0 1 f fd ["value"] spText := by
  refine F.ok sc_is_text (fun vs H Q E h => ?_) (fun cdv A outer s H vs Q E hr h => ?_)
  · obtain ⟨z, rfl, _⟩ := h
    rfl
  · obtain ⟨z, rfl, hz, k⟩ := h
    have hz2 : z.length ≤ sizeLine := Nat.le_trans hz (by decide)
    refine ⟨_, (pss_cons (ps_if (PW.pt (pw_or (pt_not (pt_val (pe_callB isi_str rfl B.isinstance boot_isinstance (pa_cons (pv 0) (pa_cons (pe_bltn (v := .ty "str") rfl B.str boot_str rfl) pa_nil))))) (pw_or1 (pt_not (pt_chain op_le op_le pe_int (pe_callB len_c rfl B.len boot_len (pa_cons (pv 0) pa_nil)) (pe_gi T.g_MOST_LENGTH)))))) (pss_one (ps_ret pe_bl)) pss_nil)
      (pss_one (ps_ret (pe_callB (cr_all rfl) rfl B.all boot_all (pa_cons (pe_lc (own := [("letter", 1)]) (g := gName 1) rfl sc_is_text.nd (pi_str (pe_cut (pv 0))) (blkOk_by (N := ["value", "letter"]) (sc := defScope s_is_text) (by decide +kernel)) (fun _ _ _ _ _ => (pg_name (i := 1) sc_is_text.nd rfl (Or.inl rfl))) (fun _ _ _ _ _ => pts_nil) (fun _ _ _ _ _ => (pe_cmpR op_in_sign (pv 1) (pe_gs T.g_LETTERS) (by rfl)))) pa_nil))))), ?_⟩
    walk_at "rd"
    refine ⟨hz2, ?_⟩
    by_cases h1 : 1 ≤ z.length ∧ z.length ≤ 40
    · rw [if_pos (by omega), if_neg (by omega)]
      refine lc_str_map z (fun c => .bl (decide (c ∈ LET.cps.toList))) ?_ (by have : z.cps.size = z.length := rfl; omega) (fun c _ H' R _ hR => ?_) fun L H' hL s1 e => ?_
      · walk_at "rd"
      · walk_at "rd"
        exact ⟨_, rfl, hR H' (Same.refl _)⟩
      · refine ⟨L, z.cps.toList.map fun c => decide (c ∈ LET.cps.toList), rfl, .inl (.inl ?_), ?_⟩
        · rw [e, List.map_map]
          rfl
        · have q := k H' s1
          have e2 : isText z = (z.cps.toList.map fun c => decide (c ∈ LET.cps.toList)).all id := by
            unfold isText
            rw [decide_eq_true h1, List.all_map]
            rfl
          rw [← e2]
          exact q
    · have e : isText z = false := by
        unfold isText
        rw [decide_eq_false h1]
        rfl
      have q := k H (Same.refl _)
      rw [e] at q
      split
      · rw [if_pos (by omega)]
        exact q
      · exact q
/-- a sign at a -/
def Sgn (C : Addr) (H : Hp) (a : Addr) (z : Str) (p : Int) : Prop := ∃ dx, H a = some (.ins C dx [("kept_text", .str z), ("kept_pace", .int p)])
theorem Sgn.same {C : Addr} {H H' : Hp} {a : Addr} {z : Str} {p : Int} (h : Sgn C H a z p) (e : Same H H') : Sgn C H' a z p := h.elim fun dx h => ⟨dx, e _ _ h⟩
structure TxS (K : PySem.W.Frag) (mg : Str → Option Value) (C : Addr) : Prop where
  cl : Cls K C
  n_kept_text : NoAttr K C "kept_text"
  n_kept_pace : NoAttr K C "kept_pace"
  g_Sign : mg "Sign" = some (.ref C)
  in_Sign : InC K C
  x_get : PySem.W.specialIn K (.builtin "object.__class__") "__get__" = some (some (.builtin "getset_descriptor.__get__"))
  x_tak : PySem.W.takesIn K (.builtin "object.__class__") = some true
def spInit (C : Addr) : Sp := fun vs H Q _ => ∃ (a dx : Addr) (z : Str) (p : Int), vs = [.ref a, .str z, .int p] ∧ H a = some (.ins C dx []) ∧ isText z = true ∧ -9 ≤ p ∧ p ≤ 9 ∧ ∀ H', But a H H' → Sgn C H' a z p → Q .non H'
abbrev FunI (K : PySem.W.Frag) (f : Addr) (fd : FuncData) : Prop := FunD K "__init__" "Sign.__init__" (defArgs s_Sign_init) (defBody s_Sign_init) (defScope s_Sign_init) [.int 1] [] f fd
theorem isText_len {z : Str} (h : isText z = true) : 1 ≤ z.length ∧ z.length ≤ 40 := by
  unfold isText at h
  exact of_decide_eq_true (Bool.and_eq_true_iff.mp h).1
theorem ok_init {f C : Addr} {fd : FuncData} (F : FunI K f fd) (T : TxS K mg C) (c_is_text : Cal P w K mg base 1 "is_text" spText) (c_check_pace : Cal P w K mg base 3 "check_pace" (spFine (-9) 9)) :
    FnOk P w K mg base CX0 4 f fd ["self", "text", "pace"] (spInit C) := by
  refine F.ok sc_Sign_init (fun vs H Q E h => ?_) (fun cdv A outer s H vs Q E hr h => ?_)
  · obtain ⟨a, dx, z, p, rfl, _⟩ := h
    rfl
  · obtain ⟨a, dx, z, p, rfl, ha, hz, p0, p1, k⟩ := h
    refine ⟨_, PSs.nox (pss_cons (ps_if (pt_not (pt_val (C8.pe_c c_is_text hr (by decide) rfl (pa_cons (pv 1) pa_nil)))) (pss_one ps_never) pss_nil)
      (pss_cons (ps_expr (C8.pe_c c_check_pace hr (by decide) rfl (pa_cons (pv 2) pa_nil)))
      (pss_cons (ps_fld (pv 0) (pv 1) rfl)
      (pss_one (ps_fld (pv 0) (pv 2) rfl))))), ?_⟩
    walk_at "rd"
    refine ⟨z, rfl, by have := isText_len hz; omega, fun H1 s1 => ⟨_, rfl, ?_⟩⟩
    rw [hz]
    walk_at "rd"
    refine ⟨p, rfl, p0, p1, ?_⟩
    walk_at "rd"
    refine ⟨C, dx, [], s1 _ _ ha, T.cl, T.n_kept_text, by decide, ?_⟩
    refine ⟨C, dx, _, rfl, T.cl, T.n_kept_pace, Nat.lt_of_le_of_lt (length_putF _ _ _) (by decide), ?_⟩
    refine k _ (fun b o hb e => ?_) ⟨dx, ?_⟩
    · rw [upd_ne hb, upd_ne hb]
      exact s1 b o e
    · rw [upd_same]
      rfl
theorem sgn_look_t (z : Str) (p : Int) : List.lookup ("kept_text" : Str) [(("kept_text" : Str), V.str z), ("kept_pace", V.int p)] = some (.str z) := rfl
theorem sgn_look_p (z : Str) (p : Int) : List.lookup ("kept_pace" : Str) [(("kept_text" : Str), V.str z), ("kept_pace", V.int p)] = some (.int p) := rfl
def spGetT (C : Addr) : Sp := fun vs H Q _ => ∃ (a : Addr) (z : Str) (p : Int), vs = [.ref a] ∧ Sgn C H a z p ∧ Q (.str z) H
def spGetP (C : Addr) : Sp := fun vs H Q _ => ∃ (a : Addr) (z : Str) (p : Int), vs = [.ref a] ∧ Sgn C H a z p ∧ Q (.int p) H
def spLen (C : Addr) : Sp := fun vs H Q _ => ∃ (a : Addr) (z : Str) (p : Int), vs = [.ref a] ∧ Sgn C H a z p ∧ z.length ≤ 1000 ∧ Q (.int z.length) H
theorem ok_gett {f C : Addr} {fd : FuncData} (F : Fun K "text" "Sign.text" s_Sign_text f fd) (T : TxS K mg C) : FnOk P w K mg base CX0 1 f fd ["self"] (spGetT C) := by
  refine F.ok sc_Sign_text (fun vs H Q E h => ?_) (fun cdv A outer s H vs Q E hr h => ?_)
  · obtain ⟨a, z, p, rfl, _⟩ := h
    rfl
  · obtain ⟨a, z, p, rfl, ⟨dx, ha⟩, k⟩ := h
    refine ⟨_, (pss_one (ps_ret (pe_fldC T.cl T.n_kept_text (pv 0) mono_var))), ?_⟩
    walk_at "rd"
    simp only [ha, sgn_look_t, true_and]
    exact k
theorem ok_getp {f C : Addr} {fd : FuncData} (F : Fun K "pace" "Sign.pace" s_Sign_pace f fd) (T : TxS K mg C) : FnOk P w K mg base CX0 1 f fd ["self"] (spGetP C) := by
  refine F.ok sc_Sign_pace (fun vs H Q E h => ?_) (fun cdv A outer s H vs Q E hr h => ?_)
  · obtain ⟨a, z, p, rfl, _⟩ := h
    rfl
  · obtain ⟨a, z, p, rfl, ⟨dx, ha⟩, k⟩ := h
    refine ⟨_, (pss_one (ps_ret (pe_fldC T.cl T.n_kept_pace (pv 0) mono_var))), ?_⟩
    walk_at "rd"
    simp only [ha, sgn_look_p, true_and]
    exact k
theorem ok_len {f C : Addr} {fd : FuncData} (F : Fun K "__len__" "Sign.__len__" s_Sign_len f fd) (B : Bn mg) (T : TxS K mg C) : FnOk P w K mg base CX0 1 f fd ["self"] (spLen C) := by
  refine F.ok sc_Sign_len (fun vs H Q E h => ?_) (fun cdv A outer s H vs Q E hr h => ?_)
  · obtain ⟨a, z, p, rfl, _⟩ := h
    rfl
  · obtain ⟨a, z, p, rfl, ⟨dx, ha⟩, hz, k⟩ := h
    refine ⟨_, (pss_one (ps_ret (pe_callB len_c rfl B.len boot_len (pa_cons (pe_fldC T.cl T.n_kept_text (pv 0) mono_var) pa_nil)))), ?_⟩
    walk_at "rd"
    simp only [ha, sgn_look_t, true_and]
    exact ⟨Nat.le_trans hz (by decide), k⟩
/-- the window, letter by letter -/
def winL (z : Str) (p t : Int) (n : Nat) : List Nat := (List.range n).map fun (j : Nat) => z.cps.toList.getD (((j : Int) + p * t) % z.length).toNat 0
def win (z : Str) (p t : Int) (n : Nat) : Str := ⟨(winL z p t n).toArray⟩
def spWin (C : Addr) : Sp := fun vs H Q _ => ∃ (a : Addr) (z : Str) (p t : Int) (n : Nat), vs = [.ref a, .int t, .int n] ∧ Sgn C H a z p ∧ 1 ≤ z.length ∧ z.length ≤ 1000 ∧ -9 ≤ p ∧ p ≤ 9 ∧ 0 ≤ t ∧ t ≤ 10 ^ 30 ∧ 1 ≤ n ∧ n ≤ 8 ∧ ∀ H', Same H H' → Q (.str (win z p t n)) H'
/-- [e for x in a list], no test -/
theorem lc_lst_map {t te : TE} {j : Nat} {σ : St} {H : Hp} {Q : VK} (a : Addr) (xs : List V) (f : V → V) (ev : t σ H fun v H1 => v = .ref a ∧ H1 = H) (hx : H a = some (.lst xs)) (hn : xs.length < 100000)
    (el : ∀ x ∈ xs, ∀ (H' : Hp) (R : VK), Same H H' → (∀ H4, Same H' H4 → R (f x) H4) → te ((wipe σ [j]).set j (some x)) H' R)
    (fin : ∀ L H', H L = none → Same H H' → H' L = some (.lst (xs.map f)) → Q (.ref L) H') : tLc (iList K (eCut t)) (gName j) tYes te [j] σ H Q := by
  refine ⟨_, ev, ?_⟩
  rintro v H1 ⟨rfl, e⟩
  rw [e]
  refine ⟨a, rfl, ⟨xs, .inl (.inl hx)⟩, fun L hL => ?_⟩
  refine lc_it walk_list (fun i H' => Same H H' ∧ H' L = some (.lst ((xs.take i).map f))) ⟨same_new hL, upd_same⟩ (fun i H' _ p => .inl (.inl (p.1 _ _ hx))) (fun i x H' H'' hi p y => ?_) fun H' p => fin L H' hL p.1 ?_
  · obtain ⟨rfl, y⟩ := y
    refine ⟨wipe1 _ _ _, ?_⟩
    simp only [tYes, if_true]
    refine el x (List.mem_of_getElem? y) _ _ p.1 fun H4 s4 => ⟨_, s4 _ _ p.2, ?_, same_mut (p.1.trans s4) hL, ?_⟩
    · rw [List.length_map, List.length_take]
      exact Nat.lt_of_lt_of_le (show min i _ < 100000 by omega) (by decide)
    · rw [upd_same, List.take_succ, List.map_append, y]
      rfl
  · have h2 := p.2
    rw [List.take_length] at h2
    exact h2
def numsAt (t : Int) (n : Nat) (L p : Int) : List V := (List.range n).map fun (j : Nat) => .int (((j : Int) + p * t) % L)
def spNums : Sp := fun vs H Q _ => ∃ (t : Int) (n : Nat) (L p : Int), vs = [.int t, .int n, .int L, .int p] ∧ 0 < L ∧ -9 ≤ p ∧ p ≤ 9 ∧ n ≤ 1000 ∧ ∀ q H', H q = none → Same H H' → H' q = some (.lst (numsAt t n L p)) → Q (.ref q) H'
def spNum : Sp := fun vs H Q _ => ∃ (t j L p : Int), vs = [.int t, .int j, .int L, .int p] ∧ 0 < L ∧ -9 ≤ p ∧ p ≤ 9 ∧ Q (.int ((j + p * t) % L)) H
theorem ok_num {f : Addr} {fd : FuncData} (F : Fun K "number_at" "number_at" s_number_at f fd) : FnOk P w K mg base CX0 1 f fd ["time", "place", "length", "pace"] spNum := by
  refine F.ok sc_number_at (fun vs H Q E h => ?_) (fun cdv A outer s H vs Q E hr h => ?_)
  · obtain ⟨t, j, L, p, rfl, _⟩ := h
    rfl
  · obtain ⟨t, j, L, p, rfl, hL, p0, p1, k⟩ := h
    refine ⟨_, (pss_one (ps_ret (pe_op op_mod (pe_op op_add (pv 1) (pe_op op_mul (pv 3) (pv 0))) (pv 2)))), ?_⟩
    walk_at "rd"
    exact ⟨.inl ⟨by omega, by omega⟩, hL, k⟩
theorem ok_nums {f : Addr} {fd : FuncData} (F : Fun K "numbers_at" "numbers_at" s_numbers_at f fd) (B : Bn mg) (c_number_at : Cal P w K mg base 1 "number_at" spNum) : FnOk P w K mg base CX0 2 f fd ["time", "width", "length", "pace"] spNums := by
  refine F.ok sc_numbers_at (fun vs H Q E h => ?_) (fun cdv A outer s H vs Q E hr h => ?_)
  · obtain ⟨t, n, L, p, rfl, _⟩ := h
    rfl
  · obtain ⟨t, n, L, p, rfl, hL, p0, p1, hn, k⟩ := h
    refine ⟨_, (pss_cons (ps_set (i := 4) sc_numbers_at.nd rfl (Or.inr rfl) (C8.pe_c c_number_at hr (by decide) rfl (pa_cons (pv 0) (pa_cons pe_int (pa_cons (pv 2) (pa_cons (pv 3) pa_nil))))))
      (pss_one (ps_ret (pe_lc (own := [("place", 5)]) (g := gName 5) rfl sc_numbers_at.nd (pi_range1 rfl B.range (pa_cons (pe_cut (pv 1)) pa_nil)) (blkOk_by (N := ["time", "width", "length", "pace", "start", "place"]) (sc := defScope s_numbers_at) (by decide +kernel)) (fun _ _ _ _ _ => (pg_name (i := 5) sc_numbers_at.nd rfl (Or.inl rfl))) (fun _ _ _ _ _ => pts_nil) (fun _ _ _ _ _ => (pe_op op_mod (pe_op op_add (pv 5) (pv 4)) (pv 2))))))), ?_⟩
    walk_at "rd"
    refine ⟨t, 0, L, p, rfl, hL, p0, p1, ?_⟩
    refine lc_rng_map n (fun (j : Nat) => .int (((j : Int) + p * t) % L)) ?_ (by omega) (fun j hj H' R s1 hR => ?_) fun q H' hq s1 e => k q H' hq s1 e
    · walk_at "rd"
    · walk_at "rd"
      refine ⟨hL, ?_⟩
      rw [show ((j : Int) + (0 + p * t) % L) % L = ((j : Int) + p * t) % L from by rw [Int.zero_add, Int.add_emod, Int.emod_emod, ← Int.add_emod]]
      exact hR H' (Same.refl _)
theorem ok_win {f C : Addr} {fd : FuncData} (F : Fun K "window" "Sign.window" s_Sign_window f fd) (B : Bn mg) (T : TxS K mg C) (c_check_time : Cal P w K mg base 3 "check_time" (spFine 0 (10 ^ 30))) (c_check_width : Cal P w K mg base 2 "check_width" (spFine 1 8)) (c_numbers_at : Cal P w K mg base 2 "numbers_at" spNums) :
    FnOk P w K mg base CX0 4 f fd ["self", "time", "width"] (spWin C) := by
  refine F.ok sc_Sign_window (fun vs H Q E h => ?_) (fun cdv A outer s H vs Q E hr h => ?_)
  · obtain ⟨a, z, p, t, n, rfl, _⟩ := h
    rfl
  · obtain ⟨a, z, p, t, n, rfl, ⟨dx, ha⟩, z1, z2, p0, p1, t0, t1, n0, n1, k⟩ := h
    refine ⟨_, (pss_cons (ps_expr (C8.pe_c c_check_time hr (by decide) rfl (pa_cons (pv 1) pa_nil)))
      (pss_cons (ps_expr (C8.pe_c c_check_width hr (by decide) rfl (pa_cons (pv 2) pa_nil)))
      (pss_cons (ps_set (i := 3) sc_Sign_window.nd rfl (Or.inl rfl) (C8.pe_c c_numbers_at hr (by decide) rfl (pa_cons (pv 1) (pa_cons (pv 2) (pa_cons (pe_callB len_c rfl B.len boot_len (pa_cons (pe_fldC T.cl T.n_kept_text (pv 0) mono_var) pa_nil)) (pa_cons (pe_fldC T.cl T.n_kept_pace (pv 0) mono_var) pa_nil))))))
      (pss_one (ps_ret (pe_bm PySem.F.plainAttrs_str PySem.F.slot_str_join PySem.F.type_str_join join_c pe_str (pa_cons (pe_lc (own := [("number", 4)]) (g := gName 4) rfl sc_Sign_window.nd (pi_list (pe_cut (pv 3))) (blkOk_by (N := ["self", "time", "width", "numbers", "number"]) (sc := defScope s_Sign_window) (by decide +kernel)) (fun _ _ _ _ _ => (pg_name (i := 4) sc_Sign_window.nd rfl (Or.inl rfl))) (fun _ _ _ _ _ => pts_nil) (fun _ _ _ _ _ => (pe_ix ix_str (pe_fldC T.cl T.n_kept_text (pv 0) mono_var) (pv 4) (fun _ _ => rfl)))) pa_nil))))))), ?_⟩
    walk_at "rd"
    refine ⟨t, rfl, t0, t1, ?_⟩
    walk_at "rd"
    refine ⟨n, rfl, by omega, by omega, ?_⟩
    walk_at "rd"
    simp only [ha, sgn_look_t, sgn_look_p, true_and]
    walk_at "rd"
    refine ⟨Nat.le_trans z2 (by decide), t, n, z.length, p, rfl, by omega, p0, p1, by omega, fun q H1 hq s1 hl => ?_⟩
    have zl : z.cps.toList.length = z.length := Array.length_toList
    refine lc_lst_map q (numsAt t n z.length p) (fun v => match v with | .int i => .str ⟨#[z.cps.toList.getD i.toNat 0]⟩ | v => v) ?_ hl (by unfold numsAt; rw [List.length_map, List.length_range]; omega) (fun x hx H' R s2 hR => ?_) fun L H' hL s2 e => ?_
    · walk_at "rd"
    · unfold numsAt at hx
      obtain ⟨j, _, rfl⟩ := List.mem_map.mp hx
      walk_at "rd"
      simp only [s2 _ _ (s1 _ _ ha), sgn_look_t, true_and]
      walk_at "rd"
      refine ⟨Nat.le_trans z2 (by decide), _, ?_, hR H' (Same.refl _)⟩
      rw [← zl]
      exact atI_mod _ _ (by omega)
    · walk_at "rd"
      refine ⟨winL z p t n, ?_, ?_, k H' (s1.trans s2)⟩
      · rw [e]
        unfold winL numsAt
        rw [List.map_map, List.map_map]
        rfl
      · unfold winL
        rw [List.length_map, List.length_range]
        omega
def spEqS (K : PySem.W.Frag) (C : Addr) : Sp := fun vs H Q _ => ∃ (a : Addr) (y : V) (z : Str) (p : Int), vs = [.ref a, y] ∧ Sgn C H a z p ∧ ((∃ (b : Addr) (z' : Str) (p' : Int), y = .ref b ∧ Sgn C H b z' p' ∧ Q (.bl (decide (z = z' ∧ p = p'))) H) ∨ ∃ t, tyN H y = some t ∧ Q (.bl false) H)
theorem ok_eq {f C : Addr} {fd : FuncData} (F : Fun K "__eq__" "Sign.__eq__" s_Sign_eq f fd) (B : Bn mg) (T : TxS K mg C) : FnOk P w K mg base CX0 1 f fd ["self", "other"] (spEqS K C) := by
  refine F.ok sc_Sign_eq (fun vs H Q E h => ?_) (fun cdv A outer s H vs Q E hr h => ?_)
  · obtain ⟨a, y, z, p, rfl, _⟩ := h
    rfl
  · obtain ⟨a, y, z, p, rfl, ⟨dx, ha⟩, h⟩ := h
    refine ⟨_, (pss_one (ps_ret (pe_and (pe_callB (isi_own T.in_Sign T.x_get T.x_tak) rfl B.isinstance boot_isinstance (pa_cons (pv 1) (pa_cons (pe_glob (v := .ref C) rfl T.g_Sign rfl) pa_nil))) (pe_and (pe_cmpR op_eq (pe_fldC T.cl T.n_kept_text (pv 0) mono_var) (pe_fldC T.cl T.n_kept_text (pv 1) mono_var) (nomark _)) (pe_one (pe_cmpR op_eq (pe_fldC T.cl T.n_kept_pace (pv 0) mono_var) (pe_fldC T.cl T.n_kept_pace (pv 1) mono_var) (nomark _))))))), ?_⟩
    rcases h with ⟨b, z', p', rfl, ⟨dy, hb⟩, k⟩ | ⟨t, ht, k⟩
    · walk_at "rd"
      simp only [ha, hb, sgn_look_t, sgn_look_p, true_and]
      walk_at "rd"
      by_cases hz : z = z'
      · rw [if_pos hz]
        simp only [hz, true_and] at k
        exact k
      · rw [if_neg hz]
        simp only [hz, false_and, decide_false] at k
        exact k
    · cases y
      case ref b =>
        rcases tyN_ref ht with ⟨xs, e, rfl⟩ | ⟨xs, e, rfl⟩ | ⟨xs, e, rfl⟩ <;> (walk_at "rd"; simp only [e]; walk_at "rd"; exact k)
      all_goals first | (walk_at "rd"; exact k) | cases ht
/-- what str tells of a sign -/
def told (z : Str) (p : Int) : Str := z ++ Str.ofString " at " ++ Str.ofString (toString p)
theorem num_len {p : Int} (p0 : -9 ≤ p) (p1 : p ≤ 9) : (Str.ofString (toString p)).length ≤ 2 := by
  have h : p = -9 ∨ p = -8 ∨ p = -7 ∨ p = -6 ∨ p = -5 ∨ p = -4 ∨ p = -3 ∨ p = -2 ∨ p = -1 ∨ p = 0 ∨ p = 1 ∨ p = 2 ∨ p = 3 ∨ p = 4 ∨ p = 5 ∨ p = 6 ∨ p = 7 ∨ p = 8 ∨ p = 9 := by omega
  rcases h with rfl | rfl | rfl | rfl | rfl | rfl | rfl | rfl | rfl | rfl | rfl | rfl | rfl | rfl | rfl | rfl | rfl | rfl | rfl <;> decide +kernel
theorem at_len : (Str.ofString " at ").length = 4 := by decide +kernel
theorem told_len {z : Str} {p : Int} (hz : z.length ≤ 1000) (p0 : -9 ≤ p) (p1 : p ≤ 9) : (told z p).length ≤ 1006 := by
  unfold told
  rw [Str.length_append, Str.length_append, at_len]
  have := num_len p0 p1
  omega
theorem log_len {p : Int} (p0 : -9 ≤ p) (p1 : p ≤ 9) : p.natAbs.log2 < 1920 := by
  by_cases h : p.natAbs = 0
  · rw [h]
    decide +kernel
  · exact Nat.lt_of_le_of_lt ((Nat.log2_lt h).mpr (show p.natAbs < 2 ^ 4 by omega) |> Nat.le_of_lt) (by decide)
theorem sizeLine_ge : 100000 ≤ sizeLine := by decide
def spStr (C : Addr) (g : Str → Str) : Sp := fun vs H Q _ => ∃ (a : Addr) (z : Str) (p : Int), vs = [.ref a] ∧ Sgn C H a z p ∧ z.length ≤ 1000 ∧ -9 ≤ p ∧ p ≤ 9 ∧ Q (.str (g (told z p))) H
theorem ok_str {f C : Addr} {fd : FuncData} (F : Fun K "__str__" "Sign.__str__" s_Sign_str f fd) (T : TxS K mg C) : FnOk P w K mg base CX0 1 f fd ["self"] (spStr C id) := by
  refine F.ok sc_Sign_str (fun vs H Q E h => ?_) (fun cdv A outer s H vs Q E hr h => ?_)
  · obtain ⟨a, z, p, rfl, _⟩ := h
    rfl
  · obtain ⟨a, z, p, rfl, ⟨dx, ha⟩, hz, p0, p1, k⟩ := h
    refine ⟨_, (pss_one (ps_ret (pe_joined (.cons (pe_fmt (pe_fldC T.cl T.n_kept_text (pv 0) mono_var)) (.cons pe_str (.cons (pe_fmt (pe_fldC T.cl T.n_kept_pace (pv 0) mono_var)) .nil)))))), ?_⟩
    have n1 := num_len p0 p1
    have n2 := sizeLine_ge
    walk_at "rd"
    simp only [ha, sgn_look_t, sgn_look_p, true_and]
    walk_at "rd"
    simp only [Str.empty_append, Str.length_append, at_len]
    exact ⟨by omega, by omega, by omega, log_len p0 p1, by omega, k⟩
/-- what repr tells of a sign -/
def shown (x : Str) : Str := Str.ofString "Sign(" ++ x ++ Str.ofString ")"
theorem sg_len : (Str.ofString "Sign(").length = 5 ∧ (Str.ofString ")").length = 1 := by decide +kernel
theorem ok_repr {f C : Addr} {fd : FuncData} (F : Fun K "__repr__" "Sign.__repr__" s_Sign_repr f fd) (T : TxS K mg C) : FnOk P w K mg base CX0 1 f fd ["self"] (spStr C shown) := by
  refine F.ok sc_Sign_repr (fun vs H Q E h => ?_) (fun cdv A outer s H vs Q E hr h => ?_)
  · obtain ⟨a, z, p, rfl, _⟩ := h
    rfl
  · obtain ⟨a, z, p, rfl, ⟨dx, ha⟩, hz, p0, p1, k⟩ := h
    refine ⟨_, (pss_one (ps_ret (pe_joined (.cons pe_str (.cons (pe_fmt (pe_fldC T.cl T.n_kept_text (pv 0) mono_var)) (.cons pe_str (.cons (pe_fmt (pe_fldC T.cl T.n_kept_pace (pv 0) mono_var)) (.cons pe_str .nil)))))))), ?_⟩
    have n1 := num_len p0 p1
    have n2 := sizeLine_ge
    walk_at "rd"
    simp only [ha, sgn_look_t, sgn_look_p, true_and]
    walk_at "rd"
    simp only [Str.empty_append, Str.length_append, at_len, sg_len.1, sg_len.2]
    refine ⟨by omega, by omega, by omega, by omega, log_len p0 p1, by omega, by omega, ?_⟩
    have e : shown (told z p) = Str.ofString "Sign(" ++ z ++ Str.ofString " at " ++ Str.ofString (toString p) ++ Str.ofString ")" := by
      unfold shown told
      simp only [Str.append_assoc]
    rw [← e]
    exact k
end
end L2.G
set_option linter.all false
namespace L2.G
open PySem
theorem win_len (z : Str) (p t : Int) (n : Nat) : (win z p t n).length = n := by
  unfold win winL
  show (List.map _ _).toArray.size = n
  simp
theorem win_succ (z : Str) (p t : Int) (n : Nat) : win z p t (n + 1) = win z p t n ++ ⟨#[z.cps.toList.getD (((n : Int) + p * t) % z.length).toNat 0]⟩ := by
  have h := SX.S_cat (winL z p t n) [z.cps.toList.getD (((n : Int) + p * t) % z.length).toNat 0]
  refine Eq.trans ?_ h.symm
  unfold win winL
  rw [List.range_succ, List.map_append]
  rfl
/-- a text begun later -/
def rot (l : List Nat) (f : Nat) : List Nat := l.drop f ++ l.take f
theorem rot_len (l : List Nat) (f : Nat) (h : f ≤ l.length) : (rot l f).length = l.length := by
  unfold rot
  rw [List.length_append, List.length_drop, List.length_take]
  omega
theorem rot_at (l : List Nat) (f j : Nat) (hf : f < l.length) : (rot l f).getD (j % l.length) 0 = l.getD ((j + f) % l.length) 0 := by
  unfold rot
  have h0 : j % l.length < l.length := Nat.mod_lt _ (by omega)
  rw [List.getD_eq_getElem?_getD, List.getD_eq_getElem?_getD]
  congr 1
  by_cases h : j % l.length < l.length - f
  · rw [List.getElem?_append_left (by rw [List.length_drop]; omega), List.getElem?_drop]
    congr 1
    have e : (j + f) % l.length = (j % l.length + f) % l.length := by rw [Nat.mod_add_mod]
    rw [e, Nat.mod_eq_of_lt (a := j % l.length + f) (b := l.length) (by omega)]
    omega
  · rw [List.getElem?_append_right (by rw [List.length_drop]; omega), List.length_drop, List.getElem?_take]
    have e : (j + f) % l.length = (j % l.length + f) % l.length := by rw [Nat.mod_add_mod]
    have e2 : (j % l.length + f) % l.length = j % l.length + f - l.length := by
      rw [Nat.mod_eq_sub_mod (by omega), Nat.mod_eq_of_lt (a := j % l.length + f - l.length) (by omega)]
    rw [e, e2, if_pos (by omega)]
    congr 1
    omega
theorem rot_win (z : Str) (p t : Int) (n f : Nat) (hz : 0 < z.length) (hf : (f : Int) = (p * t) % (z.length : Int)) : win (SX.S (rot z.cps.toList f)) p 0 n = win z p t n := by
  have zl : z.cps.toList.length = z.length := Array.length_toList
  have f1 : (p * t) % (z.length : Int) < z.length := Int.emod_lt_of_pos _ (by omega)
  have rl : (SX.S (rot z.cps.toList f)).length = z.length := by
    rw [SX.S_len, rot_len _ _ (by omega), zl]
  unfold win winL
  congr 2
  refine List.map_congr_left fun j _ => ?_
  rw [rl]
  show (rot z.cps.toList f).getD _ 0 = _
  have e1 : (((j : Int) + p * 0) % (z.length : Int)).toNat = j % z.length := by
    rw [Int.mul_zero, Int.add_zero]
    rw [← Int.natCast_emod]
    exact Int.toNat_natCast _
  have e2 : (((j : Int) + p * t) % (z.length : Int)).toNat = (j + f) % z.length := by
    have : ((j : Int) + p * t) % (z.length : Int) = (((j + f : Nat) : Int)) % (z.length : Int) := by
      rw [Int.natCast_add, hf, Int.add_emod_emod]
    rw [this]
    rw [← Int.natCast_emod]
    exact Int.toNat_natCast _
  rw [e1, e2]
  have h := rot_at z.cps.toList f j (by omega)
  rw [zl] at h
  exact h
theorem cut_from (z : Str) (f : Nat) (h : f ≤ z.length) : cutS z (some (f : Int)) none = SX.S (z.cps.toList.drop f) := by
  have zl : z.cps.toList.length = z.length := Array.length_toList
  unfold cutS
  rw [HT.sIx_nat, HT.sIx_none, Nat.min_eq_left h, List.take_of_length_le (by rw [List.length_drop]; omega)]
theorem cut_to (z : Str) (f : Nat) (h : f ≤ z.length) : cutS z none (some (f : Int)) = SX.S (z.cps.toList.take f) := by
  unfold cutS
  rw [HT.sIx_nat, HT.sIx_none, Nat.min_eq_left h, Nat.sub_zero, List.drop_zero]
theorem rot_text {z : Str} (h : isText z = true) (f : Nat) (hf : f ≤ z.length) : isText (SX.S (rot z.cps.toList f)) = true := by
  have zl : z.cps.toList.length = z.length := Array.length_toList
  unfold isText at h ⊢
  rw [Bool.and_eq_true] at h ⊢
  obtain ⟨h1, h2⟩ := h
  have h1 := of_decide_eq_true h1
  refine ⟨decide_eq_true ?_, ?_⟩
  · rw [SX.S_len, rot_len _ _ (by omega), zl]
    exact h1
  · rw [List.all_eq_true] at h2 ⊢
    intro c hc
    refine h2 c ?_
    rcases List.mem_append.mp (show c ∈ z.cps.toList.drop f ++ z.cps.toList.take f from hc) with q | q
    · exact List.mem_of_mem_drop q
    · exact List.mem_of_mem_take q
theorem isText_S {l : List Nat} (h1 : 1 ≤ l.length) (h2 : l.length ≤ 40) (h : ∀ c ∈ l, c ∈ LET.cps.toList) : isText ⟨l.toArray⟩ = true := by
  unfold isText
  rw [Bool.and_eq_true]
  refine ⟨decide_eq_true ?_, List.all_eq_true.mpr fun c hc => decide_eq_true (h c hc)⟩
  exact ⟨h1, h2⟩
/-- a list that is shown -/
def D3 (z : Str) (a b : Int) : PyData := .list [.str z, .int a, .int b]
theorem let_small : ∀ c ∈ LET.cps.toList, c < 16 ^ 8 := by decide +kernel
theorem isText_let {z : Str} (h : isText z = true) : ∀ c ∈ z.cps.toList, c ∈ LET.cps.toList := by
  unfold isText at h
  intro c hc
  exact of_decide_eq_true (List.all_eq_true.mp (Bool.and_eq_true_iff.mp h).2 c hc)
theorem log_small {a : Int} (h : a.natAbs < 1000) : a.natAbs.log2 < 1920 := by
  by_cases h0 : a.natAbs = 0
  · rw [h0]
    decide +kernel
  · exact Nat.lt_trans ((Nat.log2_lt h0).mpr (show a.natAbs < 2 ^ 10 by omega)) (by decide)
theorem weight_small {a : Int} (h : a.natAbs < 1000) : PyData.weight (.int a) ≤ 1920 := by
  unfold PyData.weight
  split
  · omega
  · have := log_small h
    omega
theorem show_fine {z : Str} {a b : Int} (hz : isText z = true) (ha : a.natAbs < 1000) (hb : b.natAbs < 1000) : (D3 z a b).showable = true ∧ (D3 z a b).hasDict = false ∧ (D3 z a b).depth ≤ 20 ∧ (D3 z a b).shown.length ≤ sizeLine := by
  have zl := isText_len hz
  have zs : z.cps.size = z.length := rfl
  refine ⟨?_, ?_, ?_, ?_⟩
  · simp only [D3, PyData.showable, PyData.showableAll, log_small ha, log_small hb, decide_true, Bool.and_self]
  · simp only [D3, PyData.hasDict, PyData.hasDictAll, Bool.or_self]
  · simp only [D3, PyData.depth, PyData.depthAll]
    decide
  · refine PyData.shown_fits (B := 13) (by decide) (by decide) ?_ ?_
    · simp only [D3, PyData.leavesShort, PyData.leavesShortAll, PyData.shown_int_le (show a.natAbs < 10 ^ 12 by omega), PyData.shown_int_le (show b.natAbs < 10 ^ 12 by omega), decide_true, Bool.and_true]
      exact List.all_eq_true.mpr fun c hc => decide_eq_true (let_small c (isText_let hz c hc))
    · have h1 := weight_small ha
      have h2 := weight_small hb
      have e : (D3 z a b).weight = z.cps.size + 1 + (PyData.weight (.int a) + 1 + (PyData.weight (.int b) + 1 + 0)) := by
        simp only [D3, PyData.weight, PyData.weightAll]
      rw [e]
      omega
theorem dp3 {K : PySem.W.Frag} {H : Hp} {q : Addr} {z : Str} {a b : Int} (h : H q = some (.lst [.str z, .int a, .int b])) : Dp K H (.ref q) (D3 z a b) :=
  .lst (.inl (.inl h)) (.cons (.str z) (.cons (.int a) (.cons (.int b) .nil)))
theorem dp2 {K : PySem.W.Frag} {H : Hp} {q : Addr} {x y : Str} (h : H q = some (.lst [.str x, .str y])) : Dp K H (.ref q) (.list [.str x, .str y]) :=
  .lst (.inl (.inl h)) (.cons (.str x) (.cons (.str y) .nil))
theorem nf_str {K : PySem.W.Frag} {C : Addr} : PySem.W.notFirst K C (.type "str") = true := by
  have e : fastBuiltinMro "str" = some [.type "str", .type "object"] := by decide +kernel
  have h : PySem.W.subIn K (.type "str") (.ref C) = some false := by
    show (fastBuiltinMro "str").map (·.contains (.ref C)) = some false
    rw [e]
    simp
  unfold PySem.W.notFirst
  rw [h]
  simp
theorem eqv2 (x y : Str) : PyData.eqv (.list [.str x, .str y]) (.list [.str x, .str y]) = true := by
  simp [PyData.eqv, PyData.eqvAll]
theorem shaped2 {x y : Str} (hx : PyData.strOk x = true) (hy : PyData.strOk y = true) : SeqAt.shaped (.list [.str x, .str y]) = true := by
  simp [SeqAt.shaped, PyData.canLay0, PyData.canLayAll0, PyData.depth, PyData.depthAll, hx, hy]
theorem strOk_num {p : Int} (p0 : -9 ≤ p) (p1 : p ≤ 9) : PyData.strOk (Str.ofString (toString p)) = true := by
  have h : p = -9 ∨ p = -8 ∨ p = -7 ∨ p = -6 ∨ p = -5 ∨ p = -4 ∨ p = -3 ∨ p = -2 ∨ p = -1 ∨ p = 0 ∨ p = 1 ∨ p = 2 ∨ p = 3 ∨ p = 4 ∨ p = 5 ∨ p = 6 ∨ p = 7 ∨ p = 8 ∨ p = 9 := by omega
  rcases h with rfl | rfl | rfl | rfl | rfl | rfl | rfl | rfl | rfl | rfl | rfl | rfl | rfl | rfl | rfl | rfl | rfl | rfl | rfl <;> decide +kernel
theorem strOk_cat {x y : Str} (hx : PyData.strOk x = true) (hy : PyData.strOk y = true) : PyData.strOk (x ++ y) = true := by
  unfold PyData.strOk at *
  rw [← Array.all_toList] at *
  have e : (x ++ y).cps.toList = x.cps.toList ++ y.cps.toList := TL.tl_append x y
  rw [e, List.all_append, hx, hy]
  rfl
theorem strOk_text {z : Str} (hz : isText z = true) : PyData.strOk z = true := by
  unfold PyData.strOk
  rw [← Array.all_toList]
  refine List.all_eq_true.mpr fun c hc => decide_eq_true ?_
  have h : ∀ c ∈ LET.cps.toList, c < 0x110000 := by decide +kernel
  exact h c (isText_let hz c hc)
theorem strOk_told {z : Str} {p : Int} (hz : isText z = true) (p0 : -9 ≤ p) (p1 : p ≤ 9) : PyData.strOk (told z p) = true :=
  strOk_cat (strOk_cat (strOk_text hz) (by decide +kernel)) (strOk_num p0 p1)
theorem strOk_shown {x : Str} (hx : PyData.strOk x = true) : PyData.strOk (shown x) = true := strOk_cat (strOk_cat (by decide +kernel) hx) (by decide +kernel)
theorem a_text {z : Str} (hz : isText z = true) (h : z.length < 40) : isText (z ++ Str.ofString "a") = true ∧ z ++ Str.ofString "a" ≠ z := by
  have zl := isText_len hz
  have al : (Str.ofString "a").length = 1 := by decide +kernel
  have e : z ++ Str.ofString "a" = SX.S (z.cps.toList ++ [97]) := by
    have q := SX.S_cat z.cps.toList [97]
    rw [SX.S_tl] at q
    exact q
  constructor
  · rw [e]
    have zz : z.cps.toList.length = z.length := Array.length_toList
    refine isText_S (by rw [List.length_append]; simp) (by rw [List.length_append, zz]; show z.length + 1 ≤ 40; omega) fun c hc => ?_
    rcases List.mem_append.mp hc with q | q
    · exact isText_let hz c q
    · rw [List.mem_singleton.mp q]
      decide +kernel
  · intro q
    have := congrArg Str.length q
    rw [Str.length_append, al] at this
    omega
theorem cut_text {z : Str} (hz : isText z = true) (h : 2 ≤ z.length) : isText (cutS z (some 1) none) = true ∧ cutS z (some 1) none ≠ z := by
  have zl := isText_len hz
  have zz : z.cps.toList.length = z.length := Array.length_toList
  have e : cutS z (some 1) none = SX.S (z.cps.toList.drop 1) := cut_from z 1 (by omega)
  constructor
  · rw [e]
    refine isText_S (by rw [List.length_drop]; omega) (by rw [List.length_drop]; omega) fun c hc => isText_let hz c (List.mem_of_mem_drop hc)
  · intro q
    have := congrArg Str.length q
    rw [e, SX.S_len, List.length_drop] at this
    omega
/-- behind a sign's making -/
theorem made_same {H H' : Hp} {b dx : Addr} {C : Addr} (hb : H b = none) (hd : H dx = none) (h : But b (upd (upd H dx (.own b)) b (.ins C dx [])) H') : Same H H' := fun c o e =>
  h c o (ne_of_none e hb) (by rw [upd_ne (ne_of_none e hb), upd_ne (ne_of_none e hd)]; exact e)
end L2.G
set_option Elab.async false
set_option linter.all false
set_option maxRecDepth 100000
set_option maxHeartbeats 4000000
namespace L2.G
open PySem PySem.Spec PyProof.Rows
local macro_rules | `(tactic| walk_at "rd") => `(tactic| first | simp only [cxOf, tSeq, tMethK, tMeth, tMake, tMakeK, tProp, rLenI, rTxtI, rTruI, rEqI, tJs, tFmt, wipe, tBM, tBM0, tyV, cJoin, rIxS, sFld, tAsg, tOp, tUn, tCB, tCons, tNil, tVar, tC, rI, rI0, rU, cIx, cSet, cLen, cInt, cDivmod, cTup, cIsiB, cIsiC, cFld, tyN, isB_NoneType_int, isB_NoneType_str, isB_NoneType_bool, isB_NoneType_tuple, isB_bool_int, isB_bool_str, isB_bool_bool, isB_bool_tuple, isB_int_int, isB_int_str, isB_int_bool, isB_int_tuple, isB_str_int, isB_str_str, isB_str_bool, isB_str_tuple, isB_list_int, isB_list_str, isB_list_bool, isB_list_tuple, isB_tuple_int, isB_tuple_str, isB_tuple_bool, isB_tuple_tuple, isB_dict_int, isB_dict_str, isB_dict_bool, isB_dict_tuple, gSub, start, tIfS, tTest, tB, tNot, tAnd, tOr, tAndV, tOrV, tNotV, tChain, tIf, tSl, tPart, tNoPart, rSlL, rSlS, tLst, tTup, tYes, tRet, tNext, tDrop, gCons, gNil, gName, tCall, tPar, rEq, rNe, scal_ss, scal_ii, scal_bb, scal_nn, tNever,
  List.map_cons, List.map_nil, List.length_cons, List.length_nil, List.replicate, List.cons_append, List.nil_append, List.append_nil, List.getElem?_cons_zero, List.getElem?_cons_succ, List.set_cons_zero, List.set_cons_succ, List.getElem?_nil, Nat.reduceAdd, Nat.reduceSub, List.replicate_succ, List.replicate_zero,
  Option.some.injEq, V.int.injEq, V.ref.injEq, V.str.injEq, V.bl.injEq, V.ty.injEq, List.cons.injEq, and_true, true_and, and_assoc, exists_false, false_and, or_false, false_or, and_false, exists_eq_left', exists_and_left, exists_eq_left, upd_same, atI0, atI1, ixN20, ixN21, decide_eq_true_eq, if_true, if_false, reduceIte, Bool.false_eq_true, Bool.not_true, Bool.not_false, Bool.not_eq_true', decide_eq_false_iff_not,  reduceCtorEq, eq_self, decide_true, decide_false, not_true_eq_false, not_false_eq_true, id_eq] | skip)
theorem sc_l_right : FnScope ["_law_cup_here", "_law_turn", "_law_many", "_law_signs_here", "_law_row", "_law_step", "_law_size", "_law_mine", "_law_again", "_law_words", "_law_mate", "_law_at", "_law_due", "_law_j", "_law_first"] ["_law_cup_here"] (defScope s_l_right) := ⟨rfl, rfl, rfl, by decide +kernel, rfl, by decide +kernel, by decide +kernel⟩
section
variable {P : Program} {w : World} {K : PySem.W.Frag} {mg : Str → Option Value} {base : Heap}
theorem hd_of {A : Around} {k : Nat} (hr : Room k A) : A.units + 64 < cLine := hr.units
def spRight : Sp := fun vs H Q _ => ∃ p : Addr, vs = [.ref p] ∧ Cup H p ∧ ∀ H', But p H H' → Q (.bl true) H'
theorem But.refl (p : Addr) (H : Hp) : But p H H := fun _ _ _ h => h
theorem But.trans {p : Addr} {H H1 H2 : Hp} (a : But p H H1) (b : But p H1 H2) : But p H H2 := fun c o n h => b c o n (a c o n h)
theorem But.of {p : Addr} {H H1 : Hp} (a : Same H H1) : But p H H1 := fun c o _ h => a c o h
theorem But.free {p L : Addr} {H H1 : Hp} (a : But p H H1) (n : L ≠ p) (h : H1 L = none) : H L = none := by
  cases q : H L with
  | none => rfl
  | some o =>
    rw [a L o n q] at h
    cases h
theorem But.mut {p L : Addr} {H H1 : Hp} {o : HO} (a : But p H H1) (h : H L = none) : But p H (upd H1 L o) := fun c u n e => by
  rw [upd_ne (ne_of_none e h)]
  exact a c u n e
theorem Cup.lst {H : Hp} {p : Addr} (h : Cup H p) : ∃ o, H p = some o := h.elim fun _ ⟨_, h, _⟩ => ⟨_, h⟩
theorem Cup.ne {H : Hp} {p q : Addr} (h : Cup H p) (n : H q = none) : q ≠ p := fun e => by
  obtain ⟨o, h⟩ := h.lst
  rw [e, h] at n
  cases n
theorem Cup.new {H : Hp} {p q : Addr} {o : HO} (h : Cup H p) (n : q ≠ p) : Cup (upd H q o) p := by
  obtain ⟨a, b, h1, h2⟩ := h
  exact ⟨a, b, by rw [upd_ne n.symm]; exact h1, h2⟩
theorem Cup.same {H H' : Hp} {p : Addr} (h : Cup H p) (s : Same H H') : Cup H' p := by
  obtain ⟨a, b, h1, h2⟩ := h
  exact ⟨a, b, s _ _ h1, h2⟩
theorem let_at {r : Int} (r0 : 0 ≤ r) (r1 : r < 27) : ∃ c, atI (Str.ofString "-abcdefghijklmnopqrstuvwxyz").cps.toList r = some c ∧ c ∈ LET.cps.toList := by
  have hl : (Str.ofString "-abcdefghijklmnopqrstuvwxyz").cps.toList.length = 27 := by decide +kernel
  have hi : r.toNat < (Str.ofString "-abcdefghijklmnopqrstuvwxyz").cps.toList.length := by omega
  refine ⟨(Str.ofString "-abcdefghijklmnopqrstuvwxyz").cps.toList[r.toNat], ?_, List.getElem_mem hi⟩
  have z := atI_nat (α := Nat) (j := r.toNat) (List.getElem?_eq_getElem hi)
  rwa [Int.toNat_of_nonneg r0] at z
theorem let_len : (Str.ofString "-abcdefghijklmnopqrstuvwxyz").length = 27 := by decide +kernel
theorem Sgn.but {C : Addr} {H H' : Hp} {a p : Addr} {z : Str} {q : Int} (h : Sgn C H a z q) (c : Cup H p) (b : But p H H') : Sgn C H' a z q := by
  obtain ⟨dx, h⟩ := h
  obtain ⟨x, y, hp, _⟩ := c
  exact ⟨dx, b _ _ (ne_of h hp (fun z => nomatch z)) h⟩
theorem ok_right {f C : Addr} {fd : FuncData} (F : Fun K "_law_right" "_law_right" s_l_right f fd) (B : Bn mg) (T : TxS K mg C)
    (c_l_sip : Cal P w K mg base 1 "_law_sip" spSip) (c_l_pick : Cal P w K mg base 2 "_law_pick" spPick)
    (k_Sign_2 : C8.Mak P w K mg base 4 "Sign" C (spInit C) []) (k_Sign_1 : C8.Mak P w K mg base 4 "Sign" C (spInit C) [.int 1])
    (k_Sign_pace_text : MakK P w K mg base 4 "Sign" C ["pace", "text"] (fun vs zs => vs ++ zs.reverse) (spInit C))
    (m_window : C8.Met P w K mg base 4 C "window" (spWin C) []) (m_window_width_time : MetK P w K mg base 4 C "window" ["width", "time"] (fun vs zs => vs ++ zs.reverse) (spWin C))
    (p_text : Prp P w K mg base 1 C "text" (spGetT C)) (p_pace : Prp P w K mg base 1 C "pace" (spGetP C))
    (c_len : Spc P w K mg base 1 C "__len__" (spLen C)) (c_str : Spc P w K mg base 1 C "__str__" (spStr C id)) (c_repr : Spc P w K mg base 1 C "__repr__" (spStr C shown)) (c_eq : Spc P w K mg base 1 C "__eq__" (spEqS K C))
    (m_obj : PySem.W.mroIn K C (.type "object") = some true) (m_ne : PySem.W.findIn K (.ref C) "__ne__" = some (some (.builtin "object.__ne__"))) (n_bool : PySem.W.findIn K (.ref C) "__bool__" = some none) :
    FnOkG P w K mg base CX0 6 f fd ["_law_cup_here"] spRight := by
  refine F.okG sc_l_right (fun vs H Q E h => ?_) (fun cdv A outer s H vs Q E qt hr h => ?_)
  · obtain ⟨p, rfl, _⟩ := h
    rfl
  · obtain ⟨p, rfl, hc, k⟩ := h
    refine ⟨_, (pss_cons (ps_for PassesOwn.never rfl (pi_range1 rfl B.range (pa_cons (pe_cut pe_int) pa_nil)) (pg_name (i := 1) sc_l_right.nd rfl (Or.inl rfl)) (pss_cons (ps_set (i := 2) sc_l_right.nd rfl (Or.inl rfl) (C8.pe_c c_l_pick hr (by decide) rfl (pa_cons (pv 0) (pa_cons (pe_lst (pa_cons pe_int (pa_cons pe_int (pa_cons pe_int (pa_cons pe_int (pa_cons pe_int (pa_cons pe_int pa_nil))))))) pa_nil))))
      (pss_cons (ps_set (i := 3) sc_l_right.nd rfl (Or.inr rfl) pe_str)
      (pss_cons (ps_set (i := 4) sc_l_right.nd rfl (Or.inl rfl) (pe_bm PySem.F.plainAttrs_str PySem.F.slot_str_join PySem.F.type_str_join join_c pe_str (pa_cons (pe_lc (own := [("_law_again", 8)]) (g := gName 8) rfl sc_l_right.nd (pi_range1 rfl B.range (pa_cons (pe_cut (pv 2)) pa_nil)) (blkOk_by (N := ["_law_cup_here", "_law_turn", "_law_many", "_law_signs_here", "_law_row", "_law_step", "_law_size", "_law_mine", "_law_again", "_law_words", "_law_mate", "_law_at", "_law_due", "_law_j", "_law_first"]) (sc := defScope s_l_right) (by decide +kernel)) (fun _ _ _ _ _ => (pg_name (i := 8) sc_l_right.nd rfl (Or.inl rfl))) (fun _ _ _ _ _ => pts_nil) (fun _ _ _ _ _ => (pe_ix ix_str (pv 3) (C8.pe_c c_l_sip hr (by decide) rfl (pa_cons (pv 0) (pa_cons pe_int pa_nil))) (fun _ _ => rfl)))) pa_nil)))
      (pss_cons (ps_par (i := 5) (j := 6) rfl sc_l_right.nd rfl rfl (by decide) rfl rfl (pa_cons (pe_op op_sub (C8.pe_c c_l_sip hr (by decide) rfl (pa_cons (pv 0) (pa_cons pe_int pa_nil))) pe_int) (pa_cons (pe_op op_add pe_int (C8.pe_c c_l_sip hr (by decide) rfl (pa_cons (pv 0) (pa_cons pe_int pa_nil)))) pa_nil)) rfl)
      (pss_cons (ps_set (i := 7) sc_l_right.nd rfl (Or.inl rfl) (C8.pe_mk k_Sign_2 hr (by decide) rfl (pa_cons (pv 4) (pa_cons (pv 5) pa_nil))))
      (pss_cons (ps_for PassesOwn.never rfl (pi_range1 rfl B.range (pa_cons (pe_cut pe_int) pa_nil)) (pg_name (i := 8) sc_l_right.nd rfl (Or.inl rfl)) (pss_cons (ps_set (i := 11) sc_l_right.nd rfl (Or.inl rfl) (pe_op op_add (C8.pe_c c_l_sip hr (by decide) rfl (pa_cons (pv 0) (pa_cons pe_int pa_nil))) (C8.pe_c c_l_pick hr (by decide) rfl (pa_cons (pv 0) (pa_cons (pe_lst (pa_cons pe_int (pa_cons pe_int (pa_cons (pe_op op_pow pe_int pe_int) (pa_cons (pe_op op_sub (pe_op op_pow pe_int pe_int) pe_int) pa_nil))))) pa_nil)))))
      (pss_cons (ps_set (i := 12) sc_l_right.nd rfl (Or.inl rfl) pe_str)
      (pss_cons (ps_for PassesOwn.never rfl (pi_range1 rfl B.range (pa_cons (pe_cut (pv 6)) pa_nil)) (pg_name (i := 13) sc_l_right.nd rfl (Or.inl rfl)) (pss_one (ps_set (i := 12) sc_l_right.nd rfl (Or.inl rfl) (pe_op op_add_str (pv 12) (pe_ix ix_str (pv 4) (pe_op op_mod (pe_callTy int_c rfl B.int boot_int (pa_cons (pe_op op_add (pv 13) (pe_op op_mul (pv 5) (pv 11))) pa_nil)) (pv 2)) (fun _ _ => rfl))))))
      (pss_cons (ps_if (PW.pt (pw_or (pt_cmpR op_ne (C8.pe_mt m_window hr (by decide) (pv 7) (pa_cons (pv 11) (pa_cons (pv 6) pa_nil))) (pv 12) (nomark _)) (pw_or1 (pt_cmpR op_ne (pe_mtK m_window_width_time hr (by decide) (pv 7) (pk_cons (pv 6) (pk_cons (pv 11) pk_nil))) (pv 12) (nomark _))))) (pss_one (ps_ret pe_bl)) pss_nil)
      (pss_cons (ps_set (i := 14) sc_l_right.nd rfl (Or.inl rfl) (pe_op op_mod (pe_callTy int_c rfl B.int boot_int (pa_cons (pe_op op_mul (pv 5) (pv 11)) pa_nil)) (pv 2)))
      (pss_one (ps_if (pt_cmpR op_ne (C8.pe_mt m_window hr (by decide) (C8.pe_mk k_Sign_2 hr (by decide) rfl (pa_cons (pe_op op_add_str (pe_slice sl_str (pv 4) (po_some (pv 14)) po_none) (pe_slice sl_str (pv 4) po_none (po_some (pv 14)))) (pa_cons (pv 5) pa_nil))) (pa_cons pe_int (pa_cons (pv 6) pa_nil))) (pv 12) (nomark _)) (pss_one (ps_ret pe_bl)) pss_nil))))))))
      (pss_cons (ps_set (i := 9) sc_l_right.nd rfl (Or.inl rfl) (pe_op op_add_str (pe_op op_add_str (pv 4) pe_str) (pe_callTy call_str_int rfl B.str boot_str (pa_cons (pv 5) pa_nil))))
      (pss_cons (ps_if (pt_cmpR op_ne (pe_callB (cr_show qt hr) rfl B.repr boot_repr (pa_cons (pe_lst (pa_cons (pe_pr p_text hr (by decide) (pv 7)) (pa_cons (pe_pr p_pace hr (by decide) (pv 7)) (pa_cons (pe_callB (sp_len c_len hr (by decide)) rfl B.len boot_len (pa_cons (pv 7) pa_nil)) pa_nil)))) pa_nil)) (pe_callB (cr_show qt hr) rfl B.repr boot_repr (pa_cons (pe_lst (pa_cons (pv 4) (pa_cons (pv 5) (pa_cons (pv 2) pa_nil)))) pa_nil)) (nomark _)) (pss_one (ps_ret pe_bl)) pss_nil)
      (pss_cons (ps_if (pt_cmpR (op_neD (hd_of hr)) (pe_lst (pa_cons (pe_callTy (sp_str c_str hr (by decide)) rfl B.str boot_str (pa_cons (pv 7) pa_nil)) (pa_cons (pe_callB (sp_repr c_repr hr (by decide)) rfl B.repr boot_repr (pa_cons (pv 7) pa_nil)) pa_nil))) (pe_lst (pa_cons (pv 9) (pa_cons (pe_op op_add_str (pe_op op_add_str pe_str (pv 9)) pe_str) pa_nil))) (nomark _)) (pss_one (ps_ret pe_bl)) pss_nil)
      (pss_cons (ps_if (PW.pt (pw_or (pt_cmpR (sp_ne c_eq m_obj m_ne hr (by decide)) (pv 7) (pe_mkK0 k_Sign_pace_text hr (by decide) rfl (pk_cons (pv 5) (pk_cons (pv 4) pk_nil))) (nomark _)) (pw_or (pt_not (pt_cmpR (sp_eq c_eq hr (by decide)) (pv 7) (C8.pe_mk k_Sign_2 hr (by decide) rfl (pa_cons (pv 4) (pa_cons (pv 5) pa_nil))) (nomark _))) (pw_or (pt_cmpR (sp_eq c_eq hr (by decide)) (pv 7) (pv 4) (nomark _)) (pw_or1 (pt_not (pt_truthR (pv 7) (sp_tru c_len n_bool hr (by decide)) (fun _ => rfl)))))))) (pss_one (ps_ret pe_bl)) pss_nil)
      (pss_cons (ps_set (i := 10) sc_l_right.nd rfl (Or.inl rfl) (C8.pe_mk k_Sign_2 hr (by decide) rfl (pa_cons (pe_ifExp (pt_cmpR op_lt (pv 2) pe_int (nomark _)) (pe_op op_add_str (pv 4) pe_str) (pe_slice sl_str (pv 4) (po_some pe_int) po_none)) (pa_cons (pv 5) pa_nil))))
      (pss_one (ps_if (PW.pt (pw_or (pt_cmpR op_ne (pe_cmpR (sp_eq c_eq hr (by decide)) (pv 7) (C8.pe_mk k_Sign_1 hr (by decide) rfl (pa_cons (pv 4) pa_nil)) (nomark _)) (pe_cmpR op_eq (pv 5) pe_int (nomark _)) (nomark _)) (pw_or1 (pt_cmpR (sp_eq c_eq hr (by decide)) (pv 7) (pv 10) (nomark _))))) (pss_one (ps_ret pe_bl)) pss_nil))))))))))))))
      (pss_one (ps_ret pe_bl))), ?_⟩
    have zS := sizeLine_ge
    refine for_rngC 6 ⟨rfl, rfl⟩ (by decide) (fun _ σ H' => Cup H' p ∧ But p H H' ∧ ∃ v1 v2 v3 v4 v5 v6 v7 v8 v9 v10 v11 v12 v13 v14 : Option V, σ = [some (.ref p), v1, v2, v3, v4, v5, v6, v7, v8, v9, v10, v11, v12, v13, v14]) ⟨hc, But.refl _ _, _, _, _, _, _, _, _, _, _, _, _, _, _, _, rfl⟩ ?_ ?_
    · intro i _ H0 hi hp
      obtain ⟨hc0, fr0, v1, v2, v3, v4, v5, v6, v7, v8, v9, v10, v11, v12, v13, v14, rfl⟩ := hp
      generalize hN : (fun σ H' => Cup H' p ∧ But p H H' ∧ ∃ v1 v2 v3 v4 v5 v6 v7 v8 v9 v10 v11 v12 v13 v14 : Option V, σ = [some (.ref p), v1, v2, v3, v4, v5, v6, v7, v8, v9, v10, v11, v12, v13, v14]) = Nx
      walk_at "rd"
      refine ⟨by decide, fun q hq => ⟨p, q, _, rfl, hc0.new (hc0.ne hq), hc0.ne hq, upd_same, by decide, by decide, fun j v H1 hj hc1 hb1 => ?_⟩⟩
      have fr1 : But p H H1 := (fr0.trans (But.of (same_new hq))).trans hb1
      clear hb1
      obtain ⟨m, rfl, m1, m2⟩ : ∃ m : Nat, v = .int m ∧ 1 ≤ m ∧ m ≤ 40 := by
        have hm := List.mem_of_getElem? hj
        simp only [List.mem_cons, List.not_mem_nil, or_false] at hm
        rcases hm with rfl | rfl | rfl | rfl | rfl | rfl
        · exact ⟨1, rfl, by omega, by omega⟩
        · exact ⟨2, rfl, by omega, by omega⟩
        · exact ⟨3, rfl, by omega, by omega⟩
        · exact ⟨5, rfl, by omega, by omega⟩
        · exact ⟨12, rfl, by omega, by omega⟩
        · exact ⟨40, rfl, by omega, by omega⟩
      walk_at "rd"
      refine lc_rngC m ⟨_, rfl, rfl, rfl⟩ (by omega) fun L hL => ⟨fun i H' => Cup H' p ∧ But p H H' ∧ ∃ l : List Nat, l.length = i ∧ (∀ c ∈ l, c ∈ LET.cps.toList) ∧ H' L = some (.lst (l.map fun c => .str ⟨#[c]⟩)), ⟨hc1.new (hc1.ne hL), fr1.mut (fr1.free (hc1.ne hL) hL), [], rfl, by simp, upd_same⟩, ?_, ?_⟩
      · intro i H' hi hp
        obtain ⟨hc2, fr2, l, hl, hlm, hL2⟩ := hp
        walk_at "rd"
        refine ⟨p, 27, rfl, hc2, by decide, by decide, fun r H2 r0 r1 hc3 hb => ?_⟩
        walk_at "rd"
        obtain ⟨c, hc4, hc5⟩ := let_at r0 r1
        refine ⟨by rw [let_len]; omega, c, hc4, _, hb _ _ (hc1.ne hL) hL2, ?_, hc3.new (hc1.ne hL), (fr2.trans hb).mut (fr1.free (hc1.ne hL) hL), l ++ [c], ?_, ?_, ?_⟩
        · rw [List.length_map]
          omega
        · rw [List.length_append, hl]
          rfl
        · intro x hx
          rcases List.mem_append.mp hx with h | h
          · exact hlm x h
          · rw [List.mem_singleton.mp h]
            exact hc5
        · rw [List.map_append]
          rfl
      · intro H' hp
        obtain ⟨hc2, fr2, l, hl, hlm, hL2⟩ := hp
        obtain ⟨z, hz⟩ : ∃ z : Str, z = ⟨l.toArray⟩ := ⟨_, rfl⟩
        have zt : isText z = true := by rw [hz]; exact isText_S (by omega) (by omega) hlm
        have zm : z.length = m := by rw [hz]; exact hl
        walk_at "rd"
        refine ⟨l, hL2, by omega, ?_⟩
        rw [← hz]
        clear hL2 hlm hL hj
        walk_at "rd"
        refine ⟨p, 19, rfl, hc2, by decide, by decide, fun st0 H2 s0 s1 hc3 hbA => ?_⟩
        walk_at "rd"
        refine ⟨p, 8, rfl, hc3, by decide, by decide, fun sz0 H3 z0 z1 hc4 hbB => ?_⟩
        obtain ⟨st, hst⟩ : ∃ st : Int, st = st0 - 9 := ⟨_, rfl⟩
        obtain ⟨sz, hsz⟩ : ∃ sz : Nat, (sz : Int) = 1 + sz0 := ⟨(1 + sz0).toNat, by omega⟩
        walk_at "rd"
        rw [← hst, ← hsz]
        intro a dx ha hdx hne
        refine ⟨a, dx, z, st, rfl, upd_same, zt, by omega, by omega, fun H4 hb4 hs4 => ⟨rfl, ?_⟩⟩
        have hc5 : Cup H4 p := by
          obtain ⟨x, y, h1, h2⟩ := hc4
          have n1 : p ≠ a := (Cup.ne ⟨x, y, h1, h2⟩ ha).symm
          have n2 : p ≠ dx := (Cup.ne ⟨x, y, h1, h2⟩ hdx).symm
          exact ⟨x, y, hb4 _ _ n1 (by rw [upd_ne n1, upd_ne n2]; exact h1), h2⟩
        have fr4 : But p H H4 := ((fr2.trans hbA).trans hbB).trans (But.of (made_same ha hdx hb4))
        clear hb4 ha hdx hc4 hc3 hc2 hc1 hc0 hc hq hbA hbB fr2 fr1 fr0
        walk_at "rd"
        obtain ⟨P2, hP2⟩ : ∃ P2 : Nat → St → Hp → Prop, P2 = fun _ σ H' => Cup H' p ∧ Sgn C H' a z st ∧ But p H H' ∧ ∃ v1 v8 v9 v10 v11 v12 v13 v14 : Option V, σ = [some (.ref p), v1, some (.int m), some (.str (Str.ofString "-abcdefghijklmnopqrstuvwxyz")), some (.str z), some (.int st), some (.int sz), some (.ref a), v8, v9, v10, v11, v12, v13, v14] := ⟨_, rfl⟩
        refine for_rngC 4 ⟨rfl, rfl⟩ (by decide) P2 (by rw [hP2]; exact ⟨hc5, hs4, fr4, _, _, _, _, _, _, _, _, rfl⟩) ?_ ?_
        · intro i2 σ2 H5 hi2 hp
          rw [hP2] at hp
          obtain ⟨hc6, hs6, fr6, w1, w8, w9, w10, w11, w12, w13, w14, rfl⟩ := hp
          walk_at "rd"
          refine ⟨p, 60, rfl, hc6, by decide, by decide, fun t0 H6 t1 t2 hc7 hb7 => ?_⟩
          walk_at "rd"
          have hs7 := hs6.but hc6 hb7
          refine ⟨⟨by decide, by decide, by decide⟩, ⟨by decide, by decide, by decide⟩, by decide, fun q2 hq2 => ⟨p, q2, _, rfl, hc7.new (hc7.ne hq2), hc7.ne hq2, upd_same, by decide, by decide, fun j2 v H7 hj2 hc8 hb8 => ?_⟩⟩
          have hs8 : Sgn C H7 a z st := (hs7.same (same_new hq2)).but (hc7.new (hc7.ne hq2)) hb8
          obtain ⟨b, rfl, b0, b1⟩ : ∃ b : Int, v = .int b ∧ 0 ≤ b ∧ b + 60 ≤ 10 ^ 30 := by
            have hm := List.mem_of_getElem? hj2
            simp only [List.mem_cons, List.not_mem_nil, or_false] at hm
            rcases hm with rfl | rfl | rfl | rfl
            · exact ⟨_, rfl, by decide, by decide⟩
            · exact ⟨_, rfl, by decide, by decide⟩
            · exact ⟨_, rfl, by decide, by decide⟩
            · exact ⟨_, rfl, by decide, by decide⟩
          obtain ⟨t, ht⟩ : ∃ t : Int, t = t0 + b := ⟨_, rfl⟩
          have ht0 : 0 ≤ t := by omega
          have ht1 : t ≤ 10 ^ 30 := by omega
          walk_at "rd"
          rw [← ht]
          have fr8 : But p H H7 := ((fr6.trans hb7).trans (But.of (same_new hq2))).trans hb8
          clear hj2 hb8 hq2 hs7 hb7 hc7 hc6 hs6 fr6
          obtain ⟨P3, hP3⟩ : ∃ P3 : Nat → St → Hp → Prop, P3 = fun n σ H => H = H7 ∧ ∃ v13 : Option V, σ = [some (.ref p), w1, some (.int m), some (.str (Str.ofString "-abcdefghijklmnopqrstuvwxyz")), some (.str z), some (.int st), some (.int sz), some (.ref a), some (.int i2), w9, w10, some (.int t), some (.str (win z st t n)), v13, w14] := ⟨_, rfl⟩
          refine for_rngC sz ⟨_, rfl, rfl, rfl⟩ (by omega) P3 (by rw [hP3]; exact ⟨rfl, _, rfl⟩) ?_ ?_
          · intro j3 σ3 H8 hj3 hp
            rw [hP3] at hp
            obtain ⟨rfl, u13, rfl⟩ := hp
            walk_at "rd"
            have zl : z.cps.toList.length = m := by rw [← zm]; exact Array.length_toList
            have ea := atI_mod z.cps.toList ((j3 : Int) + st * t) (by omega)
            rw [zl] at ea
            refine ⟨.inl ⟨by omega, by omega⟩, by omega, by omega, _, ea, ?_, ?_⟩
            · rw [win_len]
              show j3 + 1 ≤ sizeLine
              omega
            · rw [hP3]
              refine ⟨rfl, some (.int j3), ?_⟩
              rw [win_succ, zm]
          · intro σ3 H8 hp
            rw [hP3] at hp
            obtain ⟨rfl, u13, rfl⟩ := hp
            clear hP3
            have zr := isText_len zt
            obtain ⟨dx8, ha8⟩ := id hs8
            walk_at "rd"
            refine ⟨dx8, _, ha8, rfl, a, z, st, t, sz, rfl, hs8, by omega, by omega, by omega, by omega, ht0, ht1, by omega, by omega, fun H9 s9 => ?_⟩
            walk_at "rd"
            refine ⟨dx8, _, s9 _ _ ha8, rfl, a, z, st, t, sz, rfl, hs8.same s9, by omega, by omega, by omega, by omega, ht0, ht1, by omega, by omega, fun H10 s10 => ?_⟩
            have f0 : 0 ≤ st * t % (m : Int) := Int.emod_nonneg _ (by omega)
            have f1 : st * t % (m : Int) < m := Int.emod_lt_of_pos _ (by omega)
            obtain ⟨f, hf⟩ : ∃ f : Nat, (f : Int) = st * t % (m : Int) := ⟨(st * t % (m : Int)).toNat, by omega⟩
            walk_at "rd"
            rw [← hf, cut_from z f (by omega), cut_to z f (by omega), SX.S_cat]
            refine ⟨.inl ⟨by omega, by omega⟩, by omega, by omega, by omega, ?_, ?_⟩
            · rw [SX.S_len, SX.S_len, List.length_drop, List.length_take]
              have zl : z.cps.toList.length = z.length := Array.length_toList
              omega
            · intro b dxb hb hdb hne2
              refine ⟨b, dxb, SX.S (rot z.cps.toList f), st, rfl, upd_same, rot_text zt f (by omega), by omega, by omega, fun H11 hb11 hs11 => ⟨rfl, ?_⟩⟩
              have s11 : Same H10 H11 := fun c o e => hb11 c o (ne_of_none e hb) (by rw [upd_ne (ne_of_none e hb), upd_ne (ne_of_none e hdb)]; exact e)
              have rl : (SX.S (rot z.cps.toList f)).length = m := by
                have zl : z.cps.toList.length = z.length := Array.length_toList
                rw [SX.S_len, rot_len _ _ (by omega), zl, zm]
              obtain ⟨dx11, ha11⟩ := id hs11
              refine ⟨dx11, _, ha11, rfl, b, _, st, 0, sz, rfl, hs11, by omega, by omega, by omega, by omega, by omega, by decide, by omega, by omega, fun H12 s12 => ?_⟩
              rw [rot_win z st t sz f (by omega) (by rw [zm]; exact hf)]
              walk_at "rd"
              rw [hP2]
              have sAll := ((s9.trans s10).trans s11).trans s12
              exact ⟨hc8.same sAll, hs8.same sAll, fr8.trans (But.of sAll), _, _, _, _, _, _, _, _, rfl⟩
        · intro σ2 H5 hp
          rw [hP2] at hp
          obtain ⟨hc6, hs6, fr6, w1, w8, w9, w10, w11, w12, w13, w14, rfl⟩ := hp
          clear hP2
          obtain ⟨dx6, ha6⟩ := id hs6
          have zr := isText_len zt
          have n1 : (Str.ofString (toString st)).length ≤ 2 := num_len (by omega) (by omega)
          have stl : st.natAbs.log2 < 1920 := log_len (by omega) (by omega)
          obtain ⟨f1, f2, f3, f4⟩ := show_fine (a := st) (b := (m : Int)) zt (by omega) (by omega)
          walk_at "rd"
          rw [Str.length_append, at_len]
          refine ⟨by omega, stl, by omega, dx6, _, ha6, a, z, st, rfl, hs6, ?_⟩
          walk_at "rd"
          refine ⟨dx6, _, ha6, a, z, st, rfl, hs6, ?_⟩
          walk_at "rd"
          refine ⟨dx6, _, ha6, a, z, st, rfl, hs6, by omega, _, rfl, by omega, by omega, by omega, fun q1 hq1 => ⟨q1, D3 z st z.length, rfl, dp3 upd_same, by rw [zm]; exact f1, by rw [zm]; exact f2, by rw [zm]; exact f3, by rw [zm]; exact f4, ?_⟩⟩
          walk_at "rd"
          refine ⟨by omega, fun q2 hq2 => ⟨q2, D3 z st m, rfl, dp3 upd_same, f1, f2, f3, f4, ?_⟩⟩
          rw [zm]
          walk_at "rd"
          obtain ⟨H6, hH6⟩ : ∃ H6 : Hp, H6 = upd (upd H5 q1 (.lst [.str z, .int st, .int m])) q2 (.lst [.str z, .int st, .int m]) := ⟨_, rfl⟩
          rw [← hH6]
          have s6 : Same H5 H6 := by
            rw [hH6]
            exact (same_new hq1).trans (same_new (by first | exact hq2 | (rw [zm] at hq2; exact hq2)))
          have hc7 := hc6.same s6
          have hs7 := hs6.same s6
          have ha7 := s6 _ _ ha6
          clear hH6 hq1 hq2 f1 f2 f3 f4
          refine ⟨dx6, _, ha7, a, z, st, rfl, hs7, by omega, by omega, by omega, _, rfl, dx6, _, ha7, a, z, st, rfl, hs7, by omega, by omega, by omega, _, rfl, by omega, fun q3 hq3 => ?_⟩
          have tl := told_len (z := z) (p := st) (by omega) (by omega) (by omega)
          have tl' : (z ++ Str.ofString " at " ++ Str.ofString (toString st)).length = (told z st).length := rfl
          refine ⟨by rw [sg_len.1, tl']; omega, by rw [Str.length_append, sg_len.1, sg_len.2, tl']; omega, by omega, fun q4 hq4 => ?_⟩
          have shp := shaped2 (strOk_told (p := st) zt (by omega) (by omega)) (strOk_shown (strOk_told (p := st) zt (by omega) (by omega)))
          have n34 : q3 ≠ q4 := fun e => by rw [e, upd_same] at hq4; cases hq4
          refine ⟨_, _, dp2 (x := told z st) (y := shown (told z st)) (by rw [upd_ne n34, upd_same]; rfl), dp2 (x := told z st) (y := shown (told z st)) upd_same, shp, shp, ?_⟩
          rw [eqv2]
          have s8 : Same H5 (upd (upd H6 q3 (.lst [.str (id (told z st)), .str (shown (told z st))])) q4 (.lst [.str (z ++ Str.ofString " at " ++ Str.ofString (toString st)), .str (Str.ofString "Sign(" ++ (z ++ Str.ofString " at " ++ Str.ofString (toString st)) ++ Str.ofString ")")])) := (s6.trans (same_new hq3)).trans (same_new hq4)
          generalize upd (upd H6 q3 (.lst [.str (id (told z st)), .str (shown (told z st))])) q4 (.lst [.str (z ++ Str.ofString " at " ++ Str.ofString (toString st)), .str (Str.ofString "Sign(" ++ (z ++ Str.ofString " at " ++ Str.ofString (toString st)) ++ Str.ofString ")")]) = H8 at s8 ⊢
          clear hq3 hq4 n34 tl tl'
          have hc9 := hc6.same s8
          have hs9 := hs6.same s8
          have ha9 := s8 _ _ ha6
          clear hc7 hs7 ha7 s6
          walk_at "rd"
          intro b1 d1 hb1 hd1 hn1
          refine ⟨b1, d1, z, st, rfl, upd_same, zt, by omega, by omega, fun H9 hb9 hs9b => ⟨rfl, ?_⟩⟩
          have s9 := made_same hb1 hd1 hb9
          obtain ⟨e1, hb1'⟩ := id hs9b
          refine ⟨dx6, _, s9 _ _ ha9, .inl ⟨e1, b1, _, rfl, hb1'⟩, a, .ref b1, z, st, rfl, hs9.same s9, .inl ⟨b1, z, st, rfl, hs9b, _, rfl, ?_⟩⟩
          walk_at "rd"
          intro b2 d2 hb2 hd2 hn2
          refine ⟨b2, d2, z, st, rfl, upd_same, zt, by omega, by omega, fun H10 hb10 hs10 => ⟨rfl, ?_⟩⟩
          have s10 := made_same hb2 hd2 hb10
          obtain ⟨e2, hb2'⟩ := id hs10
          have hsD := (hs9.same s9).same s10
          have haD := s10 _ _ (s9 _ _ ha9)
          have hcD := (hc9.same s9).same s10
          refine ⟨dx6, _, haD, .inl ⟨e2, b2, _, rfl, hb2'⟩, a, .ref b2, z, st, rfl, hsD, .inl ⟨b2, z, st, rfl, hs10, _, rfl, ?_⟩⟩
          walk_at "rd"
          refine ⟨dx6, _, haD, .inr ⟨.type "str", tyN_ty rfl, nf_str⟩, a, .str z, z, st, rfl, hsD, .inr ⟨"str", rfl, _, rfl, ?_⟩⟩
          walk_at "rd"
          refine ⟨dx6, _, haD, a, z, st, rfl, hsD, by omega, _, rfl, by omega, by omega, ?_⟩
          have nz : ((z.length : Int) != 0) = true := bne_iff_ne.mpr (by omega)
          rw [nz]
          walk_at "rd"
          have al : (Str.ofString "a").length = 1 := by decide +kernel
          clear hb10 hs9b hb9 hs10 hb2' hb1'
          split
          · rename_i hm40
            have yt := a_text zt (by omega)
            refine ⟨by omega, ?_⟩
            intro b3 d3 hb3 hd3 hn3
            refine ⟨b3, d3, _, st, rfl, upd_same, yt.1, by omega, by omega, fun H11 hb11 hs11 => ⟨rfl, ?_⟩⟩
            have s11 := made_same hb3 hd3 hb11
            intro b4 d4 hb4 hd4 hn4
            refine ⟨b4, d4, z, 1, rfl, upd_same, zt, by omega, by omega, fun H12 hb12 hs12 => ⟨rfl, ?_⟩⟩
            have s12 := made_same hb4 hd4 hb12
            obtain ⟨e3, hb3'⟩ := hs11.same s12
            obtain ⟨e4, hb4'⟩ := id hs12
            have hsE := (hsD.same s11).same s12
            have haE := s12 _ _ (s11 _ _ haD)
            refine ⟨dx6, _, haE, .inl ⟨e4, b4, _, rfl, hb4'⟩, a, .ref b4, z, st, rfl, hsE, .inl ⟨b4, z, 1, rfl, hs12, _, rfl, ?_⟩⟩
            walk_at "rd"
            have eb : (decide (st = 1) = decide (st = 1)) = True := eq_self _
            refine ⟨dx6, _, haE, .inl ⟨e3, b3, _, rfl, hb3'⟩, a, .ref b3, z, st, rfl, hsE, .inl ⟨b3, _, st, rfl, hs11.same s12, _, rfl, ?_⟩⟩
            have ne : decide (z = z ++ Str.ofString "a" ∧ st = st) = false := decide_eq_false fun q => yt.2 q.1.symm
            walk_at "rd"
            rw [if_neg (fun q => yt.2 q.symm), ← hN]
            exact ⟨(hcD.same s11).same s12, fr6.trans (But.of ((((s8.trans s9).trans s10).trans s11).trans s12)), _, _, _, _, _, _, _, _, _, _, _, _, _, _, rfl⟩
          · rename_i hm40
            have yt := cut_text zt (by omega)
            refine ⟨by omega, ?_⟩
            intro b3 d3 hb3 hd3 hn3
            refine ⟨b3, d3, _, st, rfl, upd_same, yt.1, by omega, by omega, fun H11 hb11 hs11 => ⟨rfl, ?_⟩⟩
            have s11 := made_same hb3 hd3 hb11
            intro b4 d4 hb4 hd4 hn4
            refine ⟨b4, d4, z, 1, rfl, upd_same, zt, by omega, by omega, fun H12 hb12 hs12 => ⟨rfl, ?_⟩⟩
            have s12 := made_same hb4 hd4 hb12
            obtain ⟨e3, hb3'⟩ := hs11.same s12
            obtain ⟨e4, hb4'⟩ := id hs12
            have hsE := (hsD.same s11).same s12
            have haE := s12 _ _ (s11 _ _ haD)
            refine ⟨dx6, _, haE, .inl ⟨e4, b4, _, rfl, hb4'⟩, a, .ref b4, z, st, rfl, hsE, .inl ⟨b4, z, 1, rfl, hs12, _, rfl, ?_⟩⟩
            walk_at "rd"
            have eb : (decide (st = 1) = decide (st = 1)) = True := eq_self _
            refine ⟨dx6, _, haE, .inl ⟨e3, b3, _, rfl, hb3'⟩, a, .ref b3, z, st, rfl, hsE, .inl ⟨b3, _, st, rfl, hs11.same s12, _, rfl, ?_⟩⟩
            have ne : decide (z = cutS z (some 1) none ∧ st = st) = false := decide_eq_false fun q => yt.2 q.1.symm
            walk_at "rd"
            rw [if_neg (fun q => yt.2 q.symm), ← hN]
            exact ⟨(hcD.same s11).same s12, fr6.trans (But.of ((((s8.trans s9).trans s10).trans s11).trans s12)), _, _, _, _, _, _, _, _, _, _, _, _, _, _, rfl⟩
    · rintro _ H0 ⟨_, fr0, v1, v2, v3, v4, v5, v6, v7, v8, v9, v10, v11, v12, v13, v14, rfl⟩
      exact k H0 fr0
end
end L2.G
set_option Elab.async false
set_option linter.all false
set_option maxRecDepth 100000
set_option maxHeartbeats 4000000
namespace L2.G
open PySem PySem.Spec PyProof.Rows
local macro_rules | `(tactic| walk_at "rd") => `(tactic| first | simp only [cxOf, tSeq, tMethK, tMeth, tMake, tMakeK, tProp, rLenI, rTxtI, rTruI, rEqI, tJs, tFmt, wipe, tBM, tBM0, tyV, cJoin, rIxS, sFld, tAsg, tOp, tUn, tCB, tCons, tNil, tVar, tC, rI, rI0, rU, cIx, cSet, cLen, cInt, cDivmod, cTup, cIsiB, cIsiC, cFld, tyN, isB_NoneType_int, isB_NoneType_str, isB_NoneType_bool, isB_NoneType_tuple, isB_bool_int, isB_bool_str, isB_bool_bool, isB_bool_tuple, isB_int_int, isB_int_str, isB_int_bool, isB_int_tuple, isB_str_int, isB_str_str, isB_str_bool, isB_str_tuple, isB_list_int, isB_list_str, isB_list_bool, isB_list_tuple, isB_tuple_int, isB_tuple_str, isB_tuple_bool, isB_tuple_tuple, isB_dict_int, isB_dict_str, isB_dict_bool, isB_dict_tuple, gSub, start, tIfS, tTest, tB, tNot, tAnd, tOr, tAndV, tOrV, tNotV, tChain, tIf, tSl, tPart, tNoPart, rSlL, rSlS, tLst, tTup, tYes, tRet, tNext, tDrop, gCons, gNil, gName, tCall, tPar, rEq, rNe, scal_ss, scal_ii, scal_bb, scal_nn, tNever,
  List.map_cons, List.map_nil, List.length_cons, List.length_nil, List.replicate, List.cons_append, List.nil_append, List.append_nil, List.getElem?_cons_zero, List.getElem?_cons_succ, List.set_cons_zero, List.set_cons_succ, List.getElem?_nil, Nat.reduceAdd, Nat.reduceSub, List.replicate_succ, List.replicate_zero,
  Option.some.injEq, V.int.injEq, V.ref.injEq, V.str.injEq, V.bl.injEq, V.ty.injEq, List.cons.injEq, and_true, true_and, and_assoc, exists_false, false_and, or_false, false_or, and_false, exists_eq_left', exists_and_left, exists_eq_left, upd_same, atI0, atI1, ixN20, ixN21, decide_eq_true_eq, if_true, if_false, reduceIte, Bool.false_eq_true, Bool.not_true, Bool.not_false, Bool.not_eq_true', decide_eq_false_iff_not,  reduceCtorEq, eq_self, decide_true, decide_false, not_true_eq_false, not_false_eq_true, id_eq] | skip)
theorem sc_law : FnScope ["_law_script", "_law_seen", "_law_spot"] ["_law_script"] (defScope s_law) := ⟨rfl, rfl, rfl, by decide +kernel, rfl, by decide +kernel, by decide +kernel⟩
section
variable {P : Program} {w : World} {K : PySem.W.Frag} {mg : Str → Option Value} {base : Heap}
def spLaw (K : PySem.W.Frag) : Sp := fun vs H Q _ => ∃ (a : Addr) (ns : List Int), vs = [.ref a] ∧ SqL K H a (ns.map V.int) ∧ ns.length ≤ 63 ∧ ∀ H', Q (.bl true) H'
theorem ok_law {f C : Addr} {fd : FuncData} (F : Fun K "law" "law" s_law f fd) (B : Bn mg) (T : TxS K mg C)
    (c_l_cup : Cal P w K mg base 1 "_law_cup" (spCup K)) (c_l_right : CalG P w K mg base 6 "_law_right" spRight)
    (k_Sign_2 : C8.Mak P w K mg base 4 "Sign" C (spInit C) []) (k_Sign_1 : C8.Mak P w K mg base 4 "Sign" C (spInit C) [.int 1])
    (m_window : C8.Met P w K mg base 4 C "window" (spWin C) []) (c_str : Spc P w K mg base 1 C "__str__" (spStr C id)) : FnOkG P w K mg base CX0 7 f fd ["_law_script"] (spLaw K) := by
  refine F.okG sc_law (fun vs H Q E h => ?_) (fun cdv A outer s H vs Q E qt hr h => ?_)
  · obtain ⟨a, ns, rfl, _⟩ := h
    rfl
  · obtain ⟨a, ns, rfl, hS, hl, k⟩ := h
    refine ⟨_, (pss_cons (ps_set (i := 1) sc_law.nd rfl (Or.inl rfl) (pe_lst (pa_cons (C8.pe_mt m_window hr (by decide) (C8.pe_mk k_Sign_1 hr (by decide) rfl (pa_cons pe_str pa_nil)) (pa_cons (pe_op op_pow pe_int pe_int) (pa_cons pe_int pa_nil))) (pa_cons (C8.pe_mt m_window hr (by decide) (C8.pe_mk k_Sign_2 hr (by decide) rfl (pa_cons pe_str (pa_cons (pe_un un_neg pe_int) pa_nil))) (pa_cons pe_int (pa_cons pe_int pa_nil))) (pa_cons (C8.pe_mt m_window hr (by decide) (C8.pe_mk k_Sign_2 hr (by decide) rfl (pa_cons pe_str (pa_cons pe_int pa_nil))) (pa_cons pe_int (pa_cons pe_int pa_nil))) pa_nil)))))
      (pss_cons (ps_if (PW.pt (pw_or (pt_cmpR (op_neD (hd_of hr)) (pv 1) (pe_lst (pa_cons pe_str (pa_cons pe_str (pa_cons pe_str pa_nil)))) (nomark _)) (pw_or1 (pt_cmpR op_ne (pe_callTy (sp_str c_str hr (by decide)) rfl B.str boot_str (pa_cons (C8.pe_mk k_Sign_2 hr (by decide) rfl (pa_cons pe_str (pa_cons pe_int pa_nil))) pa_nil)) pe_str (nomark _))))) (pss_one (ps_ret pe_bl)) pss_nil)
      (pss_one (ps_ret (pe_callB (cr_all rfl) rfl B.all boot_all (pa_cons (pe_lc (own := [("_law_spot", 2)]) (g := gName 2) rfl sc_law.nd (pi_range1 rfl B.range (pa_cons (pe_cut (pe_callB (call_max2 rfl) rfl B.max boot_max (pa_cons pe_int (pa_cons (pe_callB (call_min2 rfl) rfl B.min boot_min (pa_cons (pe_callB call_len rfl B.len boot_len (pa_cons (pv 0) pa_nil)) (pa_cons pe_int pa_nil))) pa_nil)))) pa_nil)) (blkOk_by (N := ["_law_script", "_law_seen", "_law_spot"]) (sc := defScope s_law) (by decide +kernel)) (fun _ _ _ _ _ => (pg_name (i := 2) sc_law.nd rfl (Or.inl rfl))) (fun _ _ _ _ _ => pts_nil) (fun _ _ _ _ _ => (pe_cG c_l_right qt hr (by decide) rfl (pa_cons (C8.pe_c c_l_cup hr (by decide) rfl (pa_cons (pv 0) (pa_cons (pv 2) pa_nil))) pa_nil)))) pa_nil)))))), ?_⟩
    have zS := sizeLine_ge
    walk_at "rd"
    intro b1 d1 hb1 hd1 hn1
    refine ⟨b1, d1, _, _, rfl, upd_same, by decide +kernel, by decide, by decide, fun H1 hB1 hs1 => ⟨rfl, ?_⟩⟩
    have s1 := made_same hb1 hd1 hB1
    obtain ⟨e1, h1⟩ := id hs1
    refine ⟨e1, _, h1, rfl, ⟨by decide, by decide, by decide⟩, b1, _, _, _, 4, rfl, hs1, by decide +kernel, by decide +kernel, by decide, by decide, by decide, by decide, by decide, by decide, fun H2 s2 => ?_⟩
    intro b2 d2 hb2 hd2 hn2
    refine ⟨b2, d2, _, _, rfl, upd_same, by decide +kernel, by decide, by decide, fun H3 hB3 hs3 => ⟨rfl, ?_⟩⟩
    have s3 := made_same hb2 hd2 hB3
    obtain ⟨e3, h3⟩ := id hs3
    refine ⟨e3, _, h3, rfl, b2, _, _, 1, 4, rfl, hs3, by decide +kernel, by decide +kernel, by decide, by decide, by decide, by decide, by decide, by decide, fun H4 s4 => ?_⟩
    intro b3 d3 hb3 hd3 hn3
    refine ⟨b3, d3, _, _, rfl, upd_same, by decide +kernel, by decide, by decide, fun H5 hB5 hs5 => ⟨rfl, ?_⟩⟩
    have s5 := made_same hb3 hd3 hB5
    obtain ⟨e5, h5⟩ := id hs5
    refine ⟨e5, _, h5, rfl, b3, _, _, 7, 3, rfl, hs5, by decide +kernel, by decide +kernel, by decide, by decide, by decide, by decide, by decide, by decide, fun H6 s6 => ?_⟩
    walk_at "rd"
    refine ⟨by omega, fun q1 hq1 => ⟨by omega, fun q2 hq2 => ?_⟩⟩
    have w1 : win (Str.ofString "ab-") 1 (10 ^ Int.toNat 30) 4 = Str.ofString "b-ab" := by decide +kernel
    have w2 : win (Str.ofString "ab-") (-2) 1 4 = Str.ofString "b-ab" := by decide +kernel
    have w3 : win (Str.ofString "xy") 0 7 3 = Str.ofString "xyx" := by decide +kernel
    rw [w1, w2, w3] at hq2 ⊢
    have n12 : q1 ≠ q2 := fun e => by rw [e, upd_same] at hq2; cases hq2
    refine ⟨.list [.str (Str.ofString "b-ab"), .str (Str.ofString "b-ab"), .str (Str.ofString "xyx")], .list [.str (Str.ofString "b-ab"), .str (Str.ofString "b-ab"), .str (Str.ofString "xyx")], .lst (.inl (.inl (by rw [upd_ne n12, upd_same]))) (.cons (.str _) (.cons (.str _) (.cons (.str _) .nil))), .lst (.inl (.inl upd_same)) (.cons (.str _) (.cons (.str _) (.cons (.str _) .nil))), by decide +kernel, by decide +kernel, ?_⟩
    have ee : PyData.eqv (.list [.str (Str.ofString "b-ab"), .str (Str.ofString "b-ab"), .str (Str.ofString "xyx")]) (.list [.str (Str.ofString "b-ab"), .str (Str.ofString "b-ab"), .str (Str.ofString "xyx")]) = true := by decide +kernel
    rw [ee]
    have s8 : Same H (upd (upd H6 q1 (.lst [.str (Str.ofString "b-ab"), .str (Str.ofString "b-ab"), .str (Str.ofString "xyx")])) q2 (.lst [.str (Str.ofString "b-ab"), .str (Str.ofString "b-ab"), .str (Str.ofString "xyx")])) :=
      ((((((s1.trans s2).trans s3).trans s4).trans s5).trans s6).trans (same_new hq1)).trans (same_new hq2)
    generalize upd (upd H6 q1 (.lst [.str (Str.ofString "b-ab"), .str (Str.ofString "b-ab"), .str (Str.ofString "xyx")])) q2 (.lst [.str (Str.ofString "b-ab"), .str (Str.ofString "b-ab"), .str (Str.ofString "xyx")]) = H8 at s8 ⊢
    clear hq1 hq2 n12 s6 s5 s4 s3 s2 s1
    walk_at "rd"
    intro b4 d4 hb4 hd4 hn4
    refine ⟨b4, d4, _, _, rfl, upd_same, by decide +kernel, by decide, by decide, fun H9 hB9 hs9 => ⟨rfl, ?_⟩⟩
    have s9 := made_same hb4 hd4 hB9
    obtain ⟨e9, h9⟩ := id hs9
    refine ⟨e9, _, h9, b4, _, _, rfl, hs9, by decide +kernel, by decide, by decide, _, rfl, ?_⟩
    have w4 : told (Str.ofString "a") 0 = Str.ofString "a at 0" := by decide +kernel
    rw [show id (told (Str.ofString "a") 0) = Str.ofString "a at 0" from w4]
    walk_at "rd"
    have sq := (s8.trans s9).seq hS
    have hlen : LenV K (.ref a) H9 ns.length := .inl ⟨_, sq, by simp⟩
    obtain ⟨n, hn, n2⟩ : ∃ n : Nat, (if (if (6 : Int) < ns.length then (6 : Int) else ns.length) > 2 then (if (6 : Int) < ns.length then (6 : Int) else ns.length) else 2) = (n : Int) ∧ n ≤ 6 := by
      refine ⟨(if (if (6 : Int) < ns.length then (6 : Int) else ns.length) > 2 then (if (6 : Int) < ns.length then (6 : Int) else ns.length) else 2).toNat, ?_, ?_⟩
      · split <;> split <;> omega
      · split <;> split <;> omega
    obtain ⟨P1, hP1⟩ : ∃ P1 : Addr → Nat → Hp → Prop, P1 = fun L i H' => Same H9 H' ∧ H' L = some (.lst (List.replicate i (.bl true))) := ⟨_, rfl⟩
    refine lc_rngC n ?_ (by omega) fun L hL => ⟨P1 L, ?_, ?_, ?_⟩
    · simp only [tCB, tCons, tNil, tVar, tC]
      refine ⟨_, rfl, _, rfl, _, hlen, _, _, rfl, _, _, rfl, ?_⟩
      exact ⟨congrArg V.int hn, by first | trivial | rfl⟩
    · rw [hP1]
      exact ⟨same_new hL, upd_same⟩
    · intro i H' hi hp
      rw [hP1] at hp ⊢
      obtain ⟨q1', q2'⟩ := hp
      walk_at "rd"
      refine ⟨a, ns, i, rfl, q1'.seq sq, hl, by omega, fun p H2 hp hs hc => ⟨p, rfl, hc, fun H3 hB => ?_⟩⟩
      have npL : L ≠ p := fun e => by rw [e, hp] at q2'; cases q2'
      have hL3 := hB _ _ npL (hs _ _ q2')
      refine ⟨_, hL3, ?_, ?_, ?_⟩
      · rw [List.length_replicate]
        omega
      · refine same_mut (fun b o e => hB b o (ne_of_none (q1' b o e) hp) (hs _ _ (q1' b o e))) hL
      · first
          | rw [List.replicate_succ']
          | (show HO.lst (List.replicate i (V.bl true) ++ [V.bl true]) = HO.lst (List.replicate (i + 1) (V.bl true)); rw [List.replicate_succ'])
    · intro H' hp
      rw [hP1] at hp
      obtain ⟨_, q2'⟩ := hp
      refine ⟨L, List.replicate n true, rfl, .inl (.inl ?_), ?_⟩
      · rw [q2', List.map_replicate]
      · have e : (List.replicate n true).all id = true := by simp
        rw [e]
        exact k H'
end
end L2.G
set_option Elab.async false
set_option linter.all false
set_option maxRecDepth 100000
set_option maxHeartbeats 4000000
namespace L2.G
open PySem PySem.Spec PyProof.Rows
theorem vals_rev {xs : List V} {us : List Value} (r : Vals xs us) : Vals xs.reverse us.reverse := by
  induction r with
  | nil => exact .nil
  | cons h _ ih =>
    rw [List.reverse_cons, List.reverse_cons]
    exact Vals.append ih (.cons h .nil)
theorem kbn_of {K : PySem.W.Frag} {x qual : Str} {st : Stmt} {f : Addr} {fd : FuncData} {ps ks : List Str} (F : Fun K x qual st f fd)
    (h : ∀ (kV doc pm : Value) (an : Option Addr) (cdv ct : Value) (us ws : List Value), us.length = 1 → ws.length = ks.length → bindArgs (PySem.W.fnOf x qual (defArgs st) (defBody st) (defScope st) .none kV doc pm an cdv ct) ⟨us, ks.zip ws⟩ = pure (ps.zip (us ++ ws.reverse))) :
    KBn K fd ps 1 ks (fun us ws => us ++ ws.reverse) (fun vs zs => vs ++ zs.reverse) := by
  obtain ⟨oc, od, kV, doc, pm, an, cdv, ct, osl, e, lk, hcd⟩ := F.ex
  subst e
  exact ⟨fun s us ws _ l1 l2 => .of_eq (h kV doc pm an cdv ct us ws l1 l2), fun r1 r2 => r1.append (vals_rev r2)⟩
theorem mro_no {C : Addr} : ∀ t ∈ tyNs, (fastBuiltinMro t).map (fun m : List Value => m.contains (.ref C)) = some false := by
  intro t ht
  have e : ∀ t ∈ tyNs, ∃ m, fastBuiltinMro t = some m ∧ m.all (fun v => match v with | .type _ => true | _ => false) = true := by
    have h : (tyNs.all fun t => match fastBuiltinMro t with | some m => m.all (fun v => match v with | .type _ => true | _ => false) | none => false) = true := by decide +kernel
    intro t ht
    have q := List.all_eq_true.mp h t ht
    split at q
    · rename_i m hm
      exact ⟨m, hm, q⟩
    · cases q
  obtain ⟨m, hm, q⟩ := e t ht
  rw [hm]
  show some (m.contains (.ref C)) = some false
  congr 1
  cases c : m.contains (Value.ref C) with
  | false => rfl
  | true =>
    have hmem : Value.ref C ∈ m := by simpa using c
    have z := List.all_eq_true.mp q _ hmem
    cases z
theorem kit_no {K : PySem.W.Frag} {C : Addr} (hd : PySem.W.hasDictIn K C = true) (ty : PySem.W.typeIn K (.ref C) = some (.type "type")) : ∀ t ∈ tyNs, PySem.W.kitOne K (.type t) (.ref C) = some false := by
  intro t ht
  have hc : (PySem.W.clsIn K C).isSome = true := by
    obtain ⟨cd, hc, _⟩ := PySem.W.any_some hd
    rw [hc]
    rfl
  have e1 : (Value.type t == Value.ref C) = false := rfl
  have e2 : PySem.W.subIn K (.type t) (.ref C) = some false := mro_no t ht
  unfold PySem.W.kitOne PySem.W.kitCls
  rw [e1]
  simp [e2, hc, ty]
theorem all_mk {l : PySem.W.OpenLaw} {w : World} {K : PySem.W.Frag} {h : Heap} {mg : Str → Option Value} {fa C : Addr} (X : K.In h) (Gn : h.Ns mainGlobals mg) (hfa : mg "law" = some (.ref fa))
    {f0 : Addr} {oc0 kV0 dc0 pm0 cd0 ct0 : Value} {od0 an0 : Option Addr} {sl0 : Array (Option Value)}
    {f1 : Addr} {oc1 kV1 dc1 pm1 cd1 ct1 : Value} {od1 an1 : Option Addr} {sl1 : Array (Option Value)}
    {f2 : Addr} {oc2 kV2 dc2 pm2 cd2 ct2 : Value} {od2 an2 : Option Addr} {sl2 : Array (Option Value)}
    {f3 : Addr} {oc3 kV3 dc3 pm3 cd3 ct3 : Value} {od3 an3 : Option Addr} {sl3 : Array (Option Value)}
    {f4 : Addr} {oc4 kV4 dc4 pm4 cd4 ct4 : Value} {od4 an4 : Option Addr} {sl4 : Array (Option Value)}
    {f5 : Addr} {oc5 kV5 dc5 pm5 cd5 ct5 : Value} {od5 an5 : Option Addr} {sl5 : Array (Option Value)}
    {f6 : Addr} {oc6 kV6 dc6 pm6 cd6 ct6 : Value} {od6 an6 : Option Addr} {sl6 : Array (Option Value)}
    {f7 : Addr} {oc7 kV7 dc7 pm7 cd7 ct7 : Value} {od7 an7 : Option Addr} {sl7 : Array (Option Value)}
    {f8 : Addr} {oc8 kV8 dc8 pm8 cd8 ct8 : Value} {od8 an8 : Option Addr} {sl8 : Array (Option Value)}
    {f9 : Addr} {oc9 kV9 dc9 pm9 cd9 ct9 : Value} {od9 an9 : Option Addr} {sl9 : Array (Option Value)}
    {f10 : Addr} {oc10 kV10 dc10 pm10 cd10 ct10 : Value} {od10 an10 : Option Addr} {sl10 : Array (Option Value)}
    {f11 : Addr} {oc11 kV11 dc11 pm11 cd11 ct11 : Value} {od11 an11 : Option Addr} {sl11 : Array (Option Value)}
    {f12 : Addr} {oc12 kV12 dc12 pm12 cd12 ct12 : Value} {od12 an12 : Option Addr} {sl12 : Array (Option Value)}
    {f13 : Addr} {oc13 kV13 dc13 pm13 cd13 ct13 : Value} {od13 an13 : Option Addr} {sl13 : Array (Option Value)}
    {f14 : Addr} {oc14 kV14 dc14 pm14 cd14 ct14 : Value} {od14 an14 : Option Addr} {sl14 : Array (Option Value)}
    {T0 : Addr} {ocT : Value} {odT : Option Addr} {nTT : Nat} {slT : Array (Option Value)} {tT : Tok}
    {f15 : Addr} {oc15 kV15 dc15 pm15 cd15 ct15 : Value} {od15 an15 : Option Addr} {sl15 : Array (Option Value)}
    {p15 : Addr} {rest15 : List Value}
    {f16 : Addr} {oc16 kV16 dc16 pm16 cd16 ct16 : Value} {od16 an16 : Option Addr} {sl16 : Array (Option Value)}
    {p16 : Addr} {rest16 : List Value}
    {f17 : Addr} {oc17 kV17 dc17 pm17 cd17 ct17 : Value} {od17 an17 : Option Addr} {sl17 : Array (Option Value)}
    {f18 : Addr} {oc18 kV18 dc18 pm18 cd18 ct18 : Value} {od18 an18 : Option Addr} {sl18 : Array (Option Value)}
    {f19 : Addr} {oc19 kV19 dc19 pm19 cd19 ct19 : Value} {od19 an19 : Option Addr} {sl19 : Array (Option Value)}
    {f20 : Addr} {oc20 kV20 dc20 pm20 cd20 ct20 : Value} {od20 an20 : Option Addr} {sl20 : Array (Option Value)}
    {f21 : Addr} {oc21 kV21 dc21 pm21 cd21 ct21 : Value} {od21 an21 : Option Addr} {sl21 : Array (Option Value)}
    {u0 : Tok}
    {u1 : Tok}
    {u2 : Tok}
    {u3 : Tok}
    {u4 : Tok}
    (a0 : PySem.W.nsIn K mainGlobals "number_at" = some (some (.ref f0)))
    (l0 : K.lookup f0 = some ⟨oc0, od0, .func (PySem.W.fnOf "number_at" "number_at" (defArgs s_number_at) (defBody s_number_at) (defScope s_number_at) .none kV0 dc0 pm0 an0 cd0 ct0), sl0⟩)
    (c0 : PySem.W.codeIn K cd0 "number_at" = true)
    (k0 : PySem.W.keepIn K (.ref f0) = true)
    (a1 : PySem.W.nsIn K mainGlobals "numbers_at" = some (some (.ref f1)))
    (l1 : K.lookup f1 = some ⟨oc1, od1, .func (PySem.W.fnOf "numbers_at" "numbers_at" (defArgs s_numbers_at) (defBody s_numbers_at) (defScope s_numbers_at) .none kV1 dc1 pm1 an1 cd1 ct1), sl1⟩)
    (c1 : PySem.W.codeIn K cd1 "numbers_at" = true)
    (k1 : PySem.W.keepIn K (.ref f1) = true)
    (a2 : PySem.W.nsIn K mainGlobals "is_whole" = some (some (.ref f2)))
    (l2 : K.lookup f2 = some ⟨oc2, od2, .func (PySem.W.fnOf "is_whole" "is_whole" (defArgs s_is_whole) (defBody s_is_whole) (defScope s_is_whole) .none kV2 dc2 pm2 an2 cd2 ct2), sl2⟩)
    (c2 : PySem.W.codeIn K cd2 "is_whole" = true)
    (k2 : PySem.W.keepIn K (.ref f2) = true)
    (a3 : PySem.W.nsIn K mainGlobals "is_time" = some (some (.ref f3)))
    (l3 : K.lookup f3 = some ⟨oc3, od3, .func (PySem.W.fnOf "is_time" "is_time" (defArgs s_is_time) (defBody s_is_time) (defScope s_is_time) .none kV3 dc3 pm3 an3 cd3 ct3), sl3⟩)
    (c3 : PySem.W.codeIn K cd3 "is_time" = true)
    (k3 : PySem.W.keepIn K (.ref f3) = true)
    (a4 : PySem.W.nsIn K mainGlobals "is_pace" = some (some (.ref f4)))
    (l4 : K.lookup f4 = some ⟨oc4, od4, .func (PySem.W.fnOf "is_pace" "is_pace" (defArgs s_is_pace) (defBody s_is_pace) (defScope s_is_pace) .none kV4 dc4 pm4 an4 cd4 ct4), sl4⟩)
    (c4 : PySem.W.codeIn K cd4 "is_pace" = true)
    (k4 : PySem.W.keepIn K (.ref f4) = true)
    (a5 : PySem.W.nsIn K mainGlobals "check_time" = some (some (.ref f5)))
    (l5 : K.lookup f5 = some ⟨oc5, od5, .func (PySem.W.fnOf "check_time" "check_time" (defArgs s_check_time) (defBody s_check_time) (defScope s_check_time) .none kV5 dc5 pm5 an5 cd5 ct5), sl5⟩)
    (c5 : PySem.W.codeIn K cd5 "check_time" = true)
    (k5 : PySem.W.keepIn K (.ref f5) = true)
    (a6 : PySem.W.nsIn K mainGlobals "check_width" = some (some (.ref f6)))
    (l6 : K.lookup f6 = some ⟨oc6, od6, .func (PySem.W.fnOf "check_width" "check_width" (defArgs s_check_width) (defBody s_check_width) (defScope s_check_width) .none kV6 dc6 pm6 an6 cd6 ct6), sl6⟩)
    (c6 : PySem.W.codeIn K cd6 "check_width" = true)
    (k6 : PySem.W.keepIn K (.ref f6) = true)
    (a7 : PySem.W.nsIn K mainGlobals "check_pace" = some (some (.ref f7)))
    (l7 : K.lookup f7 = some ⟨oc7, od7, .func (PySem.W.fnOf "check_pace" "check_pace" (defArgs s_check_pace) (defBody s_check_pace) (defScope s_check_pace) .none kV7 dc7 pm7 an7 cd7 ct7), sl7⟩)
    (c7 : PySem.W.codeIn K cd7 "check_pace" = true)
    (k7 : PySem.W.keepIn K (.ref f7) = true)
    (a8 : PySem.W.nsIn K mainGlobals "is_text" = some (some (.ref f8)))
    (l8 : K.lookup f8 = some ⟨oc8, od8, .func (PySem.W.fnOf "is_text" "is_text" (defArgs s_is_text) (defBody s_is_text) (defScope s_is_text) .none kV8 dc8 pm8 an8 cd8 ct8), sl8⟩)
    (c8 : PySem.W.codeIn K cd8 "is_text" = true)
    (k8 : PySem.W.keepIn K (.ref f8) = true)
    (a9 : PySem.W.nsIn K mainGlobals "_law_cup" = some (some (.ref f9)))
    (l9 : K.lookup f9 = some ⟨oc9, od9, .func (PySem.W.fnOf "_law_cup" "_law_cup" (defArgs s_l_cup) (defBody s_l_cup) (defScope s_l_cup) .none kV9 dc9 pm9 an9 cd9 ct9), sl9⟩)
    (c9 : PySem.W.codeIn K cd9 "_law_cup" = true)
    (k9 : PySem.W.keepIn K (.ref f9) = true)
    (a10 : PySem.W.nsIn K mainGlobals "_law_sip" = some (some (.ref f10)))
    (l10 : K.lookup f10 = some ⟨oc10, od10, .func (PySem.W.fnOf "_law_sip" "_law_sip" (defArgs s_l_sip) (defBody s_l_sip) (defScope s_l_sip) .none kV10 dc10 pm10 an10 cd10 ct10), sl10⟩)
    (c10 : PySem.W.codeIn K cd10 "_law_sip" = true)
    (k10 : PySem.W.keepIn K (.ref f10) = true)
    (a11 : PySem.W.nsIn K mainGlobals "_law_pick" = some (some (.ref f11)))
    (l11 : K.lookup f11 = some ⟨oc11, od11, .func (PySem.W.fnOf "_law_pick" "_law_pick" (defArgs s_l_pick) (defBody s_l_pick) (defScope s_l_pick) .none kV11 dc11 pm11 an11 cd11 ct11), sl11⟩)
    (c11 : PySem.W.codeIn K cd11 "_law_pick" = true)
    (k11 : PySem.W.keepIn K (.ref f11) = true)
    (a12 : PySem.W.nsIn K mainGlobals "_law_right" = some (some (.ref f12)))
    (l12 : K.lookup f12 = some ⟨oc12, od12, .func (PySem.W.fnOf "_law_right" "_law_right" (defArgs s_l_right) (defBody s_l_right) (defScope s_l_right) .none kV12 dc12 pm12 an12 cd12 ct12), sl12⟩)
    (c12 : PySem.W.codeIn K cd12 "_law_right" = true)
    (k12 : PySem.W.keepIn K (.ref f12) = true)
    (a13 : PySem.W.nsIn K mainGlobals "law" = some (some (.ref f13)))
    (l13 : K.lookup f13 = some ⟨oc13, od13, .func (PySem.W.fnOf "law" "law" (defArgs s_law) (defBody s_law) (defScope s_law) .none kV13 dc13 pm13 an13 cd13 ct13), sl13⟩)
    (c13 : PySem.W.codeIn K cd13 "law" = true)
    (k13 : PySem.W.keepIn K (.ref f13) = true)
    (a14 : PySem.W.findIn K (.ref C) "__init__" = some (some (.ref f14)))
    (i14 : PySem.W.isFn K (.ref f14) = true)
    (l14 : K.lookup f14 = some ⟨oc14, od14, .func (PySem.W.fnOf "__init__" "Sign.__init__" (defArgs s_Sign_init) (defBody s_Sign_init) (defScope s_Sign_init) (.ref T0) kV14 dc14 pm14 an14 cd14 ct14), sl14⟩)
    (lT : K.lookup T0 = some ⟨ocT, odT, .seq #[.int 1 tT] nTT, slT⟩)
    (c14 : PySem.W.codeIn K cd14 "Sign.__init__" = true)
    (k14 : PySem.W.keepIn K (.ref f14) = true)
    (a15 : PySem.W.findIn K (.ref C) "text" = some (some (.ref p15)))
    (g15 : PySem.W.specialIn K (.ref p15) "__get__" = some (some (.builtin "property.__get__")))
    (t15 : PySem.W.takesIn K (.ref p15) = some true)
    (r15 : PySem.W.recIn K p15 "property" = some (.ref f15 :: rest15))
    (l15 : K.lookup f15 = some ⟨oc15, od15, .func (PySem.W.fnOf "text" "Sign.text" (defArgs s_Sign_text) (defBody s_Sign_text) (defScope s_Sign_text) .none kV15 dc15 pm15 an15 cd15 ct15), sl15⟩)
    (c15 : PySem.W.codeIn K cd15 "Sign.text" = true)
    (k15 : PySem.W.keepIn K (.ref f15) = true)
    (a16 : PySem.W.findIn K (.ref C) "pace" = some (some (.ref p16)))
    (g16 : PySem.W.specialIn K (.ref p16) "__get__" = some (some (.builtin "property.__get__")))
    (t16 : PySem.W.takesIn K (.ref p16) = some true)
    (r16 : PySem.W.recIn K p16 "property" = some (.ref f16 :: rest16))
    (l16 : K.lookup f16 = some ⟨oc16, od16, .func (PySem.W.fnOf "pace" "Sign.pace" (defArgs s_Sign_pace) (defBody s_Sign_pace) (defScope s_Sign_pace) .none kV16 dc16 pm16 an16 cd16 ct16), sl16⟩)
    (c16 : PySem.W.codeIn K cd16 "Sign.pace" = true)
    (k16 : PySem.W.keepIn K (.ref f16) = true)
    (a17 : PySem.W.findIn K (.ref C) "window" = some (some (.ref f17)))
    (i17 : PySem.W.isFn K (.ref f17) = true)
    (l17 : K.lookup f17 = some ⟨oc17, od17, .func (PySem.W.fnOf "window" "Sign.window" (defArgs s_Sign_window) (defBody s_Sign_window) (defScope s_Sign_window) .none kV17 dc17 pm17 an17 cd17 ct17), sl17⟩)
    (c17 : PySem.W.codeIn K cd17 "Sign.window" = true)
    (k17 : PySem.W.keepIn K (.ref f17) = true)
    (a18 : PySem.W.findIn K (.ref C) "__eq__" = some (some (.ref f18)))
    (i18 : PySem.W.isFn K (.ref f18) = true)
    (l18 : K.lookup f18 = some ⟨oc18, od18, .func (PySem.W.fnOf "__eq__" "Sign.__eq__" (defArgs s_Sign_eq) (defBody s_Sign_eq) (defScope s_Sign_eq) .none kV18 dc18 pm18 an18 cd18 ct18), sl18⟩)
    (c18 : PySem.W.codeIn K cd18 "Sign.__eq__" = true)
    (k18 : PySem.W.keepIn K (.ref f18) = true)
    (a19 : PySem.W.findIn K (.ref C) "__len__" = some (some (.ref f19)))
    (i19 : PySem.W.isFn K (.ref f19) = true)
    (l19 : K.lookup f19 = some ⟨oc19, od19, .func (PySem.W.fnOf "__len__" "Sign.__len__" (defArgs s_Sign_len) (defBody s_Sign_len) (defScope s_Sign_len) .none kV19 dc19 pm19 an19 cd19 ct19), sl19⟩)
    (c19 : PySem.W.codeIn K cd19 "Sign.__len__" = true)
    (k19 : PySem.W.keepIn K (.ref f19) = true)
    (a20 : PySem.W.findIn K (.ref C) "__str__" = some (some (.ref f20)))
    (i20 : PySem.W.isFn K (.ref f20) = true)
    (l20 : K.lookup f20 = some ⟨oc20, od20, .func (PySem.W.fnOf "__str__" "Sign.__str__" (defArgs s_Sign_str) (defBody s_Sign_str) (defScope s_Sign_str) .none kV20 dc20 pm20 an20 cd20 ct20), sl20⟩)
    (c20 : PySem.W.codeIn K cd20 "Sign.__str__" = true)
    (k20 : PySem.W.keepIn K (.ref f20) = true)
    (a21 : PySem.W.findIn K (.ref C) "__repr__" = some (some (.ref f21)))
    (i21 : PySem.W.isFn K (.ref f21) = true)
    (l21 : K.lookup f21 = some ⟨oc21, od21, .func (PySem.W.fnOf "__repr__" "Sign.__repr__" (defArgs s_Sign_repr) (defBody s_Sign_repr) (defScope s_Sign_repr) .none kV21 dc21 pm21 an21 cd21 ct21), sl21⟩)
    (c21 : PySem.W.codeIn K cd21 "Sign.__repr__" = true)
    (k21 : PySem.W.keepIn K (.ref f21) = true)
    (aC : PySem.W.nsIn K mainGlobals "Sign" = some (some (.ref C)))
    (pg : PySem.W.plainGet K C Str.empty = true)
    (hd : PySem.W.hasDictIn K C = true)
    (po : PySem.W.plainOver K C = true)
    (sa : PySem.W.findIn K (.ref C) "__setattr__" = some (some (.builtin "object.__setattr__")))
    (mk : PySem.W.makesIn K C = true)
    (kc : PySem.W.keepIn K (.ref C) = true)
    (nT : PySem.W.findIn K (.ref C) "kept_text" = some none)
    (nP : PySem.W.findIn K (.ref C) "kept_pace" = some none)
    (cA : PySem.W.findIn K (.ref C) "__class__" = some (some (.builtin "object.__class__")))
    (cM : PySem.W.mroIn K C (.type "object") = some true)
    (xg : PySem.W.specialIn K (.builtin "object.__class__") "__get__" = some (some (.builtin "getset_descriptor.__get__")))
    (xt : PySem.W.takesIn K (.builtin "object.__class__") = some true)
    (cne : PySem.W.findIn K (.ref C) "__ne__" = some (some (.builtin "object.__ne__")))
    (cbo : PySem.W.findIn K (.ref C) "__bool__" = some none)
    (tyC : PySem.W.typeIn K (.ref C) = some (.type "type"))
    (w0 : PySem.W.nsIn K mainGlobals "GREATEST" = some (some (.int (10 ^ 30) u0)))
    (w1 : PySem.W.nsIn K mainGlobals "MOST_WIDTH" = some (some (.int 8 u1)))
    (w2 : PySem.W.nsIn K mainGlobals "MOST_PACE" = some (some (.int 9 u2)))
    (w3 : PySem.W.nsIn K mainGlobals "MOST_LENGTH" = some (some (.int 40 u3)))
    (w4 : PySem.W.nsIn K mainGlobals "LETTERS" = some (some (.str LET u4)))
    (z0 : PySem.W.nsIn K mainGlobals "len" = some none)
    (z1 : PySem.W.nsIn K mainGlobals "range" = some none)
    (z2 : PySem.W.nsIn K mainGlobals "str" = some none)
    (z3 : PySem.W.nsIn K mainGlobals "int" = some none)
    (z4 : PySem.W.nsIn K mainGlobals "abs" = some none)
    (z5 : PySem.W.nsIn K mainGlobals "divmod" = some none)
    (z6 : PySem.W.nsIn K mainGlobals "all" = some none)
    (z7 : PySem.W.nsIn K mainGlobals "any" = some none)
    (z8 : PySem.W.nsIn K mainGlobals "repr" = some none)
    (z9 : PySem.W.nsIn K mainGlobals "isinstance" = some none)
    (z10 : PySem.W.nsIn K mainGlobals "max" = some none)
    (z11 : PySem.W.nsIn K mainGlobals "min" = some none)
    (z12 : PySem.W.nsIn K mainGlobals "bool" = some none)
    (z13 : PySem.W.nsIn K mainGlobals "tuple" = some none)
    (z14 : PySem.W.nsIn K mainGlobals "list" = some none)
    (z15 : PySem.W.nsIn K mainGlobals "enumerate" = some none)
    (z16 : PySem.W.nsIn K mainGlobals "zip" = some none)
    (z17 : PySem.W.nsIn K mainGlobals "sorted" = some none)
    (z18 : PySem.W.nsIn K mainGlobals "sum" = some none) :
    ∃ fd : FuncData, (∀ (s : Shared) (v : Value), BindsTo s fd ⟨[v], []⟩ [("_law_script", v)]) ∧ ∀ base : Heap, K.In base → base.Ns mainGlobals mg → FnOkG l.prog w K mg base CX0 7 fa fd ["_law_script"] (spLaw K) := by
  have e := hfa.symm.trans (PySem.W.mg_of X Gn a13)
  cases e
  have B : Bn mg := ⟨PySem.W.mg_none_of X Gn z0, PySem.W.mg_none_of X Gn z1, PySem.W.mg_none_of X Gn z2, PySem.W.mg_none_of X Gn z3, PySem.W.mg_none_of X Gn z4, PySem.W.mg_none_of X Gn z5, PySem.W.mg_none_of X Gn z6, PySem.W.mg_none_of X Gn z7, PySem.W.mg_none_of X Gn z8, PySem.W.mg_none_of X Gn z9, PySem.W.mg_none_of X Gn z10, PySem.W.mg_none_of X Gn z11, PySem.W.mg_none_of X Gn z12, PySem.W.mg_none_of X Gn z13, PySem.W.mg_none_of X Gn z14, PySem.W.mg_none_of X Gn z15, PySem.W.mg_none_of X Gn z16, PySem.W.mg_none_of X Gn z17, PySem.W.mg_none_of X Gn z18⟩
  have T : TxS K mg C := ⟨⟨pg, hd, po, sa⟩, nT, nP, PySem.W.mg_of X Gn aC, ⟨⟨pg, hd, po, sa⟩, cA, cM, kit_no hd tyC⟩, xg, xt⟩
  have TT : TxT mg := ⟨⟨_, PySem.W.mg_of X Gn w3⟩, ⟨_, PySem.W.mg_of X Gn w4⟩⟩
  have F0 := fun_mk (st := s_number_at) l0 c0 k0
  have b0 := F0.binds (ps := ["time", "place", "length", "pace"]) fun _ _ _ _ _ _ us hl => match us, hl with | [_, _, _, _], _ => rfl
  have F1 := fun_mk (st := s_numbers_at) l1 c1 k1
  have b1 := F1.binds (ps := ["time", "width", "length", "pace"]) fun _ _ _ _ _ _ us hl => match us, hl with | [_, _, _, _], _ => rfl
  have F2 := fun_mk (st := s_is_whole) l2 c2 k2
  have b2 := F2.binds (ps := ["value", "least", "most"]) fun _ _ _ _ _ _ us hl => match us, hl with | [_, _, _], _ => rfl
  have F3 := fun_mk (st := s_is_time) l3 c3 k3
  have b3 := F3.binds (ps := ["value"]) fun _ _ _ _ _ _ us hl => match us, hl with | [_], _ => rfl
  have F4 := fun_mk (st := s_is_pace) l4 c4 k4
  have b4 := F4.binds (ps := ["value"]) fun _ _ _ _ _ _ us hl => match us, hl with | [_], _ => rfl
  have F5 := fun_mk (st := s_check_time) l5 c5 k5
  have b5 := F5.binds (ps := ["time"]) fun _ _ _ _ _ _ us hl => match us, hl with | [_], _ => rfl
  have F6 := fun_mk (st := s_check_width) l6 c6 k6
  have b6 := F6.binds (ps := ["width"]) fun _ _ _ _ _ _ us hl => match us, hl with | [_], _ => rfl
  have F7 := fun_mk (st := s_check_pace) l7 c7 k7
  have b7 := F7.binds (ps := ["pace"]) fun _ _ _ _ _ _ us hl => match us, hl with | [_], _ => rfl
  have F8 := fun_mk (st := s_is_text) l8 c8 k8
  have b8 := F8.binds (ps := ["value"]) fun _ _ _ _ _ _ us hl => match us, hl with | [_], _ => rfl
  have F9 := fun_mk (st := s_l_cup) l9 c9 k9
  have b9 := F9.binds (ps := ["_law_script", "_law_spot"]) fun _ _ _ _ _ _ us hl => match us, hl with | [_, _], _ => rfl
  have F10 := fun_mk (st := s_l_sip) l10 c10 k10
  have b10 := F10.binds (ps := ["_law_cup_here", "_law_many"]) fun _ _ _ _ _ _ us hl => match us, hl with | [_, _], _ => rfl
  have F11 := fun_mk (st := s_l_pick) l11 c11 k11
  have b11 := F11.binds (ps := ["_law_cup_here", "_law_things"]) fun _ _ _ _ _ _ us hl => match us, hl with | [_, _], _ => rfl
  have F12 := fun_mk (st := s_l_right) l12 c12 k12
  have b12 := F12.binds (ps := ["_law_cup_here"]) fun _ _ _ _ _ _ us hl => match us, hl with | [_], _ => rfl
  have F13 := fun_mk (st := s_law) l13 c13 k13
  have F14 : FunI K f14 _ := ⟨⟨oc14, od14, .ref T0, kV14, dc14, pm14, an14, cd14, ct14, sl14, rfl, l14, c14, .inr ⟨by simp, T0, _, [.int 1 tT], nTT, rfl, lT, rfl, .cons ⟨_, rfl⟩ .nil⟩, .inl rfl⟩, k14⟩
  have F15 := fun_mk (st := s_Sign_text) l15 c15 k15
  have b15 := F15.binds (ps := ["self"]) fun _ _ _ _ _ _ us hl => match us, hl with | [_], _ => rfl
  have F16 := fun_mk (st := s_Sign_pace) l16 c16 k16
  have b16 := F16.binds (ps := ["self"]) fun _ _ _ _ _ _ us hl => match us, hl with | [_], _ => rfl
  have F17 := fun_mk (st := s_Sign_window) l17 c17 k17
  have b17 := F17.binds (ps := ["self", "time", "width"]) fun _ _ _ _ _ _ us hl => match us, hl with | [_, _, _], _ => rfl
  have F18 := fun_mk (st := s_Sign_eq) l18 c18 k18
  have b18 := F18.binds (ps := ["self", "other"]) fun _ _ _ _ _ _ us hl => match us, hl with | [_, _], _ => rfl
  have F19 := fun_mk (st := s_Sign_len) l19 c19 k19
  have b19 := F19.binds (ps := ["self"]) fun _ _ _ _ _ _ us hl => match us, hl with | [_], _ => rfl
  have F20 := fun_mk (st := s_Sign_str) l20 c20 k20
  have b20 := F20.binds (ps := ["self"]) fun _ _ _ _ _ _ us hl => match us, hl with | [_], _ => rfl
  have F21 := fun_mk (st := s_Sign_repr) l21 c21 k21
  have b21 := F21.binds (ps := ["self"]) fun _ _ _ _ _ _ us hl => match us, hl with | [_], _ => rfl
  obtain ⟨ds2, v2, bI2⟩ := FunD.binds1 (ps := ["self", "text", "pace"]) F14 3 1 (by simp) rfl fun T1 kV doc pm an cdv ct us its h1 h2 => match us, its, h1, h2 with | [_, _, _], [_], _, _ => ⟨_, rfl, rfl⟩
  obtain ⟨ds1, v1, bI1⟩ := FunD.binds1 (ps := ["self", "text", "pace"]) F14 2 0 (by simp) rfl fun T1 kV doc pm an cdv ct us its h1 h2 => match us, its, h1, h2 with | [_, _], [_], _, _ => ⟨_, rfl, rfl⟩
  obtain ⟨itK, bIK⟩ := FunD.kbindsD (ps := ["self", "text", "pace"]) F14 1 ["pace", "text"] (fun vs _ zs => vs ++ zs.reverse) (by simp) (fun r1 _ r3 => r1.append (vals_rev r3)) fun T1 kV doc pm an cdv ct us its ws h1 h2 h3 => match us, its, ws, h1, h2, h3 with | [_], [_], [_, _], _, _, _ => ⟨_, rfl, rfl⟩
  have bWK := kbn_of (ps := ["self", "time", "width"]) (ks := ["width", "time"]) F17 fun _ _ _ _ _ _ us ws h1 h2 => match us, ws, h1, h2 with | [_], [_, _], _, _ => rfl
  refine ⟨PySem.W.fnOf "law" "law" (defArgs s_law) (defBody s_law) (defScope s_law) .none kV13 dc13 pm13 an13 cd13 ct13, fun s v => .of_eq rfl, fun base _ _ => ?_⟩
  have c_l_sip : Cal l.prog w K mg base _ "_law_sip" _ := ⟨f10, _, _, [], ok_sip F10 B, PySem.W.mg_of X Gn a10, k10, b10, .nil⟩
  have c_l_cup : Cal l.prog w K mg base _ "_law_cup" _ := ⟨f9, _, _, [], ok_cup F9 B, PySem.W.mg_of X Gn a9, k9, b9, .nil⟩
  have c_l_pick : Cal l.prog w K mg base _ "_law_pick" _ := ⟨f11, _, _, [], ok_pick F11 B c_l_sip, PySem.W.mg_of X Gn a11, k11, b11, .nil⟩
  have c_wh : Cal l.prog w K mg base _ "is_whole" _ := ⟨f2, _, _, [], ok_whole F2 B, PySem.W.mg_of X Gn a2, k2, b2, .nil⟩
  have c_it : Cal l.prog w K mg base _ "is_time" _ := ⟨f3, _, _, [], ok_is_time F3 c_wh ⟨_, PySem.W.mg_of X Gn w0⟩, PySem.W.mg_of X Gn a3, k3, b3, .nil⟩
  have c_ip : Cal l.prog w K mg base _ "is_pace" _ := ⟨f4, _, _, [], ok_is_pace F4 c_wh ⟨_, PySem.W.mg_of X Gn w2⟩, PySem.W.mg_of X Gn a4, k4, b4, .nil⟩
  have c_nat : Cal l.prog w K mg base _ "number_at" _ := ⟨f0, _, _, [], ok_num F0, PySem.W.mg_of X Gn a0, k0, b0, .nil⟩
  have c_ct : Cal l.prog w K mg base _ "check_time" _ := ⟨f5, _, _, [], ok_time F5 c_it, PySem.W.mg_of X Gn a5, k5, b5, .nil⟩
  have c_cw : Cal l.prog w K mg base _ "check_width" _ := ⟨f6, _, _, [], ok_width F6 c_wh ⟨_, PySem.W.mg_of X Gn w1⟩, PySem.W.mg_of X Gn a6, k6, b6, .nil⟩
  have c_cp : Cal l.prog w K mg base _ "check_pace" _ := ⟨f7, _, _, [], ok_pace F7 c_ip, PySem.W.mg_of X Gn a7, k7, b7, .nil⟩
  have c_na : Cal l.prog w K mg base _ "numbers_at" _ := ⟨f1, _, _, [], ok_nums F1 B c_nat, PySem.W.mg_of X Gn a1, k1, b1, .nil⟩
  have c_tx : Cal l.prog w K mg base _ "is_text" _ := ⟨f8, _, _, [], ok_text F8 B TT, PySem.W.mg_of X Gn a8, k8, b8, .nil⟩
  have oI := ok_init (P := l.prog) (w := w) (base := base) F14 T c_tx c_cp
  have M0 : Mk K C f14 := ⟨mk, a14, i14, kc⟩
  have kS2 : C8.Mak l.prog w K mg base 4 "Sign" C (spInit C) [] := ⟨_, _, _, _, M0, oI, PySem.W.mg_of X Gn aC, bI2, v2⟩
  have kS1 : C8.Mak l.prog w K mg base 4 "Sign" C (spInit C) [.int 1] := ⟨_, _, _, _, M0, oI, PySem.W.mg_of X Gn aC, bI1, v1⟩
  have kSK : MakK l.prog w K mg base 4 "Sign" C ["pace", "text"] (fun vs zs => vs ++ zs.reverse) (spInit C) := ⟨_, _, _, _, M0, oI, PySem.W.mg_of X Gn aC, bIK⟩
  have oW := ok_win (P := l.prog) (w := w) (base := base) F17 B T c_ct c_cw c_na
  have mW : C8.Met l.prog w K mg base 4 C "window" (spWin C) [] := ⟨_, _, _, [], T.cl, ⟨a17, i17, k17⟩, oW, b17, .nil⟩
  have mWK : MetK l.prog w K mg base 4 C "window" ["width", "time"] (fun vs zs => vs ++ zs.reverse) (spWin C) := ⟨_, _, _, _, T.cl, ⟨a17, i17, k17⟩, oW, bWK⟩
  have pT : Prp l.prog w K mg base 1 C "text" (spGetT C) := ⟨_, _, _, _, T.cl, ⟨a15, g15, t15, _, r15⟩, ok_gett F15 T, b15⟩
  have pP : Prp l.prog w K mg base 1 C "pace" (spGetP C) := ⟨_, _, _, _, T.cl, ⟨a16, g16, t16, _, r16⟩, ok_getp F16 T, b16⟩
  have cL : Spc l.prog w K mg base 1 C "__len__" (spLen C) := ⟨_, _, _, a19, i19, ok_len F19 B T, b19⟩
  have cS : Spc l.prog w K mg base 1 C "__str__" (spStr C id) := ⟨_, _, _, a20, i20, ok_str F20 T, b20⟩
  have cR : Spc l.prog w K mg base 1 C "__repr__" (spStr C shown) := ⟨_, _, _, a21, i21, ok_repr F21 T, b21⟩
  have cE : Spc l.prog w K mg base 1 C "__eq__" (spEqS K C) := ⟨_, _, _, a18, i18, ok_eq F18 B T, b18⟩
  have cRi : CalG l.prog w K mg base 6 "_law_right" spRight := ⟨_, _, _, ok_right F12 B T c_l_sip c_l_pick kS2 kS1 kSK mW mWK pT pP cL cS cR cE cM cne cbo, PySem.W.mg_of X Gn a12, k12, b12⟩
  exact ok_law F13 B T c_l_cup cRi kS2 kS1 mW cS
end L2.G
open PySem PySem.W PyProof.Rows
set_option maxRecDepth 100000 in
set_option maxHeartbeats 0 in
theorem PySem.Challenge.cw_glimpserounds_k02_whole_windows_of_signs_holds : PySem.Challenge.rw_glimpserounds_k02_whole_windows_of_signs.Holds := by
  w_on; o_law; k_head; (case hw => w_witness2)
  k_fill
  refine L2.G.walk_ofG (l := PySem.Challenge.rw_glimpserounds_k02_whole_windows_of_signs) (n := 63) (k := 7) (x := "_law_script") (K := _) (sp := fun w => L2.G.spLaw (_)) rfl (by decide) rfl ⟨rfl, by decide, by decide⟩ (fun w h Y => PySem.W.kIn_of Y) ?F (fun _ _ a ns hl _ hS => ⟨a, ns, rfl, hS, hl, fun _ => rfl⟩)
  case F =>
    intro w mg fa h KX Gn hmg
    refine' L2.G.all_mk KX Gn hmg ?a0 ?l0 ?c0 ?k0 ?a1 ?l1 ?c1 ?k1 ?a2 ?l2 ?c2 ?k2 ?a3 ?l3 ?c3 ?k3 ?a4 ?l4 ?c4 ?k4 ?a5 ?l5 ?c5 ?k5 ?a6 ?l6 ?c6 ?k6 ?a7 ?l7 ?c7 ?k7 ?a8 ?l8 ?c8 ?k8 ?a9 ?l9 ?c9 ?k9 ?a10 ?l10 ?c10 ?k10 ?a11 ?l11 ?c11 ?k11 ?a12 ?l12 ?c12 ?k12 ?a13 ?l13 ?c13 ?k13 ?a14 ?i14 ?l14 ?lT ?c14 ?k14 ?a15 ?g15 ?t15 ?r15 ?l15 ?c15 ?k15 ?a16 ?g16 ?t16 ?r16 ?l16 ?c16 ?k16 ?a17 ?i17 ?l17 ?c17 ?k17 ?a18 ?i18 ?l18 ?c18 ?k18 ?a19 ?i19 ?l19 ?c19 ?k19 ?a20 ?i20 ?l20 ?c20 ?k20 ?a21 ?i21 ?l21 ?c21 ?k21 ?aC ?pg ?hd ?po ?sa ?mk ?kc ?nT ?nP ?cA ?cM ?xg ?xt ?cne ?cbo ?tyC ?w0 ?w1 ?w2 ?w3 ?w4 ?z0 ?z1 ?z2 ?z3 ?z4 ?z5 ?z6 ?z7 ?z8 ?z9 ?z10 ?z11 ?z12 ?z13 ?z14 ?z15 ?z16 ?z17 ?z18
    (case aC => k_is)
    (case a0 => k_is)
    (case l0 => k_is)
    (case c0 => k_is)
    (case k0 => k_is)
    (case a1 => k_is)
    (case l1 => k_is)
    (case c1 => k_is)
    (case k1 => k_is)
    (case a2 => k_is)
    (case l2 => k_is)
    (case c2 => k_is)
    (case k2 => k_is)
    (case a3 => k_is)
    (case l3 => k_is)
    (case c3 => k_is)
    (case k3 => k_is)
    (case a4 => k_is)
    (case l4 => k_is)
    (case c4 => k_is)
    (case k4 => k_is)
    (case a5 => k_is)
    (case l5 => k_is)
    (case c5 => k_is)
    (case k5 => k_is)
    (case a6 => k_is)
    (case l6 => k_is)
    (case c6 => k_is)
    (case k6 => k_is)
    (case a7 => k_is)
    (case l7 => k_is)
    (case c7 => k_is)
    (case k7 => k_is)
    (case a8 => k_is)
    (case l8 => k_is)
    (case c8 => k_is)
    (case k8 => k_is)
    (case a9 => k_is)
    (case l9 => k_is)
    (case c9 => k_is)
    (case k9 => k_is)
    (case a10 => k_is)
    (case l10 => k_is)
    (case c10 => k_is)
    (case k10 => k_is)
    (case a11 => k_is)
    (case l11 => k_is)
    (case c11 => k_is)
    (case k11 => k_is)
    (case a12 => k_is)
    (case l12 => k_is)
    (case c12 => k_is)
    (case k12 => k_is)
    (case a13 => k_is)
    (case l13 => k_is)
    (case c13 => k_is)
    (case k13 => k_is)
    (case a14 => k_is)
    (case i14 => k_is)
    (case l14 => k_is)
    (case lT => k_is)
    (case c14 => k_is)
    (case k14 => k_is)
    (case a15 => k_is)
    (case g15 => k_is)
    (case t15 => k_is)
    (case r15 => k_is)
    (case l15 => k_is)
    (case c15 => k_is)
    (case k15 => k_is)
    (case a16 => k_is)
    (case g16 => k_is)
    (case t16 => k_is)
    (case r16 => k_is)
    (case l16 => k_is)
    (case c16 => k_is)
    (case k16 => k_is)
    (case a17 => k_is)
    (case i17 => k_is)
    (case l17 => k_is)
    (case c17 => k_is)
    (case k17 => k_is)
    (case a18 => k_is)
    (case i18 => k_is)
    (case l18 => k_is)
    (case c18 => k_is)
    (case k18 => k_is)
    (case a19 => k_is)
    (case i19 => k_is)
    (case l19 => k_is)
    (case c19 => k_is)
    (case k19 => k_is)
    (case a20 => k_is)
    (case i20 => k_is)
    (case l20 => k_is)
    (case c20 => k_is)
    (case k20 => k_is)
    (case a21 => k_is)
    (case i21 => k_is)
    (case l21 => k_is)
    (case c21 => k_is)
    (case k21 => k_is)
    (case pg => k_is)
    (case hd => k_is)
    (case po => k_is)
    (case sa => k_is)
    (case mk => k_is)
    (case kc => k_is)
    (case nT => k_is)
    (case nP => k_is)
    (case cA => k_is)
    (case cM => k_is)
    (case xg => k_is)
    (case xt => k_is)
    (case cne => k_is)
    (case cbo => k_is)
    (case tyC => k_is)
    (case w0 => k_is)
    (case w1 => k_is)
    (case w2 => k_is)
    (case w3 => k_is)
    (case w4 => k_is)
    (case z0 => k_is)
    (case z1 => k_is)
    (case z2 => k_is)
    (case z3 => k_is)
    (case z4 => k_is)
    (case z5 => k_is)
    (case z6 => k_is)
    (case z7 => k_is)
    (case z8 => k_is)
    (case z9 => k_is)
    (case z10 => k_is)
    (case z11 => k_is)
    (case z12 => k_is)
    (case z13 => k_is)
    (case z14 => k_is)
    (case z15 => k_is)
    (case z16 => k_is)
    (case z17 => k_is)
    (case z18 => k_is)
