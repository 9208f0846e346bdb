import PyProof.Rows.All
import Wide.All
import OpenK.AllK
import Wide.FinOn
import KE.KStateDown
import KE.KNestM
import HandS.Head2
import PyProof.InstNe
import PyProof.ReprRoads
import KE.KCallOwn
import HandS.ForMost
import HandS.OwnEq
import HandS.Defaults
import HandS.MakeKw
import HandS.Property
import HandS.IsInst
import HandS.FStr
import HandS.Wide
import HandS.WideBits
import HandS.Codes
import HandS.MakeKwOnly
import HandS.Flow
import HandS.Deep
import HandS.TupAny
import HandS.Style
import HandS.Records
import HandS.Walk
import HandS.Conv
import HandS.HotCalls
import HandS.Lambda
import HandS.ExcCtx
import HandS.ExcInitHot
import HandS.ExcField
import HandS.ExcIs
import KE.KTryMore
import HandS.ExcInit
import PyProof.ExcBaseAll.ArithmeticError
import PyProof.ExcBaseAll.LookupError
import KE.KExcIs
import HandS.EndTab
import HandS.Evl
import HandS.Replace
import HandS.RaiseMore
import KE.GoesMore
import KE.GoesEnum
import KE.GoesZip
import HandS.ClsMeth
import HandS.Dict
import HandS.SortInts
import KE.OsSort
import PyProof.Rows.SortShellAny
import HandS.NamedTupSort
import HandS.TupSets
import KE.SortKeyHeap
import HandS.SortKw
import HandS.TupMul
import HandS.TryOnly
import PyProof.ReprBulk
import PyProof.Rows.ReprOcc
import PyProof.FitsInt
import PySem.Challenge.RW_glimpserounds_k01_constants_and_errors
set_option Elab.async false
set_option linter.all false
set_option maxRecDepth 100000
namespace L2.G
open PySem PySem.W PySem.Calls PyProof.Rows HandSHeadRun
/-- the top by one run, with tables of code objects -/
theorem left_km {p q : Program} {loose : List PySem.Str} {Xt : Shared → Bool} {K : Params → Frag} {as : List Addr} {ek : ∀ P, as = (K P).map (·.1)} {ts : List Addr} {N M : Nat}
    (e : opening p = plainProg p.main.scope.names) (hN : Nat.ble 600 N = true) (f : ∀ s, fenceModules? p s = some s) (le : Nat.ble M N = true)
    (run : ∀ (w : World) (os : OsState), (endF (stepQ (denQ tabQ) p w) M p w os).map (fun s => (looksF p (boot_heap w.params) s.abs, seenQ q loose (importedModules p.main.body) Xt s.abs, (as.map (getT s), ts.map (getT s)))) = some (true, openGood q loose, ((K w.params).map fun x => some x.2, ts.map fun _ => some (tabObj #[])))) :
    LeftO p q loose Xt (Hook.obs (kmHook K as ek ts)) (Hook.val (kmHook K as ek ts)) N true :=
  left_one (M := M) e hN f le fun w os => by
    have z := run w os
    have eo : (fun s : SharedT => (looksF p (boot_heap w.params) s.abs, seenQ q loose (importedModules p.main.body) Xt s.abs, (as.map (getT s), ts.map (getT s)))) = fun s => (looksF p (boot_heap w.params) s.abs, seenQ q loose (importedModules p.main.body) Xt s.abs, Hook.obs (kmHook K as ek ts) s.abs) := by
      funext s
      have q1 : as.map (getT s) = as.map s.abs.heap.get? := List.map_congr_left fun a _ => getT_eq s a
      have q2 : ts.map (getT s) = ts.map s.abs.heap.get? := List.map_congr_left fun a _ => getT_eq s a
      rw [q1, q2]
      rfl
    rw [eo] at z
    simp only [endQ_eq, seenQ_eq]
    exact z
theorem left_k {p q : Program} {loose : List PySem.Str} {Xt : Shared → Bool} {K : Params → Frag} {as : List Addr} {ek : ∀ P, as = (K P).map (·.1)} {N M : Nat}
    (e : opening p = plainProg p.main.scope.names) (hN : Nat.ble 600 N = true) (f : ∀ s, fenceModules? p s = some s) (le : Nat.ble M N = true)
    (run : ∀ (w : World) (os : OsState), (endF (stepQ (denQ tabQ) p w) M p w os).map (fun s => (looksF p (boot_heap w.params) s.abs, seenQ q loose (importedModules p.main.body) Xt s.abs, as.map (getT s))) = some (true, openGood q loose, (K w.params).map fun x => some x.2)) :
    LeftO p q loose Xt (Hook.obs (kHook K as ek)) (Hook.val (kHook K as ek)) N true :=
  left_one (M := M) e hN f le fun w os => by
    have z := run w os
    have eo : (fun s : SharedT => (looksF p (boot_heap w.params) s.abs, seenQ q loose (importedModules p.main.body) Xt s.abs, as.map (getT s))) = fun s => (looksF p (boot_heap w.params) s.abs, seenQ q loose (importedModules p.main.body) Xt s.abs, Hook.obs (kHook K as ek) s.abs) := by
      funext s
      have q1 : as.map (getT s) = as.map s.abs.heap.get? := List.map_congr_left fun a _ => getT_eq s a
      rw [q1]
      rfl
    rw [eo] at z
    simp only [endQ_eq, seenQ_eq]
    exact z
theorem nameHw {a : Prop} (t : True) (hw : a) : a := hw
/-- the def that stands at a place of the top -/
def defAt (p : Program) (i : Nat) : DefRec := match p.main.body[i]? with
  | some (.FunctionDef n a b _ _ _ sc _ _ pos) => ⟨n, a, b, sc, pos⟩
  | _ => ⟨"law", ⟨[], [], none, [], [], none, []⟩, [], ⟨.function, [], false, false, []⟩, default⟩
end L2.G
namespace L2.G
open PySem PySem.W
def loose0 : List PySem.Str := [("WrongValue" : PySem.Str), ("NotASign" : PySem.Str), ("NotARecord" : PySem.Str), ("InvalidText" : PySem.Str), ("InvalidPace" : PySem.Str), ("InvalidWidth" : PySem.Str), ("InvalidPlace" : PySem.Str), ("InvalidLength" : PySem.Str), ("InvalidTime" : PySem.Str), ("InvalidWindow" : PySem.Str), ("InvalidName" : PySem.Str), ("InvalidClaim" : PySem.Str), ("InvalidIndex" : PySem.Str), ("InvalidLine" : PySem.Str), ("InvalidDead" : PySem.Str), ("InvalidPaces" : PySem.Str), ("InvalidGroups" : PySem.Str), ("InvalidTimes" : PySem.Str), ("InvalidDeeds" : PySem.Str), ("WrongName" : PySem.Str), ("UnknownName" : PySem.Str), ("InUse" : PySem.Str), ("NoAnswer" : PySem.Str), ("TooMany" : PySem.Str), ("OtherKind" : PySem.Str), ("Broken" : PySem.Str), ("NothingToUndo" : PySem.Str), ("MOST_WIDTH" : PySem.Str), ("MOST_LENGTH" : PySem.Str), ("MOST_PACE" : PySem.Str)]
def loose1 : List PySem.Str := [("MOST_GLANCES" : PySem.Str), ("MOST_TIMES" : PySem.Str), ("MOST_PAIRS" : PySem.Str), ("GREATEST" : PySem.Str), ("_law_cup" : PySem.Str), ("_law_sip" : PySem.Str), ("_law_pick" : PySem.Str), ("_law_classes" : PySem.Str), ("_law_given" : PySem.Str), ("_law_indexed" : PySem.Str), ("_law_right" : PySem.Str)]
abbrev rowHd : OpenRow := OpenLaw.row PySem.Challenge.rw_glimpserounds_k01_constants_and_errors
abbrev viewHd : Program := view rowHd.prog [43]
def looseHd : List PySem.Str := loose0 ++ loose1
end L2.G
section
open PySem PySem.W PyProof.Rows
local macro_rules | `(tactic| o_head $H) => `(tactic| (refine PySem.W.holds_open (r := L2.G.rowHd) (q := L2.G.viewHd) (loose := L2.G.looseHd) (Xt := fun s => PySem.W.xlAt L2.G.viewHd [] s && PySem.W.recOk L2.G.rowHd.toRowW.records s) (XP := PySem.W.XL L2.G.viewHd []) (Yf := PySem.W.Hook.obs $H) (Ya := PySem.W.Hook.val $H) (YP := PySem.W.Hook.says $H) (N := 11600) (d := L2.G.defAt L2.G.rowHd.prog 43) (kwd := []) ?_ (PySem.W.Hook.of $H) (PySem.W.Hook.keeps $H) (fun s e => PySem.W.xl_of s (Bool.and_eq_true_iff.mp e).1) PySem.W.XL.keeps (by kernel_rfl) (by kernel_rfl) (by kernel_rfl) (fun s e => PySem.W.recFacts_of (Bool.and_eq_true_iff.mp e).2) (by rfl) (by first | assumption | decide +kernel) (by decide +kernel) ⟨rfl, rfl, rfl, rfl, rfl, by decide +kernel⟩ ?_ ?_; (focus (refine L2.G.left_k (M := 11500) (by kernel_rfl) (by rfl) (fun s => by kernel_rfl) (by rfl) ?_; intro w os; kernel_rfl)); (focus (apply L2.G.nameHw; exact trivial))))
set_option maxRecDepth 100000 in
set_option maxHeartbeats 0 in
open_top topHd for PySem.Challenge.rw_glimpserounds_k01_constants_and_errors
end
set_option Elab.async false
set_option linter.all false
set_option maxRecDepth 100000
set_option maxHeartbeats 2000000
namespace L2.G
open PySem PySem.Spec PyProof.Rows
section
variable {X : Cx} {CX : CXT} {k : Nat} {f C : Addr} {fd : FuncData} {ps : List Str} {sp : Sp} {E : XK} {pins : List (Addr × Obj)} {σ : St} {H : Hp} {s : Shared} {A : Around}
theorem env_at (I : Inv X pins σ H s) (fr : A.frames = X.A.frames) : Env0 X.prog X.w X.K X.mg X.base A X.stack s H := by
  have e := I.env0
  exact ⟨fr.trans e.frames, e.mod, e.bs, e.bsz, e.funs, e.frf, e.hok, e.bare⟩
/-- a def that is kept, called from below the running body -/
theorem run_at (F : FnOk X.prog X.w X.K X.mg X.base CX k f fd ps sp) (hb : Binds X.K fd ps []) (hx : Passes CX X E) (rm : Room k A) (fr : A.frames = X.A.frames)
    (I : Inv X pins σ H s) {vs : List V} {us : List Value} {Q : VK} (r : Vals vs us) (h : sp vs H Q E) :
    wpAny (model X.prog X.w) A (call (.ref f) us) (EP X pins σ Q) X.xe s := by
  have hl : us.length = ps.length := r.length.symm.trans (F.len _ _ _ _ h)
  have bb := hb s us I.kIn (by simpa using hl)
  refine wpAny_call (codeAny_mono (F.run A X.stack s H ⟨us, []⟩ us vs Q E rm (env_at I fr) (by simpa using bb) r h) fun res s' hq => ?_)
  match res, hq with
  | .error e, hq => exact hx pins σ H s e s' I hq
  | .ok (.ret u), hq => exact I.after hq
  | .ok .next, hq => exact False.elim hq
  | .ok .brk, hq => exact False.elim hq
  | .ok .cont, hq => exact False.elim hq
theorem inst_at (I : Inv X pins σ H s) {a dx : Addr} {fs : List (Str × V)} (e : H a = some (.ins C dx fs)) : ∃ od, PySem.W.InstAt s.heap a (PySem.W.instObj C dx) C (some od) := by
  obtain ⟨mA, O, _⟩ := ins_get I.hok e
  obtain ⟨od, J, _⟩ := O.look
  exact ⟨od, J⟩
def rLenI (C : Addr) (sp : Sp) (E : XK) : List V → Hp → VK → Prop := fun xs H Q => ∃ a dx fs, xs = [.ref a] ∧ H a = some (.ins C dx fs) ∧ sp [.ref a] H (fun v H' => ∃ n : Int, v = .int n ∧ 0 ≤ n ∧ n < 2 ^ 63 ∧ Q (.int n) H') E
/-- len(o) by an own __len__ -/
theorem cr_lenI (F : FnOk X.prog X.w X.K X.mg X.base CX k f fd ps sp) (hb : Binds X.K fd ps []) (hx : Passes CX X E) (hr : Room (k + 1) X.A)
    (hs : PySem.W.findIn X.K (.ref C) "__len__" = some (some (.ref f))) (hf : PySem.W.isFn X.K (.ref f) = true) : CallR X (.builtin "len") (rLenI C sp E) := by
  intro pins s σ H xs us Q I r h
  obtain ⟨a, dx, fs, rfl, ea, q⟩ := h
  obtain ⟨u, rfl, ru⟩ := vals1 r
  cases (show u = Value.ref a from ru)
  obtain ⟨od, J⟩ := inst_at I ea
  obtain ⟨m, hF⟩ := I.fr
  refine PySem.W.len_K hF I.ok.mod.kin J hs hf (thn (run_at F hb hx hr.in1 rfl I (vs := [.ref a]) (us := [.ref a]) (.cons rfl .nil) q) fun v s' hv => ?_)
  obtain ⟨z, H', I', rz, n, ez, h0, h1, q'⟩ := hv
  subst ez
  obtain ⟨t, rfl⟩ := rz
  exact ⟨⟨h0, h1⟩, .int n, H', I'.tok _, ⟨_, rfl⟩, q'⟩
/-- repr(o) by an own __repr__ -/
def rTxtI (C : Addr) (sp : Sp) (E : XK) : List V → Hp → VK → Prop := fun xs H Q => ∃ a dx fs, xs = [.ref a] ∧ H a = some (.ins C dx fs) ∧ sp [.ref a] H (fun v H' => ∃ z : Str, v = .str z ∧ Q (.str z) H') E
theorem cr_reprI (F : FnOk X.prog X.w X.K X.mg X.base CX k f fd ps sp) (hb : Binds X.K fd ps []) (hx : Passes CX X E) (hr : Room (k + 1) X.A)
    (hs : PySem.W.findIn X.K (.ref C) "__repr__" = some (some (.ref f))) (hf : PySem.W.isFn X.K (.ref f) = true) : CallR X (.builtin "repr") (rTxtI C sp E) := by
  intro pins s σ H xs us Q I r h
  obtain ⟨a, dx, fs, rfl, ea, q⟩ := h
  obtain ⟨u, rfl, ru⟩ := vals1 r
  cases (show u = Value.ref a from ru)
  obtain ⟨od, J⟩ := inst_at I ea
  obtain ⟨m, hF⟩ := I.fr
  refine PySem.W.repr_K hr.in1.units0 hF I.ok.mod.kin J hs hf (thn (run_at F hb hx hr.in1 rfl I (vs := [.ref a]) (us := [.ref a]) (.cons rfl .nil) q) fun v s' hv => ?_)
  obtain ⟨z, H', I', rz, n, ez, q'⟩ := hv
  subst ez
  obtain ⟨t, rfl⟩ := rz
  exact ⟨.str n, H', I', ⟨_, rfl⟩, q'⟩
/-- str(o) by an own __str__ -/
theorem cr_strI (F : FnOk X.prog X.w X.K X.mg X.base CX k f fd ps sp) (hb : Binds X.K fd ps []) (hx : Passes CX X E) (hr : Room (k + 2) X.A)
    (hs : PySem.W.findIn X.K (.ref C) "__str__" = some (some (.ref f))) (hf : PySem.W.isFn X.K (.ref f) = true) : CallR X (.type "str") (rTxtI C sp E) := by
  intro pins s σ H xs us Q I r h
  obtain ⟨a, dx, fs, rfl, ea, q⟩ := h
  obtain ⟨u, rfl, ru⟩ := vals1 r
  cases (show u = Value.ref a from ru)
  obtain ⟨od, J⟩ := inst_at I ea
  refine PySem.W.kso_call hr.in1.in1.units0 I.kIn J hs hf (thn (run_at F hb hx hr.in1.in1 rfl I (vs := [.ref a]) (us := [.ref a]) (.cons rfl .nil) q) fun v s' hv => ?_)
  obtain ⟨z, H', I', rz, n, ez, q'⟩ := hv
  subst ez
  obtain ⟨t, rfl⟩ := rz
  exact ⟨.str n, H', I', ⟨_, rfl⟩, q'⟩
/-- the truth of o by an own __len__, no __bool__ -/
def rTruI (C : Addr) (sp : Sp) (E : XK) : V → Hp → (Bool → Hp → Prop) → Prop := fun x H Q => ∃ a dx fs, x = .ref a ∧ H a = some (.ins C dx fs) ∧ sp [.ref a] H (fun v H' => ∃ n : Int, v = .int n ∧ 0 ≤ n ∧ n < 2 ^ 63 ∧ Q (n != 0) H') E
theorem len_body (F : FnOk X.prog X.w X.K X.mg X.base CX k f fd ps sp) (hb : Binds X.K fd ps []) (hx : Passes CX X E) (hr : Room k A) (fr : A.frames = X.A.frames) {a dx : Addr} {fs : List (Str × V)}
    (hs : PySem.W.findIn X.K (.ref C) "__len__" = some (some (.ref f))) (hf : PySem.W.isFn X.K (.ref f) = true) (I : Inv X pins σ H s) (ea : H a = some (.ins C dx fs)) {R : Int → Hp → Prop}
    (q : sp [.ref a] H (fun v H' => ∃ n : Int, v = .int n ∧ 0 ≤ n ∧ n < 2 ^ 63 ∧ R n H') E) :
    wpAny (model X.prog X.w) A (Builtin.«len» ⟨[.ref a], []⟩) (fun fin s' => ∃ n t, fin = .done (.ret (.int n t)) ∧ ∃ H', Inv X pins σ H' s' ∧ R n H') X.xe s := by
  obtain ⟨od, J⟩ := inst_at I ea
  unfold Builtin.«len»
  refine wpAny_bind (m := oneArg "len" _) (wpAny_pure ?_)
  refine wpAny_bind (m := callSpecial? (.ref a) (Str.ofString "__len__")) (PySem.W.special_fn I.kIn J hs (beq_iff_eq.mp hf) (thn (run_at F hb hx hr fr I (vs := [.ref a]) (us := [.ref a]) (.cons rfl .nil) q) fun v s' hv => ?_))
  obtain ⟨z, H', I', rz, n, ez, h0, h1, q'⟩ := hv
  subst ez
  obtain ⟨t, rfl⟩ := rz
  refine wpAny_bind (wpAny_holding (wpAny_pure ?_))
  refine wpAny_bind (wpAny_letGo ?_)
  dsimp only
  rw [if_neg (by omega), if_neg (by omega)]
  exact wpAny_bind (wpAny_mkInt (wpAny_pure ⟨_, _, rfl, H', I'.tok _, q'⟩))
theorem tr_lenI (F : FnOk X.prog X.w X.K X.mg X.base CX k f fd ps sp) (hb : Binds X.K fd ps []) (hx : Passes CX X E) (hr : Room (k + 1) X.A)
    (hn : PySem.W.findIn X.K (.ref C) "__bool__" = some none) (hs : PySem.W.findIn X.K (.ref C) "__len__" = some (some (.ref f))) (hf : PySem.W.isFn X.K (.ref f) = true) : TruR X (rTruI C sp E) := by
  intro pins s σ H x u Q I r h
  obtain ⟨a, dx, fs, rfl, ea, q⟩ := h
  cases (show u = Value.ref a from r)
  obtain ⟨od, J⟩ := inst_at I ea
  unfold truthy
  refine wpAny_bind (m := callSpecial? (.ref a) (Str.ofString "__bool__")) (wpAny_bind (wpAny_bind (J.type.here ((PySem.W.looks_findIn I.kIn hn).here (wpAny_pure ?_)))))
  refine wpAny_bind (wpAny_bind (J.type.here ((PySem.W.looks_findIn I.kIn hs).here ?_)))
  rw [if_neg (by simp)]
  refine wpAny_bind (wpAny_runValue (codeAny_builtin entry_len ?_))
  rw [Around.under_plainId plain_len _]
  refine thn (len_body F hb hx hr.in1 rfl hs hf I ea q) fun fin s' hh => ?_
  obtain ⟨n, t, rfl, H', I', q'⟩ := hh
  exact wpAny_pure ⟨H', I', q'⟩
/-- x == y by an own __eq__ that gives a truth -/
def rEqI (C : Addr) (sp : Sp) (E : XK) (T : V → Hp → Prop) (g : Bool → Bool) : R2 := fun x y H Q => ∃ a dx fs, x = .ref a ∧ H a = some (.ins C dx fs) ∧ T y H ∧ sp [.ref a, y] H (fun v H' => ∃ b : Bool, v = .bl b ∧ Q (.bl (g b)) H') E
/-- what is known of a value's type: not a subclass of C -/
def NotSub (K : PySem.W.Frag) (C : Addr) (y : V) (H : Hp) : Prop := (∃ dx b fs, y = .ref b ∧ H b = some (.ins C dx fs)) ∨ ∃ t, TyX K H y t ∧ PySem.W.notFirst K C t = true
theorem notSub_looks {y : V} {u : Value} (I : Inv X pins σ H s) (ry : RelV y u) (h : NotSub X.K C y H) : ∃ t, PySem.W.Looks (model X.prog X.w) s.heap (typeOf u) t ∧ PySem.W.notFirst X.K C t = true := by
  rcases h with ⟨dx, b, fs, rfl, e⟩ | ⟨t, ty, n⟩
  · cases (show u = Value.ref b from ry)
    obtain ⟨od, J⟩ := inst_at I e
    exact ⟨.ref C, J.type, by simp [PySem.W.notFirst]⟩
  · obtain ⟨P, Z, p, _⟩ := kit_of I ry ty
    exact ⟨t, Z.ty _ _ I.kIn p, n⟩
theorem op_eqI (F : FnOk X.prog X.w X.K X.mg X.base CX k f fd ps sp) (hb : Binds X.K fd ps []) (hx : Passes CX X E) (hr : Room k X.A)
    (hs : PySem.W.findIn X.K (.ref C) "__eq__" = some (some (.ref f))) (hf : PySem.W.isFn X.K (.ref f) = true) : OpR X (compareOp .Eq) (rEqI C sp E (NotSub X.K C) id) := by
  intro pins s σ H x y v u Q I rx ry h
  obtain ⟨a, dx, fs, rfl, ea, ty, q⟩ := h
  cases (show v = Value.ref a from rx)
  obtain ⟨od, J⟩ := inst_at I ea
  obtain ⟨m, hF⟩ := I.fr
  obtain ⟨t, lt, hn⟩ := notSub_looks I ry ty
  show wpAny _ _ (richCompare .Eq (.ref a) u) _ _ _
  refine PySem.W.cmp_K (op := .Eq) hr.units0 hF I.ok.mod.kin J lt hn hs hf (thn (run_at F hb hx hr rfl I (vs := [.ref a, y]) (us := [.ref a, u]) (.cons rfl (.cons ry .nil)) q) fun v' s' hv => ?_)
  obtain ⟨z, H', I', rz, b, ez, q'⟩ := hv
  subst ez
  cases (show v' = Value.bool b from rz)
  exact ⟨.bl b, H', I', rfl, q'⟩
theorem ifBound_ne {M : Model} {A : Around} {E' : Value → Shared → Prop} {s : Shared} {K : PySem.W.Frag} {x : Addr} {ox : Obj} {od : Option Obj} {args : List Value} {Q : Option Value → Shared → Prop} (XK' : K.In s.heap) (J : PySem.W.InstAt s.heap x ox C od)
    (hs : PySem.W.findIn K (.ref C) "__ne__" = some (some (.builtin "object.__ne__"))) (h : wpAny M A (call (.builtin "object.__ne__") (.ref x :: args)) (fun v => Q (some v)) E' s) :
    wpAny M A (callSpecialIfBound? (.ref x) "__ne__" args) Q E' s := by
  simp only [callSpecialIfBound?, bindSpecialIfBound?]
  refine wpAny_holding (wpAny_bind (wpAny_bind (wpAny_bind (J.type.here ((PySem.W.looks_findIn XK' hs).here ?_)))))
  refine wpAny_bind (wpAny_askSetting (wpAny_ite ?_))
  have goOn : wpAny M A (call (.builtin "object.__ne__") ([.ref x] ++ args) >>= fun v => pure (some v)) Q E' s :=
    wpAny_bind (wpAny_mono h (fun _ _ z => wpAny_pure z) fun _ _ z => z)
  split
  · exact wpAny_bind (wpAny_of_eq (PySem.F.cmp_object.ne.bind _) (wpAny_pure (by exact goOn)))
  · exact wpAny_tryCatch (wpAny_bind (wpAny_of_eq (PySem.F.cmp_object.ne.bind _) (wpAny_pure (by exact goOn))))
theorem ne_body {prog : Program} {w : World} {A : Around} {E' : Value → Shared → Prop} {s : Shared} {K : PySem.W.Frag} {x : Addr} {ox : Obj} {od : Option Obj} {b : Value} {Q : Fin → Shared → Prop} (hu : A.units < cLine) (XK' : K.In s.heap) (J : PySem.W.InstAt s.heap x ox C od)
    (hs : PySem.W.findIn K (.ref C) "__eq__" = some (some (.ref f))) (hf : PySem.W.isFn K (.ref f) = true)
    (h : wpAny (model prog w) A (call (.ref f) [.ref x, b]) (fun v s' => ∃ c : Bool, v = .bool c ∧ Q (.done (.ret (.bool (!c)))) s') E' s) : wpAny (model prog w) A (Builtin.«object.__ne__» ⟨[.ref x, b], []⟩) Q E' s := by
  unfold Builtin.«object.__ne__»
  repeat (first
    | with_reducible refine wpAny_cRoomFor hu ?_
    | (refine wpAny_bind (m := callSpecialIfBound? (.ref x) (Str.ofString "__eq__") [b]) (PySem.W.ifBound_K XK' J hs hf (wpAny_mono h (fun r s' hr => by
          obtain ⟨c, rfl, hq⟩ := hr
          repeat (first | exact hq | exact wpAny_pure hq | exact wpAny_truthy_bool hq | (refine wpAny_bind (m := truthy (.bool _)) (wpAny_truthy_bool ?_)) | wp_step)) fun _ _ z => z)))
    | wp_step)
theorem op_neI (F : FnOk X.prog X.w X.K X.mg X.base CX k f fd ps sp) (hb : Binds X.K fd ps []) (hx : Passes CX X E) (hr : Room (k + 2) X.A) (hm : PySem.W.mroIn X.K C (.type "object") = some true)
    (hne : PySem.W.findIn X.K (.ref C) "__ne__" = some (some (.builtin "object.__ne__"))) (hs : PySem.W.findIn X.K (.ref C) "__eq__" = some (some (.ref f))) (hf : PySem.W.isFn X.K (.ref f) = true) :
    OpR X (compareOp .NotEq) (rEqI C sp E (NotSub X.K C) fun b => !b) := by
  intro pins s σ H x y v u Q I rx ry h
  obtain ⟨a, dx, fs, rfl, ea, ty, q⟩ := h
  cases (show v = Value.ref a from rx)
  obtain ⟨od, J⟩ := inst_at I ea
  obtain ⟨t, lt, hn⟩ := notSub_looks I ry ty
  have run : wpAny (model X.prog X.w) X.A.in1 (call (.ref f) [.ref a, u]) (fun v s' => ∃ c : Bool, v = .bool c ∧ EP X pins σ Q (.bool (!c)) s') X.xe s := by
    refine thn (run_at F hb hx (hr.in1.mono (Nat.le_succ _)) rfl I (vs := [.ref a, y]) (us := [.ref a, u]) (.cons rfl (.cons ry .nil)) q) fun v' s' hv => ?_
    obtain ⟨z, H', I', rz, b, ez, q'⟩ := hv
    subst ez
    cases (show v' = Value.bool b from rz)
    exact ⟨b, rfl, .bl (!b), H', I', rfl, q'⟩
  have one : wpAny (model X.prog X.w) X.A (tryCompare (.ref a) "__ne__" u) (fun r s' => ∃ c : Bool, r = some (.bool c) ∧ EP X pins σ Q (.bool c) s') X.xe s := by
    unfold tryCompare
    refine wpAny_bind (ifBound_ne I.kIn J hne (wpAny_call (codeAny_call_builtin PySem.F.cmp_object.ne.plain PySem.F.cmpEntry_ne (PySem.W.check_slot PySem.F.cmpKind_ne PySem.F.cmpSplit_ne (J.type.andThen (PySem.W.looks_mroIn I.kIn hm)) (PySem.F.cmpArgs_ne _ _)
      (ne_body hr.in1.units0 I.kIn J hs hf (thn run fun v s' hv => ?_))))))
    obtain ⟨c, rfl, hq⟩ := hv
    exact ⟨c, rfl, wpAny_pure ⟨_, rfl, hq⟩⟩
  show wpAny _ _ (richCompare .NotEq (.ref a) u) _ _ _
  unfold richCompare
  simp only [oneThing_ref, cmpInfo_NotEq]
  refine wpAny_holding (wpAny_bind (wpAny_cRoomFor hr.units0 ?_))
  refine wpAny_bind (J.type.here (wpAny_bind (lt.here ?_)))
  split
  · rename_i qq
    have e : PySem.W.subIn X.K t (.ref C) = some false := by
      rcases Bool.or_eq_true_iff.mp hn with e | e
      · rw [beq_iff_eq.mp e] at qq
        simp at qq
      · exact beq_iff_eq.mp e
    refine wpAny_bind ((PySem.W.looks_subIn I.kIn e).here ?_)
    simp only [Bool.false_eq_true, if_false]
    refine wpAny_bind (wpAny_mono one (fun r s' z => ?_) fun _ _ e => e)
    obtain ⟨c, rfl, hq⟩ := z
    exact wpAny_pure hq
  · refine wpAny_bind (wpAny_pure ?_)
    simp only [Bool.false_eq_true, if_false]
    refine wpAny_bind (wpAny_mono one (fun r s' z => ?_) fun _ _ e => e)
    obtain ⟨c, rfl, hq⟩ := z
    exact wpAny_pure hq
end
end L2.G
set_option Elab.async false
set_option linter.all false
set_option maxRecDepth 100000
set_option maxHeartbeats 2000000
namespace L2.G
open PySem PySem.Spec PyProof.Rows
/-- nothing is being shown (no repr of a container runs around) -/
abbrev Quiet (A : Around) : Prop := A.guards = some []
theorem quiet_deeper {A : Around} (h : Quiet A) (env : Env) : Quiet (A.deeper env) := by
  first | exact h | (simpa [Around.deeper] using h)
/-- a def's promise where nothing is being shown -/
structure FnOkG (P : Program) (w : World) (K : PySem.W.Frag) (mg : Str → Option Value) (base : Heap) (CX : CXT) (k : Nat) (f : Addr) (fd : FuncData) (ps : List Str) (sp : Sp) : Prop where
  len : ∀ vs H Q E, sp vs H Q E → vs.length = ps.length
  run : ∀ (A : Around) (outer : List Env) (s : Shared) (H : Hp) (args : Args) (us : List Value) (vs : List V) (Q : VK) (E : XK), Quiet A → Room k A → Env0 P w K mg base A outer s H →
    BindsTo s fd args (ps.zip us) → Vals vs us → sp vs H Q E → codeAny (model P w) A (.call (.ref f) args) (CR CX outer P w H s Q E) s
section
variable {P : Program} {w : World} {K : PySem.W.Frag} {mg : Str → Option Value} {base : Heap} {CX : CXT} {k : Nat} {f : Addr} {fd : FuncData} {ps N : List Str} {sp : Sp}
theorem _root_.L2.FnOk.quiet (F : FnOk P w K mg base CX k f fd ps sp) : FnOkG P w K mg base CX k f fd ps sp :=
  ⟨F.len, fun A outer s H args us vs Q E _ => F.run A outer s H args us vs Q E⟩
/-- a def by its body, where nothing is being shown -/
theorem fn_ofG {name qual : Str} {params : Arguments} {body : List Stmt} {scope : Scope} {dV kV doc pm cdv ct oc : Value} {an od : Option Addr} {osl : Array (Option Value)}
    (lk : K.lookup f = some ⟨oc, od, .func (PySem.W.fnOf name qual params body scope dV kV doc pm an cdv ct), osl⟩) (hcd : PySem.W.codeIn K cdv qual = true) (S : FnScope N ps scope)
    (len : ∀ vs H Q E, sp vs H Q E → vs.length = ps.length)
    (hbody : ∀ (A : Around) (outer : List Env) (s : Shared) (H : Hp) (vs : List V) (Q : VK) (E : XK), Quiet (A.deeper (envOfC qual scope s.heap.objs.size f cdv)) → Room k (A.deeper (envOfC qual scope s.heap.objs.size f cdv)) → sp vs H Q E →
      ∃ t, PSs (cxOf CX P w K mg base N qual scope f cdv A outer s H E) body t ∧ t { nx := fun _ H' => Q .non H', rt := Q } (start N vs) H) :
    FnOkG P w K mg base CX (k + 1) f (PySem.W.fnOf name qual params body scope dV kV doc pm an cdv ct) ps sp := by
  refine ⟨len, fun A outer s H args us vs Q E qt hr e0 hb r hsp => ?_⟩
  have inS : K.In s.heap := e0.mod.kin.keeps fun b o z => (e0.bs b o z).1
  have noL : s.heap.NoLimit := e0.mod.nolimit.keeps fun b o z => (e0.bs b o z).1
  have kinds : ∀ y ∈ ps.zip us, scope.names.lookup y.1 = some .local ∨ (scope.names.lookup y.1 = some .cell ∧ ((cellsFrom (s.heap.objs.size + 1) scope.names []).lookup y.1).isSome = true) := by
    rintro ⟨n, v⟩ hy
    exact (S.par n (List.of_mem_zip hy).1).imp id fun z => ⟨z, PySem.W.cellsFrom_some _ _ _ (.inl z)⟩
  refine codeAny_call_function hr.depth (inS _ _ lk) rfl S.co S.gen rfl (PySem.W.codeRec_of inS hcd) (hb _ _ _ _ (wpAny_newFunctionEnv_cells S.kind kinds fun env he s1 x => ?_))
  subst he
  obtain ⟨t, ht, hq⟩ := hbody A outer s H vs Q E (quiet_deeper qt _) (hr.deeper _) hsp
  have I := inv_start (CX := CX) (E := E) S hr.hd e0 (len _ _ _ _ hsp) r x
  refine ⟨noL.keeps x.toInCall.keep, codeAny_func (wpAny_mono (ht.run [] s1 (start N vs) H _ I hq) (fun fl s' hs => ?_) fun _ _ hs => hs)⟩
  match fl, hs with
  | .ret u, ⟨v, σ', H', J, rv, q⟩ => exact ⟨v, H', J.os, J.bare, J.base, J.hok, rv, q⟩
  | .next, ⟨σ', H', J, q⟩ => exact ⟨.non, H', J.os, J.bare, J.base, J.hok, rfl, q⟩
  | .brk, ⟨_, _, _, q⟩ => exact False.elim q
  | .cont, ⟨_, _, _, q⟩ => exact False.elim q
theorem _root_.L2.Fun.okG {x qual : Str} {st : Stmt} (F : Fun K x qual st f fd) (S : FnScope N ps (defScope st)) (len : ∀ vs H Q E, sp vs H Q E → vs.length = ps.length)
    (hbody : ∀ (cdv : Value) (A : Around) (outer : List Env) (s : Shared) (H : Hp) (vs : List V) (Q : VK) (E : XK), Quiet (A.deeper (envOfC qual (defScope st) s.heap.objs.size f cdv)) → Room k (A.deeper (envOfC qual (defScope st) s.heap.objs.size f cdv)) → sp vs H Q E →
      ∃ t, PSs (cxOf CX0 P w K mg base N qual (defScope st) f cdv A outer s H E).nox (defBody st) t ∧ t { nx := fun _ H' => Q .non H', rt := Q } (start N vs) H) : FnOkG P w K mg base CX0 (k + 1) f fd ps sp := by
  obtain ⟨oc, od, kV, doc, pm, an, cdv, ct, osl, e, lk, hcd⟩ := F.ex
  subst e
  refine fn_ofG lk hcd S len fun A outer s H vs Q E qt hr hs => ?_
  obtain ⟨t, h, q⟩ := hbody cdv A outer s H vs Q E qt hr hs
  exact ⟨t, h.nox, q⟩
end
section
variable {X : Cx} {CX : CXT} {k : Nat} {f : Addr} {fd : FuncData} {ps : List Str} {sp : Sp} {E : XK} {pins : List (Addr × Obj)} {σ : St} {H : Hp} {s : Shared} {dvs : List V} {ds : List Value} {x : Str} {p pos : Pos} {e : Expr} {es : List Expr} {t : TA}
theorem run_atG (F : FnOkG X.prog X.w X.K X.mg X.base CX k f fd ps sp) (qt : Quiet X.A) (hr : Room k X.A) (hb : Binds X.K fd ps ds) (hd : Vals dvs ds) (hx : Passes CX X E)
    (I : Inv X pins σ H s) {vs : List V} {us : List Value} {Q : VK} (r : Vals vs us) (h : sp (vs ++ dvs) H Q E) : wpAny (model X.prog X.w) X.A (call (.ref f) us) (EP X pins σ Q) X.xe s := by
  have rr : Vals (vs ++ dvs) (us ++ ds) := r.append hd
  refine wpAny_call (codeAny_mono (F.run X.A X.stack s H ⟨us, []⟩ (us ++ ds) (vs ++ dvs) Q E qt hr I.env0 (hb s us I.kIn (rr.length.symm.trans (F.len _ _ _ _ h))) rr h) fun res s' hq => ?_)
  match res, hq with
  | .error e, hq => exact hx pins σ H s e s' I hq
  | .ok (.ret u), hq => exact I.after hq
  | .ok .next, hq => exact False.elim hq
  | .ok .brk, hq => exact False.elim hq
  | .ok .cont, hq => exact False.elim hq
/-- f(e, ..), where nothing is being shown -/
theorem pe_callG (F : FnOkG X.prog X.w X.K X.mg X.base CX k f fd ps sp) (qt : Quiet X.A) (hr : Room k X.A) (hg : Gl X x) (hm : X.mg x = some (.ref f)) (hk : PySem.W.keepIn X.K (.ref f) = true) (hb : Binds X.K fd ps ds) (hd : Vals dvs ds) (hx : Passes CX X E)
    (ha : PA X (e :: es) t) (hdb : (x == ("__debug__" : Str)) = false := by decide) (he : starEach (e :: es) X.env = (false, eval e X.env) :: starEach es X.env := by rfl) (hpl : (backTo pos (starEach es X.env)).any (·.1) = false := by rfl) :
    PE X (.Call (.Name x p) (e :: es) [] pos) (tCall sp dvs E t) := by
  refine ⟨fun pins s σ H Q I h => wpAny_Call_Name_kw (ld_glob I hg hm ?_ hdb)⟩
  refine PySem.W.callWith_K (h₀ := X.base) I.ok.mod.kin hk (thn (ha.run pos pins s σ H _ I h) fun us s1 hh => ?_) he hpl
  obtain ⟨vs, H1, I1, r, q⟩ := hh
  exact ⟨I1.kIn, run_atG F qt hr hb hd hx I1 r q⟩
/-- repr of data -/
def rShow (K : PySem.W.Frag) : List V → Hp → VK → Prop := fun xs H Q => ∃ (a : Addr) (d : PyData), xs = [.ref a] ∧ Dp K H (.ref a) d ∧ d.showable = true ∧ d.hasDict = false ∧ d.depth ≤ 20 ∧ d.shown.length ≤ sizeLine ∧ Q (.str d.shown) H
theorem cr_show (qt : Quiet X.A) (hr : Room k X.A) : CallR X (.builtin "repr") (rShow X.K) := by
  intro pins s σ H xs us Q I r h
  obtain ⟨a, d, rfl, hd, h1, h2, h3, h4, q⟩ := h
  obtain ⟨u, rfl, ru⟩ := vals1 r
  obtain ⟨as, rd⟩ := Dp.reads I d (.ref a) u hd ru
  cases (show u = Value.ref a from ru)
  refine repr_of_reads' rd h1 (fun z => by rw [h2] at z; cases z) qt (by have := hr.units; omega) (fun _ _ z => z) (fun h' u tk hk => ?_) h4
  exact ⟨.str d.shown, H, I.kept (t' := tk) hk, ⟨_, rfl⟩, q⟩
end
end L2.G
set_option Elab.async false
set_option linter.all false
set_option maxRecDepth 100000
set_option maxHeartbeats 2000000
namespace L2.G
open PySem PySem.Spec PyProof.Rows
theorem quiet_caller : Quiet callerA := by first | rfl | decide
/-- the law's call from a heap in which the script alone is tracked -/
theorem call_from {P : Program} {w : World} {K : PySem.W.Frag} {mg mb : Str → Option Value} {k : Nat} {fa a : Addr} {fd : FuncData} {x : Str} {sp : Sp} {s₁ : Shared} {vs : List Value} {ns : List Int}
    (KX : K.In s₁.heap) (hns : s₁.heap.Ns mainGlobals mg) (hb : s₁.heap.Ns builtinsNs mb) (hbb : ∀ x : Str, x ≠ "__name__" → mb x = bootBuiltins x) (hlim : s₁.heap.NoLimit) (hg : s₁.gens = #[])
    (ha : s₁.heap.get? a = some { cls := .type "list", data := .seq vs.toArray }) (hr : Room k callerA)
    (F : ∀ base : Heap, K.In base → base.Ns mainGlobals mg → FnOkG P w K mg base CX0 k fa fd [x] sp) (hbind : ∀ (s : Shared) (u : Value), BindsTo s fd ⟨[u], []⟩ [(x, u)])
    (H : Hp) (hO : Only H) (hsp : sp [.ref a] H (fun v _ => v = .bl true) fun _ _ _ => False) (hok : HOk P w H s₁.heap) (hA : ∀ b, H b ≠ none → b = a) (hK : H a ≠ none → K.lookup a = none) :
    codeAny (model P w) callerA (.call (.ref fa) ⟨[.ref a], []⟩) (fun r s' => r = .ok (.ret (.bool true)) ∧ OldK s₁.heap s'.heap ∧ s'.os = s₁.os ∧ AllBare s'.gens) s₁ := by
  have isA : ∀ {b : Addr} {u : HO}, H b = some u → b = a := fun {b u} q => hA b (by rw [q]; exact fun z => nomatch z)
  have free : ∀ {b : Addr} {o : Obj} {es : Array DictEntry} {ep : Nat}, s₁.heap.get? b = some o → o.data = .dict es ep → H b = none := by
    intro b o es ep e d
    match q : H b with
    | none => rfl
    | some u =>
      rw [isA q, ha] at e
      cases e
      exact nomatch (show Data.seq vs.toArray _ = Data.dict es ep from d)
  have ns' : ∀ {b : Addr} {m : Str → Option Value}, s₁.heap.Ns b m → (hidT s₁.heap H).Ns b m := by
    rintro b m ⟨o, es, ep, e, d, r⟩
    exact ⟨o, es, ep, hidT_get e (free e d), d, r⟩
  have inB : K.In (hidT s₁.heap H) := by
    intro b o e
    refine hidT_get (KX b o e) ?_
    match q : H b with
    | none => rfl
    | some u =>
      have z := isA q
      subst z
      rw [hK (by rw [q]; exact fun z => nomatch z)] at e
      cases e
  have md : Mod K mg (hidT s₁.heap H) := by
    obtain ⟨mc, h1, h2⟩ := hlim
    exact ⟨inB, ns' hns, ⟨mb, ns' hb, hbb⟩, mc, ns' h1, h2⟩
  have e0 : Env0 P w K mg (hidT s₁.heap H) callerA [] s₁ H := ⟨rfl, md, fun _ _ e => of_hidT e, Nat.le_of_eq (hidT_size _ _), trivial, fun b hb => (nomatch (show b ∈ ([] : List Addr) from hb)), hok, .of_eq hg⟩
  refine codeAny_mono ((F _ inB (ns' hns)).run callerA [] s₁ H ⟨[.ref a], []⟩ [.ref a] [.ref a] _ _ quiet_caller hr e0 (hbind s₁ (.ref a)) (.cons rfl .nil) hsp) fun r s' h => ?_
  match r, h with
  | .error _, h => exact False.elim h
  | .ok .next, h => exact False.elim h
  | .ok .brk, h => exact False.elim h
  | .ok .cont, h => exact False.elim h
  | .ok (.ret u), ⟨v, H', os, bare, un, hok', r', q⟩ =>
    cases (show v = .bl true from q)
    cases (show u = Value.bool true from r')
    refine ⟨rfl, OldK.of_keep fun b o e => ?_, os, bare⟩
    rcases hO b with z | ⟨ob, xs, z⟩
    · exact un.keep b o e z (fun y => nomatch (show b ∈ ([] : List Addr) from y)) (fun y => nomatch y)
    · have e1 := (hok b _ z).1
      rw [e] at e1
      cases e1
      exact (hok' b _ (un.frzs b _ _ z)).1
theorem law_callG {P : Program} {w : World} {K : PySem.W.Frag} {mg mb : Str → Option Value} {k : Nat} {fa a : Addr} {fd : FuncData} {x : Str} {sp : Sp} {s₁ : Shared} {vs : List Value} {ns : List Int}
    (KX : K.In s₁.heap) (hns : s₁.heap.Ns mainGlobals mg) (hb : s₁.heap.Ns builtinsNs mb) (hbb : ∀ x : Str, x ≠ "__name__" → mb x = bootBuiltins x) (hlim : s₁.heap.NoLimit) (hg : s₁.gens = #[])
    (ha : s₁.heap.get? a = some { cls := .type "list", data := .seq vs.toArray }) (hi : IntsAre vs ns) (hl : ns.length ≤ sizeLine) (hr : Room k callerA)
    (F : ∀ base : Heap, K.In base → base.Ns mainGlobals mg → FnOkG P w K mg base CX0 k fa fd [x] sp) (hbind : ∀ (s : Shared) (u : Value), BindsTo s fd ⟨[u], []⟩ [(x, u)])
    (hsp : ∀ H : Hp, Only H → SqL K H a (ns.map V.int) → sp [.ref a] H (fun v _ => v = .bl true) fun _ _ _ => False) :
    codeAny (model P w) callerA (.call (.ref fa) ⟨[.ref a], []⟩) (fun r s' => r = .ok (.ret (.bool true)) ∧ OldK s₁.heap s'.heap ∧ s'.os = s₁.os ∧ AllBare s'.gens) s₁ := by
  have go := call_from (P := P) (w := w) (sp := sp) KX hns hb hbb hlim hg ha hr F hbind (ns := ns)
  match hk : K.lookup a with
  | some o =>
    have e := KX a o hk
    rw [ha] at e
    cases e
    refine go (fun _ => none) (fun _ => .inl rfl) (hsp _ (fun _ => .inl rfl) (.inr ⟨_, vs.toArray, _, hk, rfl, rfl, rfl, ?_, ?_⟩)) (fun _ _ z => nomatch z) (fun b z => absurd rfl z) fun z => absurd rfl z
    · rw [List.size_toArray, hi.length]
      exact hl
    · simpa using vals_ints hi
  | none =>
    let H : Hp := fun b => if b = a then some (.frz { cls := .type "list", data := .seq vs.toArray } (.lst (ns.map V.int))) else none
    have at_ : H a = some (.frz { cls := .type "list", data := .seq vs.toArray } (.lst (ns.map V.int))) := if_pos rfl
    have off : ∀ b, b ≠ a → H b = none := fun b n => if_neg n
    have only : Only H := fun b => by
      by_cases n : b = a
      · exact n ▸ .inr ⟨_, _, at_⟩
      · exact .inl (off b n)
    refine go H only (hsp H only (.inl (.inr ⟨_, at_⟩))) (fun b u z => ?_) (fun b z => ?_) fun _ => hk
    · by_cases n : b = a
      · subst n
        rw [at_] at z
        cases z
        refine ⟨ha, ?_, vs, _, vals_ints hi, ha⟩
        rw [List.length_map]
        exact hl
      · rw [off b n] at z
        cases z
    · by_cases n : b = a
      · exact n
      · exact absurd (off b n) z
/-- the end of a law whose defs show things -/
theorem walk_ofG {l : PySem.W.OpenLaw} {n k : Nat} {q : Program} {loose : List Str} {XP : (Str → Option Value) → Heap → Prop} {YP : World → Heap → Prop} {d : DefRec} {K : Params → PySem.W.Frag} {sp : World → Sp} {x : Str}
    (hn : l.most = some n) (hn2 : n ≤ sizeLine) (hdf : d.params.defaults = []) (hr : Room k callerA) (hY : ∀ (w : World) (h : Heap), YP w h → (K w.params).In h)
    (F : ∀ (w : World) (mg : Str → Option Value) (fa : Addr) (h : Heap), (K w.params).In h → h.Ns mainGlobals mg → mg d.name = some (.ref fa) →
      ∃ fd : FuncData, (∀ (s : Shared) (u : Value), BindsTo s fd ⟨[u], []⟩ [(x, u)]) ∧ ∀ base : Heap, (K w.params).In base → base.Ns mainGlobals mg → FnOkG l.prog w (K w.params) mg base CX0 k fa fd [x] (sp w))
    (hsp : ∀ (w : World) (H : Hp) (a : Addr) (ns : List Int), ns.length ≤ n → Only H → SqL (K w.params) H a (ns.map V.int) → sp w [.ref a] H (fun v _ => v = .bl true) fun _ _ _ => False) :
    PySem.W.WalkO q loose XP YP l.row.toRowW d [] (fun f vs => PySem.call f vs) := by
  refine Att.attach_call hn hdf fun w s₀ s₁ mg mb fa o pm cd doc a vs ns G Y ho hd hcd hmg hobj hints hlen hg => ?_
  have inK := hY w _ Y
  obtain ⟨fd, hbi, hF⟩ := F w mg fa _ inK G.T.g hmg
  exact law_callG inK G.T.g G.T.b G.T.builtins G.T.nolimit hg hobj hints (Nat.le_trans hlen hn2) hr hF hbi fun H hO hS => hsp w H a ns hlen hO hS
end L2.G
set_option Elab.async false
set_option linter.all false
set_option maxRecDepth 100000
set_option maxHeartbeats 2000000
namespace L2.G
open PySem PySem.Spec PyProof.Rows
/-! bundles: a def, a class, a method by what it promises -/
structure CalG (P : Program) (w : World) (K : PySem.W.Frag) (mg : Str → Option Value) (base : Heap) (k : Nat) (x : Str) (sp : Sp) : Prop where
  ex : ∃ (f : Addr) (fd : FuncData) (ps : List Str), FnOkG P w K mg base CX0 k f fd ps sp ∧ mg x = some (.ref f) ∧ PySem.W.keepIn K (.ref f) = true ∧ Binds K fd ps []
structure MakK (P : Program) (w : World) (K : PySem.W.Frag) (mg : Str → Option Value) (base : Heap) (k : Nat) (x : Str) (C : Addr) (ks : List Str) (gV : List V → List V → List V) (sp : Sp) : Prop where
  ex : ∃ (f : Addr) (fd : FuncData) (ps : List Str) (g : List Value → List Value → List Value), Mk K C f ∧ FnOk P w K mg base CX0 k f fd ps sp ∧ mg x = some (.ref C) ∧ KBn K fd ps 1 ks g gV
structure MetK (P : Program) (w : World) (K : PySem.W.Frag) (mg : Str → Option Value) (base : Heap) (k : Nat) (C : Addr) (m : Str) (ks : List Str) (gV : List V → List V → List V) (sp : Sp) : Prop where
  ex : ∃ (f : Addr) (fd : FuncData) (ps : List Str) (g : List Value → List Value → List Value), Cls K C ∧ Meth K C m f ∧ FnOk P w K mg base CX0 k f fd ps sp ∧ KBn K fd ps 1 ks g gV
structure Spc (P : Program) (w : World) (K : PySem.W.Frag) (mg : Str → Option Value) (base : Heap) (k : Nat) (C : Addr) (m : Str) (sp : Sp) : Prop where
  ex : ∃ (f : Addr) (fd : FuncData) (ps : List Str), PySem.W.findIn K (.ref C) m = some (some (.ref f)) ∧ PySem.W.isFn K (.ref f) = true ∧ FnOk P w K mg base CX0 k f fd ps sp ∧ Binds K fd ps []
structure Prp (P : Program) (w : World) (K : PySem.W.Frag) (mg : Str → Option Value) (base : Heap) (k : Nat) (C : Addr) (m : Str) (sp : Sp) : Prop where
  ex : ∃ (p f : Addr) (fd : FuncData) (ps : List Str), Cls K C ∧ PropOf K C m p f ∧ FnOk P w K mg base CX0 k f fd ps sp ∧ Binds K fd ps []
section
variable {X : Cx} {k j : Nat} {C : Addr} {sp : Sp} {x m : Str} {p pos apos : Pos} {e o : Expr} {es : List Expr} {t tk : TA} {ta : TE} {kws : List Keyword} {ks : List Str} {gV : List V → List V → List V}
theorem pe_cG (c : CalG X.prog X.w X.K X.mg X.base k x sp) (qt : Quiet X.A) (hr : Room j X.A) (hk : k ≤ j) (hg : Gl X x) (ha : PA X (e :: es) t)
    (hdb : (x == ("__debug__" : Str)) = false := by decide) (he : starEach (e :: es) X.env = (false, eval e X.env) :: starEach es X.env := by rfl) (hpl : (backTo pos (starEach es X.env)).any (·.1) = false := by rfl) :
    PE X (.Call (.Name x p) (e :: es) [] pos) (tCall sp [] E0 t) := by
  obtain ⟨f, fd, ps, F, hm, kp, b⟩ := c.ex
  exact pe_callG F qt (hr.mono hk) hg hm kp b .nil pass0 ha hdb he hpl
theorem pe_mkK0 (c : MakK X.prog X.w X.K X.mg X.base k x C ks gV sp) (hr : Room j X.A) (hk : k + 1 ≤ j) (hg : Gl X x) (hkw : PK X kws tk)
    (hall : (backToKw pos (keywordEach kws X.env)).all (·.1.isSome) = true := by rfl) (hks : (backToKw pos (keywordEach kws X.env)).filterMap (·.1) = ks := by rfl) (hdb : (x == ("__debug__" : Str)) = false := by decide)
    (hpl : ((backTo pos (starEach [] X.env)).any (·.1) || (backToKw pos (keywordEach kws X.env)).any (·.1.isNone)) = false := by rfl) :
    PE X (.Call (.Name x p) [] kws pos) (tMakeK C 0 ks.length sp gV E0 tNil tk) := by
  obtain ⟨f, fd, ps, g, M, F, hm, b⟩ := c.ex
  exact pe_makeK0 M F (hr.mono hk) hg hm b pass0 hkw hall hks hdb hpl
/-- o.m(k = v, ..) -/
def tMethK (C : Addr) (m : Str) (n : Nat) (sp : Sp) (gV : List V → List V → List V) (ta : TE) (tk : TA) : TE := fun σ H Q => ta σ H fun x H1 => ∃ a dx fs, x = .ref a ∧ H1 a = some (.ins C dx fs) ∧ fs.lookup m = none ∧ tk σ H1 fun zs H2 => zs.length = n ∧ sp (gV [.ref a] zs) H2 Q E0
theorem pe_mtK {pl : Sem Bool} (c : MetK X.prog X.w X.K X.mg X.base k C m ks gV sp) (hr : Room j X.A) (hk : k ≤ j) (he : PE X o ta) (hkw : PK X kws tk)
    (hall : (backToKw pos (keywordEach kws X.env)).all (·.1.isSome) = true := by rfl) (hks : (backToKw pos (keywordEach kws X.env)).filterMap (·.1) = ks := by rfl)
    (hpl : ((backTo pos (starEach [] X.env)).any (·.1) || (backToKw pos (keywordEach kws X.env)).any (·.1.isNone)) = false := by rfl)
    (ht : eval (.Call (.Attribute o m apos) [] kws pos) X.env = (do
      let ov ← eval o X.env
      standAt apos.atName
      let (f, first) ← holding [ov] (getMethod ov m pl)
      callWith pos f first (backTo pos (starEach [] X.env)) (backToKw pos (keywordEach kws X.env))) := by rfl) :
    PE X (.Call (.Attribute o m apos) [] kws pos) (tMethK C m ks.length sp gV ta tk) := by
  obtain ⟨f, fd, ps, g, cl, hm, F, b⟩ := c.ex
  refine ⟨fun pins s σ H Q I h => PySem.W.methodCall_KW (pl := pl) (thn (he.run pins s σ H _ I h) fun u s1 hh => ?_) ht⟩
  obtain ⟨y, H1, I1, rx, a, dx, fs, ex, ea, l, q⟩ := hh
  subst ex
  cases (show u = Value.ref a from rx)
  refine getmeth_ok I1 ea cl hm l (PySem.W.callWith_KW0 (first := [.ref a]) (h₀ := X.base) I.ok.mod.kin hm.kp hall (thn (hkw.run pos pins s1 σ H1 _ I1 q) fun ws s2 hz => ?_) hpl)
  obtain ⟨zs, H2, I2, rz, l2, q2⟩ := hz
  refine ⟨I2.kIn, ?_⟩
  rw [hks]
  exact run_fnN (vs := [.ref a]) F (hr.mono hk) b pass0 I2 (.cons rfl .nil) rz rfl l2 q2
theorem pe_pr (c : Prp X.prog X.w X.K X.mg X.base k C m sp) (hr : Room j X.A) (hk : k + 1 ≤ j) (he : PE X e ta) (hab : attributeBase e m X.env (eval e X.env) = eval e X.env := by rfl) : PE X (.Attribute e m pos) (tProp C sp [] E0 ta) := by
  obtain ⟨p, f, fd, ps, cl, hp, F, b⟩ := c.ex
  exact pe_prop he cl hp F (hr.mono hk) b .nil (fun _ _ _ _ _ _ _ h => h.elim) hab
theorem sp_len (c : Spc X.prog X.w X.K X.mg X.base k C "__len__" sp) (hr : Room j X.A) (hk : k + 1 ≤ j) : CallR X (.builtin "len") (rLenI C sp E0) := by
  obtain ⟨f, fd, ps, h1, h2, F, b⟩ := c.ex
  exact cr_lenI F b pass0 (hr.mono hk) h1 h2
theorem sp_repr (c : Spc X.prog X.w X.K X.mg X.base k C "__repr__" sp) (hr : Room j X.A) (hk : k + 1 ≤ j) : CallR X (.builtin "repr") (rTxtI C sp E0) := by
  obtain ⟨f, fd, ps, h1, h2, F, b⟩ := c.ex
  exact cr_reprI F b pass0 (hr.mono hk) h1 h2
theorem sp_str (c : Spc X.prog X.w X.K X.mg X.base k C "__str__" sp) (hr : Room j X.A) (hk : k + 2 ≤ j) : CallR X (.type "str") (rTxtI C sp E0) := by
  obtain ⟨f, fd, ps, h1, h2, F, b⟩ := c.ex
  exact cr_strI F b pass0 (hr.mono hk) h1 h2
theorem sp_eq (c : Spc X.prog X.w X.K X.mg X.base k C "__eq__" sp) (hr : Room j X.A) (hk : k ≤ j) : OpR X (compareOp .Eq) (rEqI C sp E0 (NotSub X.K C) id) := by
  obtain ⟨f, fd, ps, h1, h2, F, b⟩ := c.ex
  exact op_eqI F b pass0 (hr.mono hk) h1 h2
theorem sp_ne (c : Spc X.prog X.w X.K X.mg X.base k C "__eq__" sp) (hm : PySem.W.mroIn X.K C (.type "object") = some true) (hne : PySem.W.findIn X.K (.ref C) "__ne__" = some (some (.builtin "object.__ne__"))) (hr : Room j X.A) (hk : k + 2 ≤ j) :
    OpR X (compareOp .NotEq) (rEqI C sp E0 (NotSub X.K C) fun b => !b) := by
  obtain ⟨f, fd, ps, h1, h2, F, b⟩ := c.ex
  exact op_neI F b pass0 (hr.mono hk) hm hne h1 h2
theorem sp_tru (c : Spc X.prog X.w X.K X.mg X.base k C "__len__" sp) (hn : PySem.W.findIn X.K (.ref C) "__bool__" = some none) (hr : Room j X.A) (hk : k + 1 ≤ j) : TruR X (rTruI C sp E0) := by
  obtain ⟨f, fd, ps, h1, h2, F, b⟩ := c.ex
  exact tr_lenI F b pass0 (hr.mono hk) hn h1 h2
end
/-- names that are still the built-in ones -/
structure Bn (mg : Str → Option Value) : Prop where
  len : mg "len" = none
  range : mg "range" = none
  str : mg "str" = none
  int : mg "int" = none
  abs : mg "abs" = none
  divmod : mg "divmod" = none
  all : mg "all" = none
  any : mg "any" = none
  repr : mg "repr" = none
  isinstance : mg "isinstance" = none
  max : mg "max" = none
  min : mg "min" = none
  bool : mg "bool" = none
  tuple : mg "tuple" = none
  list : mg "list" = none
  enumerate : mg "enumerate" = none
  zip : mg "zip" = none
  sorted : mg "sorted" = none
  sum : mg "sum" = none
end L2.G
set_option Elab.async false
set_option linter.all false
set_option maxRecDepth 100000
set_option maxHeartbeats 2000000
namespace L2.G
open PySem PySem.Spec PyProof.Rows
section
variable {X : Cx}
theorem PE_imp {e : Expr} {t t' : TE} (h : PE X e t) (m : ∀ σ H Q, t' σ H Q → t σ H Q) : PE X e t' := ⟨fun pins s σ H Q I q => h.run pins s σ H Q I (m σ H Q q)⟩
theorem IxR_imp {r r' : R2} (h : IxR X r) (m : ∀ x y H Q, r' x y H Q → r x y H Q) : IxR X r' := by
  intro a1 a2 a3 a4 a5 a6 a7 a8 a9 a10 a11 a12 a13 a14 q
  first
    | exact h a1 a2 a3 a4 a5 a6 a7 a8 a9 a10 a11 a12 a13 a14 (m _ _ _ _ q)
    | trace_state
theorem PSet_imp {t t' : TSet} (h : PSet X t) (m : ∀ o i v H Q, t' o i v H Q → t o i v H Q) : PSet X t' := fun pins s σ H o i v ov iv u Q I r1 r2 r3 q => h pins s σ H o i v ov iv u Q I r1 r2 r3 (m o i v H Q q)
theorem CallR_imp {f : Value} {r r' : List V → Hp → VK → Prop} (h : CallR X f r) (m : ∀ xs H Q, r' xs H Q → r xs H Q) : CallR X f r' := fun pins s σ H xs us Q I rx q => h pins s σ H xs us Q I rx (m xs H Q q)
theorem OpR_imp {f : Value → Value → Sem Value} {r r' : R2} (h : OpR X f r) (m : ∀ x y H Q, r' x y H Q → r x y H Q) : OpR X f r' := fun pins s σ H x y v u Q I rx ry q => h pins s σ H x y v u Q I rx ry (m x y H Q q)
/-- xs[i] of a tracked list or tuple, by reckoning -/
def cIx : R2 := fun x y H Q => match x, y with
  | .ref p, .int i => match H p with
    | some (.lst xs) => match atI xs i with
      | some v => Q v H
      | none => False
    | some (.tup xs) => match atI xs i with
      | some v => Q v H
      | none => False
    | _ => False
  | _, _ => False
theorem ix_c : IxR X cIx := by
  refine IxR_imp (IxR.or ix_list ix_tup) fun x y H Q q => ?_
  cases x <;> cases y <;> try exact q.elim
  rename_i p i
  unfold cIx at q
  dsimp only at q
  split at q
  · rename_i xs e
    split at q
    · rename_i v e2
      exact .inl ⟨p, xs, i, v, rfl, rfl, .inl (.inl e), e2, q⟩
    · exact q.elim
  · rename_i xs e
    split at q
    · rename_i v e2
      exact .inr ⟨p, xs, i, v, rfl, rfl, .inl (.inl e), e2, q⟩
    · exact q.elim
  · exact q.elim
/-- xs[i] = v of a tracked list -/
def cSet : TSet := fun o i v H Q => match o, i with
  | .ref p, .int k => match H p with
    | some (.lst xs) => match ixN xs.length k with
      | some j => Q (upd H p (.lst (xs.set j v)))
      | none => False
    | _ => False
  | _, _ => False
theorem set_c : PSet X cSet := by
  refine PSet_imp set_list fun o i v H Q q => ?_
  cases o <;> cases i <;> try exact q.elim
  rename_i p k
  unfold cSet at q
  dsimp only at q
  split at q
  · rename_i xs e
    split at q
    · rename_i j e2
      exact ⟨p, xs, k, j, rfl, rfl, e, e2, q⟩
    · exact q.elim
  · exact q.elim
/-- len of a text, a tracked list or tuple -/
def cLen : List V → Hp → VK → Prop := fun xs H Q => match xs with
  | [.str z] => z.length ≤ sizeLine ∧ Q (.int z.length) H
  | [.ref p] => match H p with
    | some (.lst ys) => Q (.int ys.length) H
    | some (.tup ys) => Q (.int ys.length) H
    | _ => False
  | _ => False
theorem len_c : CallR X (.builtin "len") cLen := by
  refine CallR_imp call_len fun xs H Q q => ?_
  match xs, q with
  | [.str z], q => exact ⟨.str z, z.length, rfl, ⟨q.1, rfl⟩, q.2⟩
  | [.ref p], q =>
    unfold cLen at q
    dsimp only at q
    split at q
    · rename_i ys e
      exact ⟨.ref p, ys.length, rfl, .inl ⟨ys, .inl (.inl e), rfl⟩, q⟩
    · rename_i ys e
      exact ⟨.ref p, ys.length, rfl, .inr ⟨ys, .inl (.inl e), rfl⟩, q⟩
    · exact q.elim
/-- int(n) of an int -/
def cInt : List V → Hp → VK → Prop := fun xs H Q => match xs with
  | [.int i] => Q (.int i) H
  | _ => False
theorem int_c : CallR X (.type "int") cInt := by
  refine CallR_imp call_int1 fun xs H Q q => ?_
  match xs, q with
  | [.int i], q => exact .inl ⟨i, rfl, q⟩
/-- o.f of a tracked instance -/
def cFld (C : Addr) (ta : TE) (f : Str) : TE := fun σ H Q => ta σ H fun x H1 => match x with
  | .ref a => match H1 a with
    | some (.ins C' dx fs) => C' = C ∧ match fs.lookup f with
      | some v => Q v H1
      | none => False
    | _ => False
  | _ => False
theorem pe_fldC {e : Expr} {ta : TE} {f : Str} {C : Addr} {pos : Pos} (c : Cls X.K C) (n : NoAttr X.K C f) (he : PE X e ta) (mono : ∀ σ H Q Q', (∀ v H', Q v H' → Q' v H') → ta σ H Q → ta σ H Q') (hb : attributeBase e f X.env (eval e X.env) = eval e X.env := by rfl) :
    PE X (.Attribute e f pos) (cFld C ta f) := by
  refine PE_imp (pe_fld he hb) fun σ H Q q0 => mono σ H _ _ (fun x H1 q => ?_) q0
  cases x <;> try exact q.elim
  rename_i a
  dsimp only at q
  split at q
  · rename_i C' dx fs e
    obtain ⟨rfl, q⟩ := q
    split at q
    · rename_i v e2
      exact ⟨a, C', dx, fs, v, rfl, e, c, n, e2, q⟩
    · exact q.elim
  · exact q.elim
theorem mono_var {i : Nat} : ∀ σ H (Q Q' : VK), (∀ v H', Q v H' → Q' v H') → tVar i σ H Q → tVar i σ H Q' := fun σ H Q Q' m ⟨v, e, q⟩ => ⟨v, e, m _ _ q⟩
/-- divmod of two ints -/
def cDivmod : List V → Hp → VK → Prop := fun xs H Q => match xs with
  | [.int i, .int j] => CDiv i j ∧ ∀ p, H p = none → Q (.ref p) (upd H p (.tup [.int (i / j), .int (i % j)]))
  | _ => False
theorem divmod_c : CallR X (.builtin "divmod") cDivmod := by
  refine CallR_imp call_divmod fun xs H Q q => ?_
  match xs, q with
  | [.int i, .int j], q => exact ⟨i, j, rfl, q⟩
/-- a, b = .. of a tracked tuple -/
def cTup (n : Nat) (t : TGs) : TG := fun v σ H Q => match v with
  | .ref a => match H a with
    | some (.tup xs) => xs.length = n ∧ t xs σ H Q
    | _ => False
  | _ => False
theorem pg_tupC (n : Nat) {es : List Expr} {k : Nat} {t : TGs} {pos : Pos} (hc : X.calm = true) (h : PGs X es t) (hn : (assignEach es X.env).length = n := by rfl) (hst : (assignEach es X.env).findIdx? (·.1) = none := by rfl) : PG X (.Tuple es k pos) (cTup n t) := by
  refine ⟨fun pins s σ H v u Q I r q => ?_⟩
  refine (pg_tup hc h hn hst).run pins s σ H v u Q I r ?_
  cases v <;> try exact q.elim
  rename_i a
  unfold cTup at q
  dsimp only at q
  split at q
  · rename_i xs e
    exact ⟨a, xs, rfl, .inl (.inl e), q⟩
  · exact q.elim
/-- the name of a value's type -/
def tyN (H : Hp) : V → Option String
  | .non => some "NoneType"
  | .bl _ => some "bool"
  | .int _ => some "int"
  | .str _ => some "str"
  | .ref a => match H a with
    | some (.lst _) => some "list"
    | some (.tup _) => some "tuple"
    | some (.dK _) => some "dict"
    | _ => none
  | _ => none
theorem tyN_ref {H : Hp} {a : Addr} {t : String} (h : tyN H (.ref a) = some t) : (∃ xs, H a = some (.lst xs) ∧ t = "list") ∨ (∃ xs, H a = some (.tup xs) ∧ t = "tuple") ∨ ∃ kvs, H a = some (.dK kvs) ∧ t = "dict" := by
  unfold tyN at h
  dsimp only at h
  split at h
  · rename_i e; exact .inl ⟨_, e, (Option.some.inj h).symm⟩
  · rename_i e; exact .inr (.inl ⟨_, e, (Option.some.inj h).symm⟩)
  · rename_i e; exact .inr (.inr ⟨_, e, (Option.some.inj h).symm⟩)
  · cases h
def tyNs : List String := ["NoneType", "bool", "int", "str", "list", "tuple", "dict"]
theorem tyN_mem {H : Hp} {x : V} {t : String} (h : tyN H x = some t) : t ∈ tyNs := by
  unfold tyN at h
  cases x <;> simp only [Option.some.injEq, reduceCtorEq] at h <;> try (subst h; decide)
  split at h <;> simp only [Option.some.injEq, reduceCtorEq] at h <;> (subst h; decide)
theorem tyN_ty {K : PySem.W.Frag} {H : Hp} {x : V} {t : String} (h : tyN H x = some t) : TyX K H x (.type t) := by
  unfold tyN at h
  cases x <;> simp only [Option.some.injEq, reduceCtorEq] at h
  · subst h; exact .base .non
  · subst h; exact .base (.bl _)
  · subst h; exact .base (.int _)
  · subst h; exact .base (.str _)
  · split at h <;> simp only [Option.some.injEq, reduceCtorEq] at h <;> subst h
    · rename_i e; exact .base (.lst e)
    · rename_i e; exact .base (.tup e)
    · rename_i e; exact .base (.dK e)
def isB (a b : String) : Bool := a == b || (a == "bool" && b == "int")
/-- isinstance(x, T), T of a built-in type -/
def cIsiB (T : String) : List V → Hp → VK → Prop := fun xs H Q => match xs with
  | [x, .ty T'] => T' = T ∧ match tyN H x with
    | some t => Q (.bl (isB t T)) H
    | none => False
  | _ => False
theorem isi_c (T : String) (hT : ∀ t ∈ tyNs, kitB t T = some (isB t T)) : CallR X (.builtin "isinstance") (cIsiB T) := by
  refine CallR_imp call_isi fun xs H Q q => ?_
  match xs, q with
  | [x, .ty T'], ⟨e, q⟩ =>
    subst e
    split at q
    · rename_i t e
      exact ⟨x, .ty T', .type t, .type T', _, rfl, .ty T', tyN_ty e, kit_ty (hT t (tyN_mem e)), q⟩
    · exact q.elim
theorem isi_int : CallR X (.builtin "isinstance") (cIsiB "int") := isi_c _ (by decide +kernel)
theorem isi_str : CallR X (.builtin "isinstance") (cIsiB "str") := isi_c _ (by decide +kernel)
theorem isi_bool : CallR X (.builtin "isinstance") (cIsiB "bool") := isi_c _ (by decide +kernel)
theorem isi_tuple : CallR X (.builtin "isinstance") (cIsiB "tuple") := isi_c _ (by decide +kernel)
/-- a class of one's own as isinstance wants it -/
structure InC (K : PySem.W.Frag) (C : Addr) : Prop where
  cl : Cls K C
  at_ : PySem.W.findIn K (.ref C) "__class__" = some (some (.builtin "object.__class__"))
  mro : PySem.W.mroIn K C (.type "object") = some true
  no : ∀ t ∈ tyNs, PySem.W.kitOne K (.type t) (.ref C) = some false
/-- isinstance(x, C) -/
def cIsiC (C : Addr) : List V → Hp → VK → Prop := fun xs H Q => match xs with
  | [x, .ref C'] => C' = C ∧ match x with
    | .ref a => match H a with
      | some (.ins D _ _) => D = C ∧ Q (.bl true) H
      | _ => match tyN H (.ref a) with
        | some _ => Q (.bl false) H
        | none => False
    | x => match tyN H x with
      | some _ => Q (.bl false) H
      | none => False
  | _ => False
end
section
variable {X : Cx}
theorem isi_own {C : Addr} (c : InC X.K C) (hn : PySem.W.specialIn X.K (.builtin "object.__class__") "__get__" = some (some (.builtin "getset_descriptor.__get__"))) (htk : PySem.W.takesIn X.K (.builtin "object.__class__") = some true) :
    CallR X (.builtin "isinstance") (cIsiC C) := by
  refine CallR_imp call_isi fun xs H Q q0 => ?_
  have other : ∀ x t, tyN H x = some t → Q (.bl false) H → rIsi X.K [x, .ref C] H Q := fun x t e q => ⟨x, .ref C, .type t, .ref C, false, rfl, .own C, tyN_ty e, c.no t (tyN_mem e), q⟩
  have kind : ∀ x, (match tyN H x with | some _ => Q (.bl false) H | none => False) → rIsi X.K [x, .ref C] H Q := fun x q => by
    split at q
    · rename_i t e
      exact other x t e q
    · exact q.elim
  match xs, q0 with
  | [x, .ref C'], ⟨e, q⟩ =>
    subst e
    cases x <;> try exact kind _ q
    rename_i a
    dsimp only at q
    split at q
    · rename_i D dx fs e
      obtain ⟨rfl, q⟩ := q
      exact ⟨.ref a, .ref D, .ref D, .ref D, true, rfl, .own D, .base (.ins e c.cl c.at_ hn htk c.mro), by simp [PySem.W.kitOne], q⟩
    · exact kind _ q
end
section
variable {X : Cx}
theorem pe_gi {x : Str} {n : Int} {pos : Pos} (h : ∃ t, X.mg x = some (.int n t)) (hg : Gl X x := by rfl) (hd : (x == ("__debug__" : Str)) = false := by decide) : PE X (.Name x pos) (tC (.int n)) := by
  obtain ⟨t, h⟩ := h
  exact pe_glob hg h ⟨t, rfl⟩ hd
theorem pe_gs {x z : Str} {pos : Pos} (h : ∃ t, X.mg x = some (.str z t)) (hg : Gl X x := by rfl) (hd : (x == ("__debug__" : Str)) = false := by decide) : PE X (.Name x pos) (tC (.str z)) := by
  obtain ⟨t, h⟩ := h
  exact pe_glob hg h ⟨t, rfl⟩ hd
/-- a place where ways meet: P is what holds behind the statement -/
def tCut (t : TS) : TS := fun D σ H => ∃ R : St → Hp → Prop, t { D with nx := R } σ H ∧ ∀ σ' H', R σ' H' → D.nx σ' H'
theorem SP_nx {pins : List (Addr × Obj)} {D : Ends} {R : St → Hp → Prop} (m : ∀ σ' H', R σ' H' → D.nx σ' H') {f : Flow} {s' : Shared} (h : SP X pins { D with nx := R } f s') : SP X pins D f s' := by
  cases f with
  | next =>
    obtain ⟨σ', H', I, q⟩ := h
    exact ⟨σ', H', I, m _ _ q⟩
  | brk => exact h
  | cont => exact h
  | ret u => exact h
theorem ps_cut {st : Stmt} {t : TS} (h : PS X st t) : PS X st (tCut t) := by
  refine ⟨fun pins s σ H D I q => ?_⟩
  obtain ⟨R, q, m⟩ := q
  exact thn (h.run pins s σ H { D with nx := R } I q) fun f s' z => SP_nx m z
/-- a place where ways meet in an expression -/
def eCut (t : TE) : TE := fun σ H Q => ∃ R : VK, t σ H R ∧ ∀ v H', R v H' → Q v H'
theorem pe_cut {e : Expr} {t : TE} (h : PE X e t) : PE X e (eCut t) := by
  refine ⟨fun pins s σ H Q I q => ?_⟩
  obtain ⟨R, q, m⟩ := q
  refine thn (h.run pins s σ H R I q) fun u s' z => ?_
  obtain ⟨v, H', I', r, z⟩ := z
  exact ⟨v, H', I', r, m _ _ z⟩
def aCut (t : TT) : TT := fun σ H Q => ∃ R : Bool → Hp → Prop, t σ H R ∧ ∀ v H', R v H' → Q v H'
theorem pt_cut {e : Expr} {t : TT} (h : PT X e t) : PT X e (aCut t) := by
  refine ⟨fun pins s σ H Q I q => ?_⟩
  obtain ⟨R, q, m⟩ := q
  refine thn (h.run pins s σ H R I q) fun u s' z => ?_
  obtain ⟨H', I', z⟩ := z
  exact ⟨H', I', m _ _ z⟩
end
theorem isB_NoneType_int : isB "NoneType" "int" = false := by decide
theorem isB_NoneType_str : isB "NoneType" "str" = false := by decide
theorem isB_NoneType_bool : isB "NoneType" "bool" = false := by decide
theorem isB_NoneType_tuple : isB "NoneType" "tuple" = false := by decide
theorem isB_bool_int : isB "bool" "int" = true := by decide
theorem isB_bool_str : isB "bool" "str" = false := by decide
theorem isB_bool_bool : isB "bool" "bool" = true := by decide
theorem isB_bool_tuple : isB "bool" "tuple" = false := by decide
theorem isB_int_int : isB "int" "int" = true := by decide
theorem isB_int_str : isB "int" "str" = false := by decide
theorem isB_int_bool : isB "int" "bool" = false := by decide
theorem isB_int_tuple : isB "int" "tuple" = false := by decide
theorem isB_str_int : isB "str" "int" = false := by decide
theorem isB_str_str : isB "str" "str" = true := by decide
theorem isB_str_bool : isB "str" "bool" = false := by decide
theorem isB_str_tuple : isB "str" "tuple" = false := by decide
theorem isB_list_int : isB "list" "int" = false := by decide
theorem isB_list_str : isB "list" "str" = false := by decide
theorem isB_list_bool : isB "list" "bool" = false := by decide
theorem isB_list_tuple : isB "list" "tuple" = false := by decide
theorem isB_tuple_int : isB "tuple" "int" = false := by decide
theorem isB_tuple_str : isB "tuple" "str" = false := by decide
theorem isB_tuple_bool : isB "tuple" "bool" = false := by decide
theorem isB_tuple_tuple : isB "tuple" "tuple" = true := by decide
theorem isB_dict_int : isB "dict" "int" = false := by decide
theorem isB_dict_str : isB "dict" "str" = false := by decide
theorem isB_dict_bool : isB "dict" "bool" = false := by decide
theorem isB_dict_tuple : isB "dict" "tuple" = false := by decide
theorem upd_at {H : Hp} {a b : Addr} {o : HO} : upd H a o b = if b = a then some o else H b := rfl
theorem atI0 (v : V) (xs : List V) : atI (v :: xs) 0 = some v := atI_nat (j := 0) rfl
theorem atI1 (v u : V) (xs : List V) : atI (v :: u :: xs) 1 = some u := atI_nat (j := 1) rfl
theorem ixN20 : ixN 2 0 = some 0 := by decide
theorem ixN21 : ixN 2 1 = some 1 := by decide
end L2.G
set_option Elab.async false
set_option linter.all false
set_option maxRecDepth 100000
set_option maxHeartbeats 2000000
namespace L2.G
open PySem PySem.Spec PyProof.Rows
section
variable {K : PySem.W.Frag} {t : TE} {g : TG} {tb : TS} {D : Ends} {σ : St} {H : Hp}
/-- for x in range(e) -/
theorem for_rngC (n : Nat) (ev : t σ H fun v H1 => v = .int n ∧ H1 = H) (hn : n < 2 ^ 62) (Pv : Nat → St → Hp → Prop) (h0 : Pv 0 σ H)
    (turn : ∀ (i : Nat) σ H, i < n → Pv i σ H → g (.int i) σ H fun σ2 H2 => tb { D with nx := Pv (i + 1), ct := Pv (i + 1), bk := D.nx } σ2 H2) (fin : ∀ σ H, Pv n σ H → D.nx σ H) :
    tFor (iRng1 (tCons (eCut t) tNil)) g tb D σ H := by
  refine ⟨_, ev, ?_⟩
  rintro _ _ ⟨rfl, rfl⟩
  have e : ((n : Int)).toNat = n := Int.toNat_natCast n
  refine ⟨n, rfl, by omega, by omega, ?_⟩
  rw [e]
  refine for_range (lo := 0) (n := n) Pv h0 (fun i σ H hi p => ?_) fin
  rw [Int.zero_add]
  exact turn i σ H hi p
/-- for x in e, a list -/
theorem for_lstC (R : VK) (ev : t σ H R) (go : ∀ v H1, R v H1 → ∃ (a : Addr) (xs : List V) (Pv : Nat → St → Hp → Prop), v = .ref a ∧ Pv 0 σ H1 ∧ (∀ i σ H, i ≤ xs.length → Pv i σ H → SqL K H a xs) ∧
      (∀ (i : Nat) x σ H, xs[i]? = some x → Pv i σ H → g x σ H fun σ2 H2 => tb { D with nx := Pv (i + 1), ct := Pv (i + 1), bk := D.nx } σ2 H2) ∧ ∀ σ H, Pv xs.length σ H → D.nx σ H) :
    tFor (iList K (eCut t)) g tb D σ H := by
  refine ⟨R, ev, fun v H1 r => ?_⟩
  obtain ⟨a, xs, Pv, rfl, h0, hl, turn, fin⟩ := go v H1 r
  exact ⟨a, rfl, ⟨xs, hl 0 _ _ (Nat.zero_le _) h0⟩, for_list Pv h0 hl turn fin⟩
theorem for_tupC (R : VK) (ev : t σ H R) (go : ∀ v H1, R v H1 → ∃ (a : Addr) (xs : List V) (Pv : Nat → St → Hp → Prop), v = .ref a ∧ Pv 0 σ H1 ∧ (∀ i σ H, i ≤ xs.length → Pv i σ H → SqT K H a xs) ∧
      (∀ (i : Nat) x σ H, xs[i]? = some x → Pv i σ H → g x σ H fun σ2 H2 => tb { D with nx := Pv (i + 1), ct := Pv (i + 1), bk := D.nx } σ2 H2) ∧ ∀ σ H, Pv xs.length σ H → D.nx σ H) :
    tFor (iTup K (eCut t)) g tb D σ H := by
  refine ⟨R, ev, fun v H1 r => ?_⟩
  obtain ⟨a, xs, Pv, rfl, h0, hl, turn, fin⟩ := go v H1 r
  exact ⟨a, rfl, ⟨xs, hl 0 _ _ (Nat.zero_le _) h0⟩, for_tup Pv h0 hl turn fin⟩
variable {te : TE} {j : Nat} {Q : VK}
theorem wipe1 (σ : St) (j : Nat) (v : Option V) : wipe ((wipe σ [j]).set j v) [j] = wipe σ [j] := by
  show ((σ.set j none).set j v).set j none = σ.set j none
  rw [List.set_set, List.set_set]
/-- [e for x in range(n)], no test -/
theorem lc_rngC (n : Nat) (ev : t σ H fun v H1 => v = .int n ∧ H1 = H) (hn : n < 2 ^ 62)
    (go : ∀ L, H L = none → ∃ Pv : Nat → Hp → Prop, Pv 0 (upd H L (.lst [])) ∧ (∀ (i : Nat) H', i < n → Pv i H' → te ((wipe σ [j]).set j (some (.int i))) H' fun y H4 => ∃ acc, H4 L = some (.lst acc) ∧ acc.length < sizeLine ∧ Pv (i + 1) (upd H4 L (.lst (acc ++ [y])))) ∧ ∀ H', Pv n H' → Q (.ref L) H') :
    tLc (iRng1 (tCons (eCut t) tNil)) (gName j) tYes te [j] σ H Q := by
  refine ⟨_, ev, ?_⟩
  rintro _ _ ⟨rfl, rfl⟩
  have e : ((n : Int)).toNat = n := Int.toNat_natCast n
  refine ⟨n, rfl, by omega, by omega, fun L hL => ?_⟩
  obtain ⟨Pv, h0, turn, fin⟩ := go L hL
  rw [e]
  refine lc_range (lo := 0) (n := n) Pv h0 (fun i H' hi p => ?_) fin
  rw [Int.zero_add]
  refine ⟨wipe1 _ _ _, ?_⟩
  simp only [tYes, if_true]
  exact turn i H' hi p
/-- [e for x in text], no test -/
theorem lc_strC (z : Str) (ev : t σ H fun v H1 => v = .str z ∧ H1 = H)
    (go : ∀ L, H L = none → ∃ Pv : Nat → Hp → Prop, Pv 0 (upd H L (.lst [])) ∧ (∀ (i c : Nat) H', z.cps[i]? = some c → Pv i H' → te ((wipe σ [j]).set j (some (.str ⟨#[c]⟩))) H' fun y H4 => ∃ acc, H4 L = some (.lst acc) ∧ acc.length < sizeLine ∧ Pv (i + 1) (upd H4 L (.lst (acc ++ [y])))) ∧ ∀ H', Pv z.cps.size H' → Q (.ref L) H') :
    tLc (iStr (eCut t)) (gName j) tYes te [j] σ H Q := by
  refine ⟨_, ev, ?_⟩
  rintro _ _ ⟨rfl, rfl⟩
  refine ⟨z, rfl, fun L hL => ?_⟩
  obtain ⟨Pv, h0, turn, fin⟩ := go L hL
  refine lc_it walk_str Pv h0 (fun _ _ _ _ => trivial) (fun i x H' H'' hi p y => ?_) fin
  obtain ⟨rfl, c, hc, rfl⟩ := y
  refine ⟨wipe1 _ _ _, ?_⟩
  simp only [tYes, if_true]
  exact turn i c _ hc p
theorem same_mut {H H' : Hp} {p : Addr} {o : HO} (e : Same H H') (h : H p = none) : Same H (upd H' p o) := fun a u ha => by
  rw [upd_ne (ne_of_none ha h)]
  exact e a u ha
theorem same_new {H : Hp} {p : Addr} {o : HO} (h : H p = none) : Same H (upd H p o) := same_mut (Same.refl H) h
/-- [e for x in range(n)] whose element is a function of x and leaves what stands -/
theorem lc_rng_map (n : Nat) (f : Nat → V) (ev : t σ H fun v H1 => v = .int n ∧ H1 = H) (hn : n < 100000)
    (el : ∀ (i : Nat), i < n → ∀ (H' : Hp) (R : VK), Same H H' → (∀ H4, Same H' H4 → R (f i) H4) → te ((wipe σ [j]).set j (some (.int i))) H' R)
    (fin : ∀ L H', H L = none → Same H H' → H' L = some (.lst ((List.range n).map f)) → Q (.ref L) H') : tLc (iRng1 (tCons (eCut t) tNil)) (gName j) tYes te [j] σ H Q := by
  refine lc_rngC n ev (by omega) fun L hL => ⟨fun i H' => Same H H' ∧ H' L = some (.lst ((List.range i).map f)), ⟨same_new hL, upd_same⟩, fun i H' hi p => ?_, fun H' p => fin L H' hL p.1 p.2⟩
  refine el i hi H' _ p.1 fun H4 s4 => ⟨_, s4 _ _ p.2, ?_, same_mut (p.1.trans s4) hL, ?_⟩
  · rw [List.length_map, List.length_range]
    exact Nat.lt_of_lt_of_le (Nat.lt_trans hi hn) (by decide)
  · rw [upd_same, List.range_succ, List.map_append]
    rfl
/-- [e for x in text] likewise -/
theorem lc_str_map (z : Str) (f : Nat → V) (ev : t σ H fun v H1 => v = .str z ∧ H1 = H) (hn : z.cps.size < 100000)
    (el : ∀ (c : Nat), c ∈ z.cps.toList → ∀ (H' : Hp) (R : VK), Same H H' → (∀ H4, Same H' H4 → R (f c) H4) → te ((wipe σ [j]).set j (some (.str ⟨#[c]⟩))) H' R)
    (fin : ∀ L H', H L = none → Same H H' → H' L = some (.lst (z.cps.toList.map f)) → Q (.ref L) H') : tLc (iStr (eCut t)) (gName j) tYes te [j] σ H Q := by
  refine lc_strC z ev fun L hL => ⟨fun i H' => Same H H' ∧ H' L = some (.lst ((z.cps.toList.take i).map f)), ⟨same_new hL, upd_same⟩, fun i c H' hi p => ?_, fun H' p => fin L H' hL p.1 ?_⟩
  · have hi' : z.cps.toList[i]? = some c := by rw [Array.getElem?_toList]; exact hi
    have hlt : i < z.cps.toList.length := (List.getElem?_eq_some_iff.mp hi').1
    refine el c (List.mem_of_getElem? hi') H' _ p.1 fun H4 s4 => ⟨_, s4 _ _ p.2, ?_, same_mut (p.1.trans s4) hL, ?_⟩
    · rw [List.length_map, List.length_take]
      have : z.cps.toList.length = z.cps.size := Array.length_toList
      exact Nat.lt_of_lt_of_le (show min i _ < 100000 by omega) (by decide)
    · rw [upd_same, List.take_succ, List.map_append, hi']
      rfl
  · have h2 := p.2
    rw [← Array.length_toList, List.take_length] at h2
    exact h2
end
theorem joinL_signs : ∀ l : List Nat, TL.joinL [] (l.map fun c => [c]) = l
  | [] => rfl
  | [_] => rfl
  | a :: b :: l => by
    have h := joinL_signs (b :: l)
    simp only [List.map_cons, TL.joinL] at h ⊢
    rw [h]
    rfl
theorem join_signs (l : List Nat) : Txt.join "" (l.map fun c => (⟨#[c]⟩ : Str)) = ⟨l.toArray⟩ := by
  have h := SX.join_S [] (l.map fun c => [c])
  rw [joinL_signs, List.map_map] at h
  exact h
/-- "".join of signs -/
def cJoin : V → List V → Hp → VK → Prop := fun x xs H Q => ∃ (p : Addr) (l : List Nat), x = .str "" ∧ xs = [.ref p] ∧ H p = some (.lst (l.map fun c => .str ⟨#[c]⟩)) ∧ l.length ≤ 100000 ∧ Q (.str ⟨l.toArray⟩) H
theorem join_c {X : Cx} : MtR X "str.join" cJoin := by
  intro pins s σ H x xs v us Q I rx rs h
  obtain ⟨p, l, rfl, rfl, hp, hl, q⟩ := h
  refine mt_join pins s σ H _ _ v us Q I rx rs ⟨"", p, l.map fun c => ⟨#[c]⟩, rfl, rfl, .inl (.inl (.inl ?_)), ?_, ?_⟩
  · rw [hp, List.map_map]
    rfl
  · have e : ((l.map fun c => (⟨#[c]⟩ : Str)).map (·.length)).sum = l.length := by
      rw [List.map_map]
      clear hp q hl
      induction l with
      | nil => rfl
      | cons a l ih =>
        rw [List.map_cons, List.sum_cons, ih, List.length_cons]
        show 1 + l.length = _
        omega
    rw [e]
    have e0 : ("" : Str).length = 0 := rfl
    rw [e0]
    omega
  · rw [join_signs]
    exact q
theorem atI_mod (l : List Nat) (i : Int) (h : 0 < l.length) : atI l (i % (l.length : Int)) = some (l.getD (i % (l.length : Int)).toNat 0) := by
  have h0 : 0 ≤ i % (l.length : Int) := Int.emod_nonneg _ (by omega)
  have h1 : i % (l.length : Int) < l.length := Int.emod_lt_of_pos _ (by omega)
  have hi : (i % (l.length : Int)).toNat < l.length := by omega
  have e : atI l (((i % (l.length : Int)).toNat : Nat) : Int) = some (l.getD (i % (l.length : Int)).toNat 0) := atI_nat (by rw [List.getD_eq_getElem?_getD, List.getElem?_eq_getElem hi]; rfl)
  rwa [Int.toNat_of_nonneg h0] at e
theorem scal_ss (a b : Str) : scal (.str a) (.str b) = true := rfl
theorem scal_ii (a b : Int) : scal (.int a) (.int b) = true := rfl
theorem scal_bb (a b : Bool) : scal (.bl a) (.bl b) = true := rfl
theorem scal_nn : scal .non .non = true := rfl
end L2.G
set_option Elab.async false
set_option linter.all false
set_option maxRecDepth 100000
set_option maxHeartbeats 2000000
namespace L2.G
open PySem PySem.Spec PyProof.Rows
section
variable {X : Cx}
/-- repr of an int or None -/
def cRepr : List V → Hp → VK → Prop := fun xs H Q => match xs with
  | [.int i] => i.natAbs.log2 < 1920 ∧ Q (.str (Str.ofString (toString i))) H
  | [.non] => Q (.str (Str.ofString "None")) H
  | _ => False
theorem repr_c : CallR X (.builtin "repr") cRepr := by
  intro pins s σ H xs us Q I r h
  match xs, r, h with
  | [.int i], r, h =>
    obtain ⟨u, rfl, t, rfl⟩ := vals1 r
    exact PySem.P.repr_of_int h.1 ⟨.str _, H, I.tok _, ⟨_, rfl⟩, h.2⟩
  | [.non], r, h =>
    obtain ⟨u, rfl, ru⟩ := vals1 r
    cases (show u = Value.none from ru)
    exact PySem.P.repr_of_none ⟨.str _, H, I.tok _, ⟨_, rfl⟩, h⟩
structure CalK (P : Program) (w : World) (K : PySem.W.Frag) (mg : Str → Option Value) (base : Heap) (k : Nat) (x : Str) (ks : List Str) (gV : List V → List V → List V) (sp : Sp) : Prop where
  ex : ∃ (f : Addr) (fd : FuncData) (ps : List Str) (g : List Value → List Value → List Value), FnOk P w K mg base CX0 k f fd ps sp ∧ mg x = some (.ref f) ∧ PySem.W.keepIn K (.ref f) = true ∧ KBn K fd ps 0 ks g gV
variable {k j : Nat} {sp : Sp} {x : Str} {p pos : Pos} {tk : TA} {kws : List Keyword} {ks : List Str} {gV : List V → List V → List V}
/-- f(k = v, ..) -/
def tCallK0 (n : Nat) (sp : Sp) (gV : List V → List V → List V) (tk : TA) : TE := fun σ H Q => tk σ H fun zs H2 => zs.length = n ∧ sp (gV [] zs) H2 Q E0
theorem pe_cK0 (c : CalK X.prog X.w X.K X.mg X.base k x ks gV sp) (hr : Room j X.A) (hk : k ≤ j) (hg : Gl X x) (hkw : PK X kws tk)
    (hall : (backToKw pos (keywordEach kws X.env)).all (·.1.isSome) = true := by rfl) (hks : (backToKw pos (keywordEach kws X.env)).filterMap (·.1) = ks := by rfl) (hdb : (x == ("__debug__" : Str)) = false := by decide)
    (hpl : ((backTo pos (starEach [] X.env)).any (·.1) || (backToKw pos (keywordEach kws X.env)).any (·.1.isNone)) = false := by rfl) :
    PE X (.Call (.Name x p) [] kws pos) (tCallK0 ks.length sp gV tk) := by
  obtain ⟨f, fd, ps, g, F, hm, kp, b⟩ := c.ex
  refine ⟨fun pins s σ H Q I h => wpAny_Call_Name_kw (ld_glob I hg hm ?_ hdb)⟩
  refine PySem.W.callWith_KW0 (h₀ := X.base) I.ok.mod.kin kp hall (thn (hkw.run pos pins s σ H _ I h) fun ws s2 hz => ?_) hpl
  obtain ⟨zs, H2, I2, rz, l2, q2⟩ := hz
  refine ⟨I2.kIn, ?_⟩
  rw [hks]
  exact run_fnN (vs := []) F (hr.mono hk) b pass0 I2 .nil rz rfl l2 q2
end
section
variable {t : TE} {σ : St} {H : Hp} {te : TE} {j : Nat} {Q : VK}
/-- [e for x in range(n)], n reckoned by steps that change things -/
theorem lc_rngR (R : VK) (ev : t σ H R) (go : ∀ v H1, R v H1 → ∃ n : Nat, v = .int n ∧ n < 2 ^ 62 ∧ ∀ L, H1 L = none → ∃ Pv : Nat → Hp → Prop, Pv 0 (upd H1 L (.lst [])) ∧
      (∀ (i : Nat) H', i < n → Pv i H' → te ((wipe σ [j]).set j (some (.int i))) H' fun y H4 => ∃ acc, H4 L = some (.lst acc) ∧ acc.length < sizeLine ∧ Pv (i + 1) (upd H4 L (.lst (acc ++ [y])))) ∧ ∀ H', Pv n H' → Q (.ref L) H') :
    tLc (iRng1 (tCons (eCut t) tNil)) (gName j) tYes te [j] σ H Q := by
  refine ⟨R, ev, fun v H1 r => ?_⟩
  obtain ⟨n, rfl, hn, go⟩ := go v H1 r
  have e : ((n : Int)).toNat = n := Int.toNat_natCast n
  refine ⟨n, rfl, by omega, by omega, fun L hL => ?_⟩
  obtain ⟨Pv, h0, turn, fin⟩ := go L hL
  rw [e]
  refine lc_range (lo := 0) (n := n) Pv h0 (fun i H' hi p => ?_) fin
  rw [Int.zero_add]
  refine ⟨wipe1 _ _ _, ?_⟩
  simp only [tYes, if_true]
  exact turn i H' hi p
end
end L2.G
set_option Elab.async false
set_option linter.all false
set_option maxRecDepth 100000
set_option maxHeartbeats 2000000
namespace L2.G
open PySem PySem.Spec PyProof.Rows L2H
section
variable {X : Cx}
/-! a comprehension while an exception is handled: its block keeps the pins of the def -/
abbrev hblk (X : Cx) (s : Shared) (H : Hp) (sc : Scope) (ce : Env) (fp : List Addr) : Cx := { X.blk s H sc ce fp with pn := X.pn }
abbrev henv (X : Cx) (s : Shared) (sc : Scope) : Env :=
  compEnvC sc (cellsFrom (s.heap.objs.size + 1) sc.names (cloFrom X.env.cells sc.names [])) s.heap.objs.size X.env
abbrev hst (s : Shared) (sc : Scope) : Shared :=
  { s with heap := pushCells (s.heap.push { cls := .type "dict", data := .dict #[] }) sc.names }
theorem hblk_inv {pins : List (Addr × Obj)} {σ : St} {H : Hp} {s : Shared} {sc : Scope} {own : List (Str × Nat)} {fp : List Addr}
    (I : Inv X pins σ H s) (ok : BlkOk X.N X.env.scope sc own) (nd : X.N.Nodup)
    (hfp : ∀ b ∈ fp, FpOk X pins H b ∧ b < s.heap.objs.size) :
    Inv (hblk X s H sc (henv X s sc) fp) [] (wipe σ (own.map (·.2))) H (hst s sc) := by
  have B := block_start I ok nd hfp
  have O := B.ok
  refine ⟨⟨O.mod, O.kind, O.glob, O.blt, O.above, O.inj, O.has, O.cab, O.hd, O.frames, O.stk, O.exf, O.bs, O.bsz, O.noex, O.exfs, O.funs, O.frf⟩,
    B.os, B.bare, B.base, B.loc, B.cell, B.free, B.freeC, ?_, B.hok, B.len⟩
  intro p hp
  have hp' : p ∈ X.pn := by simpa using hp
  obtain ⟨g, n, l, f, c⟩ := I.pin p (List.mem_append_left _ hp')
  refine ⟨pushCells_keeps _ _ _ _ (Heap.get?_push_of_some _ g), n, Nat.ne_of_lt (Heap.lt_size g), fun z => ?_, c⟩
  rcases List.mem_cons.mp (I.stkSub p.1 z) with z | z
  · exact l z
  · exact f z
theorem pe_lcH {elt tg iter : Expr} {ifs : List Expr} {sc : Scope} {own : List (Str × Nat)} {pos : Pos} {wi : TI} {g : TG} {tt : TT} {te : TE}
    (hot : HotC X) (nd : X.N.Nodup) (hi : PIH X tg iter wi) (ok : BlkOk X.N X.env.scope sc own)
    (hg : ∀ (s : Shared) (H : Hp) (C : Addr) (cl : List (Str × Addr)) (fp : List Addr), PG (hblk X s H sc (compEnvC sc cl C X.env) fp) tg g)
    (ht : ∀ (s : Shared) (H : Hp) (C : Addr) (cl : List (Str × Addr)) (fp : List Addr), PTs (hblk X s H sc (compEnvC sc cl C X.env) fp) ifs tt)
    (he : ∀ (s : Shared) (H : Hp) (C : Addr) (cl : List (Str × Addr)) (fp : List Addr), PE (hblk X s H sc (compEnvC sc cl C X.env) fp) elt te)
    (hs : ∀ x, foldedSetIterable iter X.env x = pure x := by intro _; rfl) :
    PE X (.ListComp elt [⟨tg, iter, ifs, 0⟩] sc pos) (tLc wi g tt te (own.map (·.2))) := by
  refine ⟨fun pins s σ H Q I h => ?_⟩
  rw [eval_ListComp]
  have cap : ∀ y ∈ sc.names, y.2 = .free → ∃ c, X.env.cells.lookup y.1 = some c :=
    fun y hy e => (ok.free y hy e).elim (fun k => I.ok.has _ (.inl k)) (fun k => I.ok.has _ (.inr k))
  refine wpAny_comprehension_free (use := none) rfl hs (closure_ok cap) ok.kind (fun y hy e => by rw [ok.uniq y hy, e]) ?_
  refine thn (hi.run pins s σ H _ I h) fun xv sA hA => thn hA fun iv sB hB => ?_
  obtain ⟨it, fp, tn, J, HB, rfl, IB, T, tB, fB, q⟩ := hB
  refine wpAny_newObj_type (newEnv_comp ?_) (by show 0 ≤ sizeLine; decide)
  obtain ⟨W, ⟨m0, w0⟩, turn⟩ := q sB.heap.objs.size (IB.hok.fresh (Nat.le_refl _))
  -- the new list stands in the state sC
  have hC : ∃ sC : Shared, sC = { sB with heap := sB.heap.push { cls := .type "list", data := .seq ([] : List Value).toArray } } := ⟨_, rfl⟩
  obtain ⟨sC, eC⟩ := hC
  have zC : sC.heap.objs.size = sB.heap.objs.size + 1 := by rw [eC]; exact Heap.size_push ..
  have up : ∀ b o, sB.heap.get? b = some o → sC.heap.get? b = some o := fun b o z => by rw [eC]; exact Heap.get?_push_of_some _ z
  have IC : Inv X pins σ (upd HB sB.heap.objs.size (.lst [])) sC := by
    rw [eC]
    exact IB.laid (t' := sB.toks) (fun b o z => Heap.get?_push_of_some _ z) (Nat.le_refl _) ⟨Nat.zero_le _, [], 0, .nil, Heap.get?_push_size _ rfl⟩
  have fC : ∀ b ∈ fp, FpOk X pins (upd HB sB.heap.objs.size (.lst [])) b ∧ b < sC.heap.objs.size := fun b hb => by
    obtain ⟨o, z, _⟩ := T.obj _ _ tB b hb
    have lt := Heap.lt_size z
    exact ⟨⟨by rw [upd_ne (Nat.ne_of_lt lt)]; exact (fB b hb).1, (fB b hb).2⟩, by rw [zC]; exact Nat.lt_succ_of_lt lt⟩
  have ID := hblk_inv IC ok nd fC
  have tD : tn 0 (hst sC sc).heap := T.keep _ _ _ tB fun b _ o z => pushCells_keeps _ _ _ _ (Heap.get?_push_of_some _ (up b o z))
  have pg : PG (hblk X sC (upd HB sB.heap.objs.size (.lst [])) sc (henv X sC sc) fp) tg g := hg sC (upd HB sB.heap.objs.size (.lst [])) sC.heap.objs.size (cellsFrom (sC.heap.objs.size + 1) sc.names (cloFrom X.env.cells sc.names [])) fp
  have pt : PTs (hblk X sC (upd HB sB.heap.objs.size (.lst [])) sc (henv X sC sc) fp) ifs tt := ht sC (upd HB sB.heap.objs.size (.lst [])) sC.heap.objs.size (cellsFrom (sC.heap.objs.size + 1) sc.names (cloFrom X.env.cells sc.names [])) fp
  have pe : PE (hblk X sC (upd HB sB.heap.objs.size (.lst [])) sc (henv X sC sc) fp) elt te := he sC (upd HB sB.heap.objs.size (.lst [])) sC.heap.objs.size (cellsFrom (sC.heap.objs.size + 1) sc.names (cloFrom X.env.cells sc.names [])) fp
  rw [← eC]
  show codeAny _ _ (.compStart (.ListComp elt [⟨tg, iter, ifs, 0⟩] sc pos) 0 (.ref it) (.ref sB.heap.objs.size) (henv X sC sc)) (compPost (model X.prog X.w) X.A X.xe none (EP X pins σ Q) (.ref sB.heap.objs.size) sC.heap.objs.size) (hst sC sc)
  have Lc : (henv X sC sc).locals = sC.heap.objs.size := rfl
  generalize sB.heap.objs.size = D at *
  generalize henv X sC sc = ce at *
  generalize hst sC sc = sD at *
  generalize upd HB D (.lst []) = HC at *
  have Y : ∃ Y, Y = hblk X sC HC sc ce fp := ⟨_, rfl⟩
  have hotY : HotC (hblk X sC HC sc ce fp) := hot
  have fine : ∀ {σ' : St} {H' : Hp} {s' : Shared}, Inv (hblk X sC HC sc ce fp) [] σ' H' s' → (∀ b ∈ fp, H' b = none) → ∀ b ∈ fp, FpOk (hblk X sC HC sc ce fp) [] H' b := fun {σ' H' s'} J' hn b hb => by
    refine ⟨hn b hb, (J'.ok.exf b hb).1, J'.ok.exfs b hb, .inl hb, fun x c e => (J'.ok.exf b hb).2 x c e, fun p hp z => ?_⟩
    exact (fC b hb).1.2.2.2.2.2 p (List.mem_append_left _ (by simpa using hp)) z
  have loop : codeAny (model X.prog X.w) X.A (.compLoop (.ListComp elt [⟨tg, iter, ifs, 0⟩] sc pos) 0 (.ref it) (.ref D) ce) (compPost (model X.prog X.w) X.A X.xe none (EP X pins σ Q) (.ref D) sC.heap.objs.size) sD := by
    refine compLoop_any (fun n s' => ∃ i H', Inv (hblk X sC HC sc ce fp) [] (wipe σ (own.map (·.2))) H' s' ∧ tn i s'.heap ∧ (∀ b ∈ fp, H' b = none) ∧ W i n H') ?_ m0 ⟨0, HC, ID, tD, fun b hb => (fC b hb).1.1, w0⟩
    rintro n s1 ⟨i, H1, I1, t1, n1, w1⟩
    rcases turn i n H1 w1 with ⟨stop, qq⟩ | ⟨go, Nx, hN, step⟩
    · refine thnF (T.done (hblk X sC HC sc ce fp) rfl rfl rfl hotY i [] s1 _ H1 (fun _ _ => False) I1 (fine I1 n1) t1 stop) ?_
      rintro r s2 ⟨rfl, I2⟩
      have I3 : Inv X pins σ H1 s2 := IC.call' (ch := fp) I2.os I2.base I2.hok I2.bare fun b hb =>
        let z := (fC b hb).1.2
        ⟨z.2.2.1, z.1, z.2.2.2.1, z.2.2.2.2⟩
      obtain ⟨m, hn, _⟩ := I2.loc
      have hn : s2.heap.Ns ce.locals m := hn
      have nL : H1 ce.locals = none := I2.free
      rw [Lc] at hn nL
      refine ⟨m, hn, fun h' sb => ?_⟩
      obtain ⟨f0, f1, f2, f3, f4, f5⟩ := IC.fpOk (Nat.le_refl _) nL
      exact ⟨.ref D, H1, I3.turned (t' := s2.toks) (fun b o hb e => (sb.2 b hb).trans e) f0 f1 f3 f4 f5, rfl, qq⟩
    · refine thnF (T.item (hblk X sC HC sc ce fp) rfl rfl rfl hotY i [] s1 _ H1 (fun _ _ => False) I1 (fine I1 n1) t1 go) ?_
      rintro r s2 ⟨u, rfl, h2⟩
      refine thnF h2 ?_
      rintro _ s3 ⟨x, H3, I3, r3, y3, t3, n3⟩
      have P3 := I3.pinned (fine I3 n3) (T.obj _ _ t3)
      refine thnF (pg.run _ s3 _ H3 x u _ P3 r3 (step x H3 y3)) ?_
      rintro _ s4 ⟨σ4, H4, I4, e4, q4⟩
      refine thnF (pt.run _ s4 σ4 H4 _ I4 q4) ?_
      rintro b s5 ⟨H5, I5, q5⟩
      have next : ∀ {s' : Shared} {H' : Hp}, Inv (hblk X sC HC sc ce fp) ([] ++ pinsAt fp s3.heap) σ4 H' s' → Nx H' →
          ∃ m, m < n ∧ ∃ i H', Inv (hblk X sC HC sc ce fp) [] (wipe σ (own.map (·.2))) H' s' ∧ tn i s'.heap ∧ (∀ b ∈ fp, H' b = none) ∧ W i m H' := by
        intro s' H' I' nx
        obtain ⟨m', lt, w'⟩ := hN H' nx
        have pn' : ∀ b ∈ fp, ∀ o, s3.heap.get? b = some o → s'.heap.get? b = some o ∧ H' b = none := fun b hb o e => by
          have z := I'.pin (b, o) (List.mem_append_right _ (List.mem_append_right _ (mem_pinsAt hb e)))
          exact ⟨z.1, z.2.1⟩
        refine ⟨m', lt, i + 1, H', (I'.unpinned (pins := [])).weak (by rw [← e4, wipe_length]) (fun j v e => ?_), T.keep _ _ _ t3 fun b hb o e => (pn' b hb o e).1, fun b hb => ?_, w'⟩
        · rw [← e4] at e
          exact (wipe_some e).1
        · obtain ⟨o, e, _⟩ := T.obj _ _ t3 b hb
          exact (pn' b hb o e).2
      cases b with
      | false => exact next I5 (by simpa using q5)
      | true =>
        have q5 := (by simpa using q5)
        refine thnF (pe.run _ s5 σ4 H5 _ I5 q5) ?_
        rintro z s6 ⟨yv, H6, I6, r6, acc, a6, l6, nx⟩
        exact app_ok (X := hblk X sC HC sc ce fp) I6 a6 l6 r6 fun s7 I7 => next I7 nx
  exact codeAny_compStart_list loop (T.self X.A 0 _ _ _ tD loop)
end
end L2.G
set_option Elab.async false
set_option linter.all false
set_option maxRecDepth 100000
set_option maxHeartbeats 2000000
namespace L2.G
open PySem PySem.Spec PyProof.Rows L2H
/-! try .. except (A, B, C) as n, every exception of the body among them -/
theorem fly_up {B h h' : Heap} {l : List Env} {a : Addr} {Z : Obj → Prop} (f : HandSPX.FlyingZ B l a Z h) (k : ∀ b o, h.get? b = some o → h'.get? b = some o) :
    HandSPX.FlyingZ B l a Z h' := by
  obtain ⟨f1, f2, f3, oe, vs, T, oT, ts, g1, g2, g3, g4, g5, g6, g7, g8⟩ := f
  exact ⟨fun b o z => k b o (f1 b o z), f2, f3.of_keeps fun b o z _ => ⟨o, k b o z, rfl⟩, oe, vs, T, oT, ts, k _ _ g1, g2, g3, g4, g5, g6, k _ _ g7, g8⟩
/-- the ends of a try seen from its suite: the name of slot i goes -/
def endsAs (i : Nat) (D : Ends) : Ends where
  nx := fun σ H => D.nx (σ.set i none) H
  rt := D.rt
  bk := fun σ H => D.bk (σ.set i none) H
  ct := fun σ H => D.ct (σ.set i none) H
def wAs3 (K : PySem.W.Frag) (cs : List Value) (i : Nat) (ts : Addr → Value → Option Addr → TS) (D : Ends) : WX := fun cls d σ H =>
  PySem.W.exmAny K cls cs = some true ∧ ∀ a, H a = none → ts a cls d (endsAs i D) (σ.set i (some (.ref a))) H
section
variable {X : Cx} {n x1 x2 x3 : Str} {C1 C2 C3 : Addr} {i kk : Nat} {body suite : List Stmt} {b₀ : Stmt} {p1 p2 p3 tp pos pos' : Pos} {tb : WX → TS} {ts : Addr → Value → Option Addr → TS}
theorem ps_try_as3 (hs : X.stack = X.env :: X.outer) (hf : X.env.frame = some X.env.locals) (nd : X.N.Nodup) (hi : X.N[i]? = some n) (hl : X.env.kindOf n = some .local)
    (g1 : Gl X x1) (m1 : X.mg x1 = some (.ref C1)) (g2 : Gl X x2) (m2 : X.mg x2 = some (.ref C2)) (g3 : Gl X x3) (m3 : X.mg x3 = some (.ref C3))
    (hb : ∀ (W : WX) (pn : List (Addr × Obj)) (xe : Value → Shared → Prop), L2N.Takes (X.tr pn xe) W → PSs (X.tr pn xe) body (tb W))
    (hsu : ∀ (a : Addr) (oe : Obj) (cls : Value) (d : Option Addr) (pn : List (Addr × Obj)), L2N.Zn cls d oe → (∃ vs, oe.data = .fields vs) → PSs (X.suite a ((a, oe) :: pn)) (b₀ :: suite) (ts a cls d))
    (d1 : (x1 == ("__debug__" : Str)) = false := by decide) (d2 : (x2 == ("__debug__" : Str)) = false := by decide) (d3 : (x3 == ("__debug__" : Str)) = false := by decide) :
    PS X (.Try body [.ExceptHandler (some (.Tuple [.Name x1 p1, .Name x2 p2, .Name x3 p3] kk tp)) (some n) (b₀ :: suite) pos'] [] [] pos)
      (fun D σ H => tb (wAs3 X.K [.ref C1, .ref C2, .ref C3] i ts D) D σ H) := by
  constructor
  intro pins s σ H D I h
  have ok := I.ok
  have fr : X.A.frames = some (X.env :: X.outer) := ok.frames.trans (by rw [hs])
  refine wpAny_Try_except ?_
  refine wpAny_mono ((hb (wAs3 X.K [.ref C1, .ref C2, .ref C3] i ts D) (X.pn ++ pins) _ ?_).run [] s σ H D (I.toTry _) h) ?_ (fun _ _ z => z)
  · -- caught
    rintro u s1 ⟨a, B, sI, pins1, σ1, H1, cls, d, rfl, J0, nb, up, sky, na, os, ag, yes, go⟩
    have J : Inv X pins σ1 H1 sI := J0.ofTry ok
    rw [show (X.tr (X.pn ++ pins) _).stack = X.env :: X.outer from hs] at sky
    refine L2N.Sky.land L2N.Zn.steady fr hf sky fun h2 fl up2 => ?_
    have J2 : Inv X pins σ1 H1 { s1 with heap := h2 } := J.landed nb fl.1 (up.trans up2) os ag
    obtain ⟨oe, vs, he, hz, hd⟩ := fl.there
    have off : a ∉ frs (X.env :: X.outer) := fun z => by
      obtain ⟨_, o, eo, no⟩ := fl.2.2.1.mem z
      rw [he] at eo
      cases eo
      exact no _ hd
    have nL : a ≠ X.env.locals := fun z => off (List.mem_filterMap.mpr ⟨X.env, .head _, by rw [hf, z]⟩)
    have nF : a ∉ X.fs := fun z => by
      obtain ⟨e, me, q⟩ := List.mem_filterMap.mp z
      exact off (List.mem_filterMap.mpr ⟨e, .tail _ me, q⟩)
    have S2 := J2.suite he hd na nL nF
    refine wpAny_handleBy_cons (codeAny_handlers_test ?_) (by intro q; cases q)
    refine wpAny_Tuple (wpAny_items_cons (ld_glob (X := X.suite a ((a, oe) :: (X.pn ++ pins))) S2 g1 m1 ?_ d1))
    refine wpAny_items_cons (ld_glob (X := X.suite a ((a, oe) :: (X.pn ++ pins))) S2 g2 m2 ?_ d2)
    refine wpAny_items_cons (ld_glob (X := X.suite a ((a, oe) :: (X.pn ++ pins))) S2 g3 m3 ?_ d3)
    refine wpAny_items_nil ⟨by size_fits, ?_⟩
    have kp : ∀ b o, h2.get? b = some o → (h2.push { cls := .type "tuple", data := .seq [Value.ref C1, .ref C2, .ref C3].toArray }).get? b = some o := fun b o z => Heap.get?_push_of_some _ z
    have ty : PySem.W.Looks (model X.prog X.w) h2 (typeOf (.ref a)) cls := fun A Q E s k q => wpAny_typeOf_ref (k _ _ he) (by rw [hz.1]; exact q)
    refine (PySem.W.exm_tup3 (M := model X.prog X.w) (J2.kIn.keeps kp) (ty.keeps kp) (Heap.get?_push_size h2 rfl) yes).here ?_
    refine codeAny_handlers_suite_as (HandSPX.lands_againZ (s := { s1 with heap := h2.push { cls := .type "tuple", data := .seq [Value.ref C1, .ref C2, .ref C3].toArray } }) (fly_up fl kp) fun h3 fl3 up3 => ?_)
    have J3 : Inv X pins σ1 H1 { s1 with heap := h3 } := J.landed nb fl3.1 (((up.trans up2).trans (Heap.UpToSlots.of_keeps kp)).trans up3) os ag
    obtain ⟨o3, v3, he3, hz3, hd3⟩ := fl3.there
    refine store_ok (X := X.suite a ((a, o3) :: (X.pn ++ pins))) (v := .ref a) (J3.suite he3 hd3 na nL nF) nd hi (.inl hl) rfl (fun s4 S4 => ?_) (.inr hl)
    refine wpAny_mono ((hsu a o3 cls d (X.pn ++ pins) hz3 ⟨_, hd3⟩).run [] s4 _ H1 _ S4 (go a na)) ?_ (fun _ _ z => z.elim)
    intro f s5 q5
    have bye : ∀ {σ5 : St} {H5 : Hp} {Q : Shared → Prop}, Inv (X.suite a ((a, o3) :: (X.pn ++ pins))) [] σ5 H5 s5 → (∀ s6, Inv X pins (σ5.set i none) H5 s6 → Q s6) →
        wpAny (model X.prog X.w) X.A (do bindName X.env n .none; unbindBehindTheSuite X.env n pos') (fun _ s6 => Q s6) X.xe s5 :=
      fun {σ5 H5 Q} S5 hq => gone_ok (S5.unsuite ok) nd hi hl hq
    cases f with
    | ret u =>
      obtain ⟨v5, σ5, H5, S5, r5, w5⟩ := q5
      exact bye S5 fun s6 J6 => ⟨v5, _, _, J6, r5, w5⟩
    | next =>
      obtain ⟨σ5, H5, S5, w5⟩ := q5
      exact bye S5 fun s6 J6 => ⟨_, _, J6, w5⟩
    | brk =>
      obtain ⟨σ5, H5, S5, w5⟩ := q5
      exact bye S5 fun s6 J6 => ⟨_, _, J6, w5⟩
    | cont =>
      obtain ⟨σ5, H5, S5, w5⟩ := q5
      exact bye S5 fun s6 J6 => ⟨_, _, J6, w5⟩
  · intro f s1 q
    cases f with
    | ret u =>
      obtain ⟨v, σ1, H1, J, r, w⟩ := q
      exact ⟨v, σ1, H1, J.ofTry ok, r, w⟩
    | next =>
      obtain ⟨σ1, H1, J, w⟩ := q
      exact wpAny_execs_nil ⟨σ1, H1, J.ofTry ok, w⟩
    | brk =>
      obtain ⟨σ1, H1, J, w⟩ := q
      exact ⟨σ1, H1, J.ofTry ok, w⟩
    | cont =>
      obtain ⟨σ1, H1, J, w⟩ := q
      exact ⟨σ1, H1, J.ofTry ok, w⟩
end
end L2.G
set_option Elab.async false
set_option linter.all false
set_option maxRecDepth 100000
set_option maxHeartbeats 2000000
namespace L2.G
open PySem PySem.Spec PyProof.Rows L2H LamX
/-! a lambda handed to a def that catches: exceptions whose context is None; nothing is being shown -/
abbrev lamK (X : Cx) (params : Arguments) (body : Expr) (sc : Scope) (pm : Value) (c' : Addr) (ct : Value) : Obj :=
  PySem.W.kla_obj "<lambda>" (X.env.qual ++ "<lambda>") params body sc (cloFrom X.env.cells sc.names []) pm c' ct
/-- the lambda's body, entered at s over the frames outer -/
abbrev lamN (X : Cx) (A : Around) (outer : List Env) (s : Shared) (H : Hp) (E : XK) (sc : Scope) (f c' : Addr) : Cx :=
  (lamCx X A outer s H E sc f c').wish fun e s1 =>
    wpAny (model X.prog X.w) (A.deeper (lamEnv X sc s.heap.objs.size f c')) (leaving (lamEnv X sc s.heap.objs.size f c') e)
      (fun _ s2 => L2N.CX X.prog X.w outer H s E e s2) (fun e2 s2 => L2N.CX X.prog X.w outer H s E e2 s2) s1
/-- within the lambda's body all that a def lets out goes on -/
theorem lamN_takes {X : Cx} {A : Around} {outer : List Env} {s : Shared} {H : Hp} {E : XK} {sc : Scope} {f c' : Addr} :
    L2N.Takes (lamN X A outer s H E sc f c') (fun cls d _ H' => E cls d H') :=
  L2N.takes_of rfl rfl rfl rfl
theorem lamN_pass {X : Cx} {A : Around} {outer : List Env} {s : Shared} {H : Hp} {E : XK} {sc : Scope} {f c' : Addr} :
    Passes (L2N.CX X.prog X.w) (lamN X A outer s H E sc f c') E :=
  L2N.passes_call (lamN_takes (E := E)) fun _ _ _ _ h => h
/-- the def g that got the lambda, entered at s from X -/
abbrev getCx (X : Cx) (Ng : List Str) (qg : Str) (sg : Scope) (g : Addr) (cdg : Value) (s : Shared) (H : Hp) : Cx :=
  cxOf CX0 X.prog X.w X.K X.mg X.base Ng qg sg g cdg X.A X.stack s H E0
section
variable {X : Cx} {pins : List (Addr × Obj)} {σ : St} {H : Hp} {s : Shared}
theorem pe_actN {Ng : List Str} {qg : Str} {sg : Scope} {g f c' : Addr} {cdg pm ct : Value} {params : Arguments} {body : Expr} {sc : Scope} {k i : Nat} {a : Str} {pn : List (Addr × Obj)} {xe : Value → Shared → Prop} {W : WX} {E : XK} {tb : TE} {p1 p2 : Pos}
    (I : Inv X pins σ H s) (L : LamS X.env.scope sc) (hf : s.heap.get? f = some (lamK X params body sc pm c' ct)) (hn : H f = none) (hfr : f ∉ frs X.stack)
    (hbind : bindArgs (PySem.W.kla_fn "<lambda>" (X.env.qual ++ "<lambda>") params body sc (cloFrom X.env.cells sc.names []) pm (.ref c') ct) ⟨[], []⟩ = pure [])
    (tk : L2N.Takes ((getCx X Ng qg sg g cdg s H).tr pn xe) W)
    (qt : Quiet X.A) (hr : Room (k + 1) (X.A.deeper (envOfC qg sg s.heap.objs.size g cdg)))
    (hbody : ∀ (A : Around) (outer : List Env) (s : Shared) (H : Hp), Quiet (A.deeper (lamEnv X sc s.heap.objs.size f c')) → Room k (A.deeper (lamEnv X sc s.heap.objs.size f c')) → PE (lamN X A outer s H E sc f c') body tb)
    (hN : Ng[i]? = some a) (hv : Vis sg a) (hd : (a == ("__debug__" : Str)) = false) (hcd : (a == ("__classdict__" : Str)) = false) :
    PE ((getCx X Ng qg sg g cdg s H).tr pn xe) (.Call (.Name a p1) [] [] p2)
      (fun σZ HZ Q => σZ[i]? = some (some (.ref f)) ∧ HZ c' = some (CodeO c' (X.env.qual ++ "<lambda>")) ∧ (∀ cls d H', E cls d H' → W cls d σZ H') ∧ tb σ HZ Q) := by
  constructor
  rintro qs s0 τ HW Q IZ ⟨h1, h2, hW, h3⟩
  refine wpAny_Call_Name_kw (thn ((pe_var (pos := p1) (i := i) hN hv hd hcd).run qs s0 τ HW (fun v Hv => v = .ref f ∧ HW = Hv) IZ ⟨.ref f, h1, rfl, rfl⟩) ?_)
  rintro u s1 ⟨v, HV, I1, rv, rfl, e⟩
  subst e
  cases (show u = Value.ref f from rv)
  have obj : s1.heap.get? f = some (lamK X params body sc pm c' ct) := I1.base.keep f _ hf hn hfr (fun z => nomatch (show f ∈ ([] : List Addr) from z))
  refine PySem.W.callWith_F0 ⟨_, _, _, _, obj⟩ ?_
  obtain ⟨⟨oc, vs, t, k1, k2, k3⟩, _, _⟩ := I1.hok c' _ h2
  have run : codeAny (model X.prog X.w) (X.A.deeper (envOfC qg sg s.heap.objs.size g cdg)) (.call (.ref f) ⟨[], []⟩)
      (CR (L2N.CX X.prog X.w) (envOfC qg sg s.heap.objs.size g cdg :: X.stack) X.prog X.w HW s1 Q E) s1 := by
    refine PySem.W.kla_callFunE hr.depth obj rfl L.co L.gen rfl ⟨c', oc, vs, t, rfl, k1, k2, k3⟩ ?_
    rw [hbind]
    refine wpAny_pure (wpAny_newFunctionEnv (fun y hy => (L.own y hy).2) (fun y hy => absurd hy (by simp)) (fun h2 ns sb => ⟨I1.nolimit.fresh _ sb, ?_⟩) L.kind)
    have keep : ∀ b o, s1.heap.get? b = some o → h2.get? b = some o := fun b o z => sb.extBut b o (Nat.ne_of_lt (Heap.lt_size z)) (Heap.get?_push_of_some _ z)
    have J := lam_start2 (A := X.A.deeper (envOfC qg sg s.heap.objs.size g cdg)) (outer := envOfC qg sg s.heap.objs.size g cdg :: X.stack) (E := E) (f := f) (c' := c') (tk := s1.toks + ([] : List (Str × Value)).length) I L I1.env0 hr.hd I1.base ns keep
    refine PySem.W.kla_codeExpr (wpAny_mono ((hbody _ _ s1 HW (quiet_deeper (quiet_deeper qt _) _) (hr.deeper _)).run [] _ σ HW Q (J.wish _) h3) ?_ fun _ _ z => z)
    rintro v s2 ⟨w, H2, J2, r2, q2⟩
    exact ⟨w, H2, J2.os, J2.bare, J2.base, J2.hok, r2, q2⟩
  refine wpAny_call (codeAny_mono run fun r s2 hq => ?_)
  match r, hq with
  | .error e, hq => exact tk e s2 (L2N.XE.of_call I1 hW hq)
  | .ok (.ret u), hq => exact I1.after hq
  | .ok .next, hq => exact False.elim hq
  | .ok .brk, hq => exact False.elim hq
  | .ok .cont, hq => exact False.elim hq
end
/-- what the def g makes of the reading tl of the lambda that it got: TT -/
def GivesN (X : Cx) (Ng : List Str) (x : Str) (sg : Scope) (g : Addr) (cdg : Value) (bg : List Stmt) (a q : Str) (TT : (XK → Hp → VK → Prop) → Hp → VK → Prop) : Prop :=
  ∀ (f c' : Addr) (s : Shared) (H : Hp) (Q : VK) (tl : XK → Hp → VK → Prop),
    Room 1 (X.A.deeper (envOfC x sg s.heap.objs.size g cdg)) →
    (∀ (W : WX) (pn : List (Addr × Obj)) (xe : Value → Shared → Prop) (E : XK) (p1 p2 : Pos), L2N.Takes ((getCx X Ng x sg g cdg s H).tr pn xe) W →
      PE ((getCx X Ng x sg g cdg s H).tr pn xe) (.Call (.Name a p1) [] [] p2) (fun σZ HZ Q => σZ[0]? = some (some (.ref f)) ∧ HZ c' = some (CodeO c' q) ∧ (∀ cls d H', E cls d H' → W cls d σZ H') ∧ tl E HZ Q)) →
    H c' = some (CodeO c' q) → TT tl H Q →
    ∃ t, PSs (getCx X Ng x sg g cdg s H).nox bg t ∧ t { nx := fun _ H' => Q .non H', rt := Q } (L2.start Ng [.ref f]) H
section
variable {X : Cx}
theorem pe_lamN {T : List (Addr × Str)} {TT : (XK → Hp → VK → Prop) → Hp → VK → Prop} {x a : Str} {g c P : Addr} {k : Nat} {pg : Arguments} {bg : List Stmt} {sg : Scope} {dV kV doc pm cdv ct oc : Value} {an od : Option Addr} {osl : Array (Option Value)} {Ng : List Str}
    {params : Arguments} {body : Expr} {sc : Scope} {t : XK → TE} {p lpos pos : Pos} (hg : Gl X x) (hm : X.mg x = some (.ref g)) (hk : PySem.W.keepIn X.K (.ref g) = true)
    (lk : X.K.lookup g = some ⟨oc, od, .func (PySem.W.fnOf x x pg bg sg dV kV doc pm an cdv ct), osl⟩) (hcg : PySem.W.codeIn X.K cdv x = true)
    (hb : L2.Binds X.K (PySem.W.fnOf x x pg bg sg dV kV doc pm an cdv ct) [a] []) (Sg : FnScope Ng [a] sg) (h0 : Ng[0]? = some a) (hva : Vis sg a)
    (hG : GivesN X Ng x sg g cdv bg a (X.env.qual ++ "<lambda>") TT)
    (TB : TabB X.base X.mg c P) (hcode : X.env.code = .ref c) (hT : (P, X.env.qual ++ "<lambda>") ∈ T) (hu : ∀ p ∈ T, p.1 = P → p.2 = X.env.qual ++ "<lambda>")
    (qt : Quiet X.A) (hr : Room (k + 2) X.A) (L : LamS X.env.scope sc) (hdef : defaultsOf params X.env = ([], []))
    (hbind : ∀ (q : Str) (cl : List (Str × Addr)) (pm cv ctv : Value), bindArgs (PySem.W.kla_fn "<lambda>" q params body sc cl pm cv ctv) ⟨[], []⟩ = pure [])
    (hbody : ∀ (A : Around) (outer : List Env) (s : Shared) (H : Hp) (E : XK) (f c' : Addr), Quiet (A.deeper (lamEnv X sc s.heap.objs.size f c')) → Room k (A.deeper (lamEnv X sc s.heap.objs.size f c')) → PE (lamN X A outer s H E sc f c') body (t E))
    (hdb : (x == ("__debug__" : Str)) = false := by decide) (hd : (a == ("__debug__" : Str)) = false := by decide) (hcd : (a == ("__classdict__" : Str)) = false := by decide) :
    PE X (.Call (.Name x p) [.Lambda params body sc lpos] [] pos) (tLam T TT t) := by
  constructor
  rintro pins s σ H Q I ⟨tab, h⟩
  refine wpAny_Call_Name_kw (ld_glob I hg hm (PySem.W.callWith_K (h₀ := X.base) I.ok.mod.kin hk ?_ (by rfl) (by rfl)) hdb)
  show wpAny _ _ (spliced ((false, eval (.Lambda params body sc lpos) X.env) :: backTo pos (starEach [] X.env))) _ _ s
  refine Calls.spliced_cons (lam_make2 I TB hcode hT hu tab hdef (L.has I.ok) ?_)
  intro f c' pm1 ct1 H1 s1 I1 ext tab1 obj nf nfr code
  refine Calls.spliced_nil ⟨I1.kIn, ?_⟩
  have run : codeAny (model X.prog X.w) X.A (.call (.ref g) ⟨[.ref f], []⟩) (CR CX0 X.stack X.prog X.w H1 s1 Q E0) s1 := by
    refine run_ofS (N := Ng) (ps := [a]) (us := [.ref f]) (vs := [.ref f]) lk hcg Sg hr I1.env0 (hb s1 [.ref f] I1.kIn rfl) (.cons rfl .nil) rfl fun hr1 => ?_
    obtain ⟨t1, ht, hq⟩ := hG f c' s1 H1 Q (fun E H' Q' => t E σ H' Q') (hr1.mono (Nat.succ_le_succ (Nat.zero_le _)))
      (fun W pn xe E p1 p2 tk => pe_actN (i := 0) I1 L obj nf nfr (hbind _ _ _ _ _) tk qt hr1 (fun A outer s H q2 r2 => hbody A outer s H E f c' q2 r2) h0 hva hd hcd) code (h H1 ext tab1)
    exact ⟨t1, ht.nox, hq⟩
  refine wpAny_call (codeAny_mono run fun r s2 hq => ?_)
  match r, hq with
  | .error e, hq => exact (show False from hq).elim
  | .ok (.ret u), hq => exact I1.after hq
  | .ok .next, hq => exact False.elim hq
  | .ok .brk, hq => exact False.elim hq
  | .ok .cont, hq => exact False.elim hq
end
end L2.G
set_option Elab.async false
set_option linter.all false
set_option maxRecDepth 100000
set_option maxHeartbeats 2000000
namespace L2.G
open PySem PySem.Spec PyProof.Rows L2H
/-! raise C(y), where C's own __init__ keeps y under one name; C over ValueError, LookupError or ArithmeticError -/
/-- a base of errors: its mro, how it is made, and that a field may be stored -/
structure ExB (B nw ini : String) (tl : List Value) : Prop where
  base : ExcBaseFacts B nw ini tl
  pass : ∀ v : Value, refuseLoop v "__setattr__" tl = pure ()
  obj : tl.contains (.type "object") = true
theorem exb_V : ExB "ValueError" "ValueError.__new__" "ValueError.__init__" [.type "ValueError", .type "Exception", .type "BaseException", .type "object"] := ⟨F.excBase_ValueError, fun v => by kernel_rfl, by decide +kernel⟩
theorem exb_L : ExB "LookupError" "LookupError.__new__" "LookupError.__init__" [.type "LookupError", .type "Exception", .type "BaseException", .type "object"] := ⟨F.excBase_LookupError, fun v => by kernel_rfl, by decide +kernel⟩
theorem exb_A : ExB "ArithmeticError" "ArithmeticError.__new__" "ArithmeticError.__init__" [.type "ArithmeticError", .type "Exception", .type "BaseException", .type "object"] := ⟨F.excBase_ArithmeticError, fun v => by kernel_rfl, by decide +kernel⟩
theorem refs_has (T : String) (tl : List Value) : ∀ cs : List Addr, (cs.map Value.ref ++ tl).contains (.type T) = tl.contains (.type T)
  | [] => rfl
  | c :: cs => by
    rw [List.map_cons, List.cons_append, List.contains_cons, refs_has T tl cs]
    rfl
theorem refs_pass {tl : List Value} (h : ∀ v : Value, refuseLoop v "__setattr__" tl = pure ()) (v : Value) : ∀ cs : List Addr, refuseLoop v "__setattr__" (cs.map Value.ref ++ tl) = pure ()
  | [] => h v
  | c :: cs => by
    rw [List.map_cons, List.cons_append, refuseLoop_ref]
    exact refs_pass h v cs
structure OexA (K : PySem.W.Frag) (C : Addr) : Prop where
  cls : ∃ (B nw ini : String) (tl : List Value) (cs : List Addr) (nm q : Str) (N : Addr) (bs : List Value) (sn : List Str) (sub : List Value) (ab : Bool) (col : Option Bool) (dd : Option Addr) (k0 k1 k2 k3 k5 : Option Value),
    ExB B nw ini tl ∧ K.lookup C = some (excClassObj nm q C N bs (cs.map Value.ref ++ tl) true sn sub ab col dd k0 k1 k2 k3 k5 nw)
  sa : PySem.W.findIn K (.ref C) "__setattr__" = some (some (.builtin "object.__setattr__"))
  exC : PySem.W.subIn K (.ref C) (.type "BaseException") = some true
  tyC : PySem.W.typeIn K (.ref C) = some (.type "type")
  kC : PySem.W.keepIn K (.ref C) = true
section
open PySem.W PySem.Calls Builtin Builtin.ObjectAttr
variable {prog : Program} {w : World} {A : Around} {R : Result → Shared → Prop} {hp : Heap} {g : Array GenState} {d : Drawn} {t : Nat} {os : OsState}
/-- the first field of a new exception: its dict is laid -/
theorem osa_any {K : PySem.W.Frag} {fld : Str} {tk : Tok} {v : Value} {x C : Addr} {fv : Array Value} {cd : ClassData} (X : K.In hp) (hx : hp.get? x = some { cls := .ref C, data := .fields fv }) (hc : PySem.W.clsIn K C = some cd)
    (hp1 : ∀ z : Value, refuseLoop z "__setattr__" cd.mro = pure ()) (hp2 : cd.mro.contains (.type "object") = true) (hd : cd.hasDict = true) (hf : PySem.W.findIn K (.ref C) fld = some none)
    (k : ∀ h' tk' dx, (∀ b o, b ≠ x → hp.get? b = some o → h'.get? b = some o) → hp.objs.size ≤ dx → dx ≠ x → h'.get? x = some { cls := .ref C, dict := some dx, data := .fields fv } → h'.Ns1 dx (fun y => if y = fld then some v else none) → R (.ok (.ret .none)) ⟨h', g, d, tk', os⟩) :
    codeAny (model prog w) A (.call (.builtin "object.__setattr__") ⟨[.ref x, .str fld tk, v], []⟩) R ⟨hp, g, d, t, os⟩ := by
  have IA : PySem.W.InstAt hp x { cls := .ref C, data := .fields fv } C none := ⟨hx, rfl, rfl, trivial⟩
  have ne : cd.mro.isEmpty = false := by
    cases e : cd.mro with
    | nil => rw [e] at hp2; exact absurd hp2 (by decide)
    | cons _ _ => rfl
  have nx : x ≠ hp.objs.size := Nat.ne_of_lt (Heap.lt_size hx)
  have S0 := F.store_object
  have isO : PySem.W.Looks (model prog w) hp (isInstance (.ref x) (.type "object")) true := by
    refine IA.type.andThen (PySem.W.looks_mroIn X ?_)
    unfold PySem.W.mroIn
    rw [hc, Option.bind_some, if_neg (by rw [ne]; decide), hp2]
  refine codeAny_call_builtin S0.slot.plain S0.entry ?_
  refine @PySem.W.check_slot (model prog w) _ _ ⟨hp, g, d, t, os⟩ "object.__setattr__" "object" "__setattr__" (.ref x) [.str fld tk, v] [] _ S0.kind S0.split isO (S0.args _ _ _) ?_
  have m0 : PySem.W.Looks (model prog w) hp (mroOf (.ref C)) cd.mro := (PySem.W.looks_clsIn X hc).andThen .now
  have c0 : PySem.W.Looks (model prog w) hp (classData C) cd := PySem.W.looks_clsIn X hc
  have s0 : PySem.W.Looks (model prog w) hp (storeTaker? none) none := .now
  rw [PySem.W.osa_eq, refuse_eq]
  refine wpAny_bind (wpAny_bind (IA.type.at (wpAny_bind (m0.at ?_))))
  rw [hp1]
  refine wpAny_pure (wpAny_bind (IA.type.at (wpAny_bind ((PySem.W.looks_findIn X hf).at (wpAny_bind (s0.at ?_))))))
  show wpAny _ _ (storeInOwnDict (.ref x) (.ref C) (.str fld tk) fld v false) _ _ _
  obtain ⟨nm, bs, mro, ns, qn, hasD, sn, sb, ab, col, del⟩ := cd
  dsimp only at hd
  subst hd
  unfold storeInOwnDict ownDictForStores
  repeat (first | with_reducible refine PySem.HandSPX.store_in_new ?_ ?_ | with_reducible refine wpAny_loadPart_at hx ?_ | with_reducible refine c0.at ?_ | wp_step)
  · refine ⟨_, #[], _, (Heap.get?_update_ne _ _ _ _ nx.symm).trans (Heap.get?_push_at rfl rfl), rfl, fun e he => ?_, fun _ => rfl⟩
    exact absurd he (by simp)
  · intro h' tk' n1 s1
    have y : (hp.push { cls := .type "dict", data := .dict #[] }).get? x = some { cls := .ref C, data := .fields fv } := Heap.get?_push_of_some _ hx
    exact k h' tk' hp.objs.size (fun b o hb ho => (s1.2 b (Nat.ne_of_lt (Heap.lt_size ho))).trans ((Heap.get?_update_ne _ _ _ _ hb).trans (Heap.get?_push_of_some _ ho))) (Nat.le_refl _) nx.symm ((s1.2 x nx).trans (Heap.get?_update_self _ y rfl)) n1
end
/-- self.f = e, the first field of an exception that is being made -/
def tOstA (K : PySem.W.Frag) (f : Str) (to te : TE) : TS := fun D σ H => te σ H fun y H1 => to σ H1 fun x H2 => ∃ a C : Addr, x = .ref a ∧ OexA K C ∧ PySem.W.findIn K (.ref C) f = some none ∧ H2 a = some (exo a C none) ∧
  ∀ dx, H2 dx = none → dx ≠ a → D.nx σ (upd (upd H2 dx (exd dx [(f, y)])) a (exo a C (some dx)))
section
variable {X : Cx} {pins : List (Addr × Obj)} {σ : St} {H : Hp} {s : Shared} {a C dx : Addr} {f : Str} {y : V} {u : Value} {Q : Unit → Shared → Prop} {E : Value → Shared → Prop} {A : Around}
theorem ostA (T : OexA X.K C) (I : Inv X pins σ H s) (e : H a = some (exo a C none)) (hno : PySem.W.findIn X.K (.ref C) f = some none) (ry : RelV y u)
    (h : ∀ dx s', H dx = none → dx ≠ a → Inv X pins σ (upd (upd H dx (exd dx [(f, y)])) a (exo a C (some dx))) s' → Q () s') : wpAny (model X.prog X.w) A (setAttr (.ref a) f u) Q E s := by
  obtain ⟨B, nw, ini, tl, cs, nm, q, N, bs, sn, sub, ab, col, dd, k0, k1, k2, k3, k5, xb, hC⟩ := T.cls
  have hcl : PySem.W.clsIn X.K C = some { name := nm, bases := bs, mro := .ref C :: (cs.map Value.ref ++ tl), ns := N, qualname := q, hasDict := true, slotNames := sn, subclasses := sub, abstract := ab, collection := col, hasDel := false } := by
    unfold PySem.W.clsIn
    rw [hC] <;> rfl
  obtain ⟨t1, ho⟩ := exo_at I.hok e
  obtain ⟨hp, g, d, t, os⟩ := s
  refine PySem.W.set_plain I.kIn (ox := { cls := .ref C, dict := none, data := .fields #[.ref t1, .none, .none, .none, .bool false, .none] }) (od := none) ⟨ho, rfl, rfl, trivial⟩ T.sa ?_
  refine osa_any I.kIn ho hcl (fun z => refs_pass xb.pass z (C :: cs)) ((refs_has "object" tl (C :: cs)).trans xb.obj) rfl hno (fun h' tk' dx k dn dne hx hn => ?_)
  have hnd : H dx = none := I.hok.fresh dn
  have nd : ∀ {b : Addr} {o : Obj}, hp.get? b = some o → b ≠ dx := fun {b o} z => Nat.ne_of_lt (Nat.lt_of_lt_of_le (Heap.lt_size z) dn)
  have na : ∀ {b : Addr}, H b = none → b ≠ a := fun {b} n z => by rw [z, e] at n; cases n
  have U : Un X.fs [] H (upd (upd H dx (exd dx [(f, y)])) a (exo a C (some dx))) hp h' := by
    refine ⟨fun b o z n _ _ => k b o (na n) z, fun b o z n _ _ => ⟨o.slots, k b o (na n) z⟩, fun b o z n _ => ?_, fun b o z _ => ?_, fun b xs z => ?_, fun b o v z => ?_, fun b ps z => ⟨#[], ?_⟩⟩
    · rw [upd_ne (na n), upd_ne (nd z)]
      exact n
    · by_cases hb : b = a
      · rw [hb]
        exact ⟨_, hx⟩
      · exact ⟨o, k b o hb z⟩
    · rw [upd_ne (at_ne e z exo_tup), upd_ne (ne_of_none z hnd)]
      exact z
    · rw [upd_ne (at_ne e z exo_frz), upd_ne (ne_of_none z hnd)]
      exact z
    · rw [upd_ne (at_ne e z exo_tbl), upd_ne (ne_of_none z hnd), z]
      simp
  refine h dx _ hnd dne (I.un (t' := tk') U fun b o z => ?_)
  by_cases hb : b = a
  · subst hb
    rw [upd_same] at z
    cases z
    exact exo_ok hx
  · rw [upd_ne hb] at z
    by_cases hd : b = dx
    · subst hd
      rw [upd_same] at z
      cases z
      exact exd_ok hn (relO_put (fs := []) ry fun g => True.intro)
    · rw [upd_ne hd] at z
      refine (I.hok b o z).stay (fun c v hc zz => k c v ?_ zz) (fun c hc => ?_) (fun c xs hc => ?_)
      · rcases hc with hc | hc
        · rw [hc]
          exact hb
        · exact at_ne e hc exo_own
      · rw [upd_ne (at_ne e hc exo_own), upd_ne (ne_of_none hc hnd)]
        exact hc
      · rw [upd_ne (at_ne e hc exo_tup), upd_ne (ne_of_none hc hnd)]
        exact hc
theorem ps_ostA {o e : Expr} {to te : TE} {p' pos : Pos} (ho : PE X o to) (he : PE X e te) (hs : swapsWith e (some (.Attribute o f p')) pos.line X.env = pure false := by rfl) : PS X (.Assign [.Attribute o f p'] e pos) (tOstA X.K f to te) := by
  refine ⟨fun pins s σ H D I h => plainObj_wpAny_Assign_Attribute (thn (he.run pins s σ H _ I h) fun v s1 ⟨y, H1, I1, r1, q1⟩ => thn (ho.run pins s1 σ H1 _ I1 q1) fun u s2 hh => ?_) hs⟩
  obtain ⟨x, H2, I2, r2, a, C, rfl, T, hno, ea, q⟩ := hh
  obtain rfl : u = Value.ref a := r2
  exact ostA T I2 ea hno r1 fun dx s' n ne J => ⟨σ, _, J, q dx n ne⟩
end
/-- what such an __init__ does to the exception at a -/
def spKeep (K : PySem.W.Frag) (fld : Str) : Sp := fun vs H Q _ => ∃ (a C : Addr) (y : V), vs = [.ref a, y] ∧ OexA K C ∧ PySem.W.findIn K (.ref C) fld = some none ∧ H a = some (exo a C none) ∧
  ∀ dx, H dx = none → dx ≠ a → Q .non (upd (upd H dx (exd dx [(fld, y)])) a (exo a C (some dx)))
structure ErrC (P : Program) (w : World) (K : PySem.W.Frag) (mg : Str → Option Value) (base : Heap) (k : Nat) (x : Str) (C : Addr) (fld : Str) : Prop where
  oex : OexA K C
  no : PySem.W.findIn K (.ref C) fld = some none
  gl : mg x = some (.ref C)
  ex : ∃ (f : Addr) (fd : FuncData) (ps : List Str), PySem.W.findIn K (.ref C) "__init__" = some (some (.ref f)) ∧ PySem.W.typeIn K (.ref f) = some (.type "function") ∧ FnOk P w K mg base CX0 k f fd ps (spKeep K fld) ∧ Binds K fd ps []
/-- the exception's dict stands at d -/
def tErr (C : Addr) (fld : Str) (ta : TA) : St → Hp → XK → Prop := fun σ H Q => ta σ H fun vs H1 => ∃ y, vs = [y] ∧ ∀ d, H1 d = none → Q (.ref C) (some d) (upd H1 d (.xd [(fld, y)]))
section
variable {X : Cx} {k j : Nat} {x fld : Str} {C : Addr} {e : Expr} {es : List Expr} {ta : TA} {p pos : Pos}
theorem pmk_err (c : ErrC X.prog X.w X.K X.mg X.base k x C fld) (hr : Room j X.A) (hk : k + 1 ≤ j) (hg : Gl X x) (ha : PA X (e :: es) ta)
    (hdb : (x == ("__debug__" : Str)) = false := by decide) (hst : starEach (e :: es) X.env = (false, eval e X.env) :: starEach es X.env := by rfl) (hpl : (backTo pos (starEach es X.env)).any (·.1) = false := by rfl) :
    L2N.PMk X (.Call (.Name x p) (e :: es) [] pos) (tErr C fld ta) := by
  intro pins s σ H Q I h
  obtain ⟨f, fd, ps, fI, tI, Fn, b⟩ := c.ex
  obtain ⟨B, nw, ini, tl, cs, nm, q, N, bs, sn, sub, ab, col, dd, k0, k1, k2, k3, k5, xb, look⟩ := c.oex.cls
  refine wpAny_Call_Name_kw (ld_glob I hg c.gl (PySem.W.callWith_K (h₀ := X.base) I.ok.mod.kin c.oex.kC (thn (ha.run pos pins s σ H _ I h) ?_) hst hpl) hdb)
  rintro us ⟨hp, g, dr, tk, os⟩ ⟨vs, H1, I1, r1, y, rfl, q1⟩
  refine ⟨I1.kIn, ?_⟩
  obtain ⟨u, rfl, ru⟩ := vals1 r1
  show wpAny _ _ (call (.ref C) [u]) _ _ _
  -- the new exception at A
  obtain ⟨a, ea⟩ : ∃ a, a = hp.objs.size + 1 := ⟨_, rfl⟩
  obtain ⟨hq, eq⟩ : ∃ hq, hq = (hp.push (PySem.W.kdv_tup [u])).push (PySem.HandSPX.excO C hp.objs.size) := ⟨_, rfl⟩
  have up : ∀ b o, hp.get? b = some o → hq.get? b = some o := fun b o z => by rw [eq]; exact Heap.get?_push_of_some _ (Heap.get?_push_of_some _ z)
  have there : hq.get? a = some (PySem.HandSPX.excO C hp.objs.size) := by
    rw [eq, ea]
    heap_get
  have ge : hp.objs.size ≤ a := by rw [ea]; exact Nat.le_succ _
  have na : H1 a = none := I1.hok.fresh ge
  have I2 : Inv X pins σ (upd H1 a (exo a C none)) ⟨hq, g, dr, tk, os⟩ := I1.laid (t' := tk) up ge (exo_ok there)
  have r2 : Vals [V.ref a, y] [Value.ref a, u] := .cons rfl (.cons ru .nil)
  have spec : spKeep X.K fld [.ref a, y] (upd H1 a (exo a C none))
      (fun v H2 => v = .non ∧ ∃ d, H1 d = none ∧ d ≠ a ∧ H2 = upd (upd (upd H1 a (exo a C none)) d (exd d [(fld, y)])) a (exo a C (some d))) (fun _ _ _ => False) :=
    ⟨a, C, y, rfl, c.oex, c.no, upd_same, fun d hd ne => ⟨rfl, d, by rwa [upd_ne ne] at hd, ne, rfl⟩⟩
  have ln : ([Value.ref a, u] ++ []).length = ps.length := by
    have z := Fn.len _ _ _ _ spec
    exact z
  have bb := b ⟨hq, g, dr, tk, os⟩ [Value.ref a, u] I2.kIn ln
  rw [List.append_nil] at bb
  refine wpAny_call (PySem.HandSPX.call_own xb.base (fun Y => refs_has Y tl cs) (I1.kIn _ _ look) (PySem.W.looks_findIn I1.kIn fI) (fun self => PySem.W.bind_fn I1.kIn self tI) (by rw [sizeLine_eq]; simp) ?_)
  rw [← eq, ← ea]
  refine codeAny_mono (Fn.run _ X.stack _ _ ⟨[Value.ref a, u], []⟩ [Value.ref a, u] _ _ _ ((hr.mono hk).make C [u] []) (I2.env0.make C [u] []) bb r2 spec) fun r s3 hr3 => ?_
  match r, hr3 with
  | .error _, z => exact (show False from z).elim
  | .ok .next, z => exact False.elim z
  | .ok .brk, z => exact False.elim z
  | .ok .cont, z => exact False.elim z
  | .ok (.ret z), hr3 =>
    obtain ⟨v, H2, os2, bare2, un2, hok2, rv, rfl, d, nd, ne, e2⟩ := hr3
    obtain ⟨h3, g3, d3, t3, os3⟩ := s3
    have ea2 : H2 a = some (exo a C (some d)) := by rw [e2, upd_same]
    have ed2 : H2 d = some (exd d [(fld, y)]) := by rw [e2, upd_ne ne, upd_same]
    obtain ⟨t0, G, J, kG, gN, obj, nn⟩ := mk_end0 (d2 := d3) (t2 := t3) I1 ge up un2 hok2 os2 bare2 ea2 ed2 nd
    have eH : upd (del H2 a) d (.xd [(fld, y)]) = upd H1 d (.xd [(fld, y)]) := by
      funext b
      by_cases hb : b = d
      · rw [hb, upd_same, upd_same]
      · rw [upd_ne hb, upd_ne hb]
        by_cases hba : b = a
        · rw [hba, del_same, na]
        · rw [del_ne hba, e2, upd_ne hba, upd_ne hb, upd_ne hba]
    rw [eH] at J nn
    exact ⟨rv, a, _, _, ⟨G, g3, d3, t3, os3⟩, _, .ref C, some d, rfl, J, kG, gN, obj, ⟨rfl, rfl, fun vs hv => by cases hv; rfl⟩, rfl, rfl, nn, rfl, bare2, raises_own c.oex.exC c.oex.tyC, q1 d nd⟩
end
end L2.G
set_option Elab.async false
set_option linter.all false
set_option maxRecDepth 100000
set_option maxHeartbeats 2000000
namespace L2.G
open PySem PySem.Spec PyProof.Rows L2H
/-! defs, classes and methods that may raise (where nothing is handled) -/
abbrev CN (P : Program) (w : World) : CXT := L2N.CX P w
section
variable {P : Program} {w : World} {K : PySem.W.Frag} {mg : Str → Option Value} {base : Heap} {k : Nat} {f : Addr} {fd : FuncData} {ps N : List Str} {sp : Sp}
/-- a def that raises nothing keeps its promise among those that may -/
theorem _root_.L2.FnOk.n (F : FnOk P w K mg base CX0 k f fd ps sp) : FnOk P w K mg base (CN P w) k f fd ps sp :=
  ⟨F.len, fun A outer s H args us vs Q E hr e0 b r h => codeAny_mono (F.run A outer s H args us vs Q E hr e0 b r h) fun res s' q => match res, q with
    | .error _, q => (show False from q).elim
    | .ok (.ret _), q => q
    | .ok .next, q => q
    | .ok .brk, q => q
    | .ok .cont, q => q⟩
/-- a def by its body, errors may leave it -/
theorem _root_.L2.Fun.okN {x qual : Str} {st : Stmt} (F : Fun K x qual st f fd) (S : FnScope N ps (defScope st)) (len : ∀ vs H Q E, sp vs H Q E → vs.length = ps.length)
    (hbody : ∀ (cdv : Value) (A : Around) (outer : List Env) (s : Shared) (H : Hp) (vs : List V) (Q : VK) (E : XK), Room k (A.deeper (envOfC qual (defScope st) s.heap.objs.size f cdv)) → sp vs H Q E →
      ∃ t, PSs (cxOf (CN P w) P w K mg base N qual (defScope st) f cdv A outer s H E) (defBody st) t ∧ t { nx := fun _ H' => Q .non H', rt := Q } (start N vs) H) : FnOk P w K mg base (CN P w) (k + 1) f fd ps sp := by
  obtain ⟨oc, od, kV, doc, pm, an, cdv, ct, osl, e, lk, hcd⟩ := F.ex
  subst e
  exact fn_of lk hcd S len fun A outer s H vs Q E hr hs => hbody cdv A outer s H vs Q E hr hs
/-- within such a def -/
theorem tkN {qual : Str} {sc : Scope} {cdv : Value} {A : Around} {outer : List Env} {s : Shared} {H : Hp} {E : XK} :
    L2N.Takes (cxOf (CN P w) P w K mg base N qual sc f cdv A outer s H E) (fun cls d _ H' => E cls d H') := L2N.takes_of rfl rfl rfl rfl
theorem psN {qual : Str} {sc : Scope} {cdv : Value} {A : Around} {outer : List Env} {s : Shared} {H : Hp} {E : XK} :
    Passes (CN P w) (cxOf (CN P w) P w K mg base N qual sc f cdv A outer s H E) E := L2N.passes_call tkN fun _ _ _ _ h => h
/-- what raises nothing passes everywhere -/
theorem ps0 {X : Cx} : Passes (CN X.prog X.w) X E0 := fun _ _ _ _ _ _ _ h => by
  obtain ⟨_, _, _, _, _, _, _, _, _, _, _, _, z⟩ := h
  exact z.elim
end
structure CalN (P : Program) (w : World) (K : PySem.W.Frag) (mg : Str → Option Value) (base : Heap) (k : Nat) (x : Str) (sp : Sp) : Prop where
  ex : ∃ (f : Addr) (fd : FuncData) (ps : List Str), FnOk P w K mg base (CN P w) k f fd ps sp ∧ mg x = some (.ref f) ∧ PySem.W.keepIn K (.ref f) = true ∧ Binds K fd ps []
structure MakN (P : Program) (w : World) (K : PySem.W.Frag) (mg : Str → Option Value) (base : Heap) (k : Nat) (x : Str) (C : Addr) (sp : Sp) (dvs : List V) : Prop where
  ex : ∃ (f : Addr) (fd : FuncData) (ps : List Str) (ds : List Value), Mk K C f ∧ FnOk P w K mg base (CN P w) k f fd ps sp ∧ mg x = some (.ref C) ∧ Binds K fd ps ds ∧ Vals dvs ds
structure MetN (P : Program) (w : World) (K : PySem.W.Frag) (mg : Str → Option Value) (base : Heap) (k : Nat) (C : Addr) (m : Str) (sp : Sp) : Prop where
  ex : ∃ (f : Addr) (fd : FuncData) (ps : List Str), Cls K C ∧ Meth K C m f ∧ FnOk P w K mg base (CN P w) k f fd ps sp ∧ Binds K fd ps []
structure CalKN (P : Program) (w : World) (K : PySem.W.Frag) (mg : Str → Option Value) (base : Heap) (k : Nat) (x : Str) (ks : List Str) (gV : List V → List V → List V) (sp : Sp) : Prop where
  ex : ∃ (f : Addr) (fd : FuncData) (ps : List Str) (g : List Value → List Value → List Value), FnOk P w K mg base (CN P w) k f fd ps sp ∧ mg x = some (.ref f) ∧ PySem.W.keepIn K (.ref f) = true ∧ KBn K fd ps 0 ks g gV
structure MakKN (P : Program) (w : World) (K : PySem.W.Frag) (mg : Str → Option Value) (base : Heap) (k : Nat) (x : Str) (C : Addr) (ks : List Str) (gV : List V → List V → List V) (sp : Sp) : Prop where
  ex : ∃ (f : Addr) (fd : FuncData) (ps : List Str) (g : List Value → List Value → List Value), Mk K C f ∧ FnOk P w K mg base (CN P w) k f fd ps sp ∧ mg x = some (.ref C) ∧ KBn K fd ps 1 ks g gV
structure MetKN (P : Program) (w : World) (K : PySem.W.Frag) (mg : Str → Option Value) (base : Heap) (k : Nat) (C : Addr) (m : Str) (ks : List Str) (gV : List V → List V → List V) (sp : Sp) : Prop where
  ex : ∃ (f : Addr) (fd : FuncData) (ps : List Str) (g : List Value → List Value → List Value), Cls K C ∧ Meth K C m f ∧ FnOk P w K mg base (CN P w) k f fd ps sp ∧ KBn K fd ps 1 ks g gV
section
variable {X : Cx} {k j : Nat} {C : Addr} {sp : Sp} {dvs : List V} {E : XK} {x m : Str} {p pos apos : Pos} {e o : Expr} {es : List Expr} {t tk : TA} {ta : TE} {kws : List Keyword} {ks : List Str} {gV : List V → List V → List V}
theorem pe_cN (c : CalN X.prog X.w X.K X.mg X.base k x sp) (hx : Passes (CN X.prog X.w) X E) (hr : Room j X.A) (hk : k ≤ j) (hg : Gl X x) (ha : PA X (e :: es) t)
    (hdb : (x == ("__debug__" : Str)) = false := by decide) (he : starEach (e :: es) X.env = (false, eval e X.env) :: starEach es X.env := by rfl) (hpl : (backTo pos (starEach es X.env)).any (·.1) = false := by rfl) :
    PE X (.Call (.Name x p) (e :: es) [] pos) (tCall sp [] E t) := by
  obtain ⟨f, fd, ps, F, hm, kp, b⟩ := c.ex
  exact pe_call F (hr.mono hk) hg hm kp b .nil hx ha hdb he hpl
theorem pe_mkN (c : MakN X.prog X.w X.K X.mg X.base k x C sp dvs) (hx : Passes (CN X.prog X.w) X E) (hr : Room j X.A) (hk : k + 1 ≤ j) (hg : Gl X x) (ha : PA X (e :: es) t)
    (hdb : (x == ("__debug__" : Str)) = false := by decide) (he : starEach (e :: es) X.env = (false, eval e X.env) :: starEach es X.env := by rfl) (hpl : (backTo pos (starEach es X.env)).any (·.1) = false := by rfl) :
    PE X (.Call (.Name x p) (e :: es) [] pos) (tMake C sp dvs E t) := by
  obtain ⟨f, fd, ps, ds, M, F, hm, b, d⟩ := c.ex
  exact pe_make M F (hr.mono hk) hg hm b d hx ha hdb he hpl
theorem pe_mtN {pl : Sem Bool} (c : MetN X.prog X.w X.K X.mg X.base k C m sp) (hx : Passes (CN X.prog X.w) X E) (hr : Room j X.A) (hk : k ≤ j) (he : PE X o ta) (ha : PA X (e :: es) t)
    (hst : starEach (e :: es) X.env = (false, eval e X.env) :: starEach es X.env := by rfl) (hpl : (backTo pos (starEach es X.env)).any (·.1) = false := by rfl)
    (ht : eval (.Call (.Attribute o m apos) (e :: es) [] pos) X.env = (do
      let ov ← eval o X.env
      standAt apos.atName
      let (f, first) ← holding [ov] (getMethod ov m pl)
      callWith pos f first (backTo pos (starEach (e :: es) X.env)) (backToKw pos (keywordEach [] X.env))) := by rfl) :
    PE X (.Call (.Attribute o m apos) (e :: es) [] pos) (tMeth C m sp [] E ta t) := by
  obtain ⟨f, fd, ps, hc, hm, F, b⟩ := c.ex
  exact pe_meth (pl := pl) he hc hm F (hr.mono hk) b .nil hx ha hst hpl ht
theorem pe_mkKN (c : MakKN X.prog X.w X.K X.mg X.base k x C ks gV sp) (hx : Passes (CN X.prog X.w) X E) (hr : Room j X.A) (hk : k + 1 ≤ j) (hg : Gl X x) (hkw : PK X kws tk)
    (hall : (backToKw pos (keywordEach kws X.env)).all (·.1.isSome) = true := by rfl) (hks : (backToKw pos (keywordEach kws X.env)).filterMap (·.1) = ks := by rfl) (hdb : (x == ("__debug__" : Str)) = false := by decide)
    (hpl : ((backTo pos (starEach [] X.env)).any (·.1) || (backToKw pos (keywordEach kws X.env)).any (·.1.isNone)) = false := by rfl) :
    PE X (.Call (.Name x p) [] kws pos) (tMakeK C 0 ks.length sp gV E tNil tk) := by
  obtain ⟨f, fd, ps, g, M, F, hm, b⟩ := c.ex
  exact pe_makeK0 M F (hr.mono hk) hg hm b hx hkw hall hks hdb hpl
/-- f(k = v, ..) that may raise -/
def tCallKE (n : Nat) (sp : Sp) (gV : List V → List V → List V) (E : XK) (tk : TA) : TE := fun σ H Q => tk σ H fun zs H2 => zs.length = n ∧ sp (gV [] zs) H2 Q E
theorem pe_cKN (c : CalKN X.prog X.w X.K X.mg X.base k x ks gV sp) (hx : Passes (CN X.prog X.w) X E) (hr : Room j X.A) (hk : k ≤ j) (hg : Gl X x) (hkw : PK X kws tk)
    (hall : (backToKw pos (keywordEach kws X.env)).all (·.1.isSome) = true := by rfl) (hks : (backToKw pos (keywordEach kws X.env)).filterMap (·.1) = ks := by rfl) (hdb : (x == ("__debug__" : Str)) = false := by decide)
    (hpl : ((backTo pos (starEach [] X.env)).any (·.1) || (backToKw pos (keywordEach kws X.env)).any (·.1.isNone)) = false := by rfl) :
    PE X (.Call (.Name x p) [] kws pos) (tCallKE ks.length sp gV E tk) := by
  obtain ⟨f, fd, ps, g, F, hm, kp, b⟩ := c.ex
  refine ⟨fun pins s σ H Q I h => wpAny_Call_Name_kw (ld_glob I hg hm ?_ hdb)⟩
  refine PySem.W.callWith_KW0 (h₀ := X.base) I.ok.mod.kin kp hall (thn (hkw.run pos pins s σ H _ I h) ?_) hpl
  rintro ws s2 ⟨zs, H2, I2, rz, l2, q2⟩
  refine ⟨I2.kIn, ?_⟩
  rw [hks]
  exact run_fnN (vs := []) F (hr.mono hk) b hx I2 .nil rz rfl l2 q2
/-- o.m(k = v, ..) that may raise -/
def tMethKE (C : Addr) (m : Str) (n : Nat) (sp : Sp) (gV : List V → List V → List V) (E : XK) (ta : TE) (tk : TA) : TE := fun σ H Q => ta σ H fun x H1 => ∃ a dx fs, x = .ref a ∧ H1 a = some (.ins C dx fs) ∧ fs.lookup m = none ∧ tk σ H1 fun zs H2 => zs.length = n ∧ sp (gV [.ref a] zs) H2 Q E
theorem pe_mtKN {pl : Sem Bool} (c : MetKN X.prog X.w X.K X.mg X.base k C m ks gV sp) (hx : Passes (CN X.prog X.w) X E) (hr : Room j X.A) (hk : k ≤ j) (he : PE X o ta) (hkw : PK X kws tk)
    (hall : (backToKw pos (keywordEach kws X.env)).all (·.1.isSome) = true := by rfl) (hks : (backToKw pos (keywordEach kws X.env)).filterMap (·.1) = ks := by rfl)
    (hpl : ((backTo pos (starEach [] X.env)).any (·.1) || (backToKw pos (keywordEach kws X.env)).any (·.1.isNone)) = false := by rfl)
    (ht : eval (.Call (.Attribute o m apos) [] kws pos) X.env = (do
      let ov ← eval o X.env
      standAt apos.atName
      let (f, first) ← holding [ov] (getMethod ov m pl)
      callWith pos f first (backTo pos (starEach [] X.env)) (backToKw pos (keywordEach kws X.env))) := by rfl) :
    PE X (.Call (.Attribute o m apos) [] kws pos) (tMethKE C m ks.length sp gV E ta tk) := by
  obtain ⟨f, fd, ps, g, cl, hm, F, b⟩ := c.ex
  refine ⟨fun pins s σ H Q I h => PySem.W.methodCall_KW (pl := pl) (thn (he.run pins s σ H _ I h) ?_) ht⟩
  rintro u s1 ⟨y, H1, I1, rx, a, dx, fs, rfl, ea, l, q⟩
  cases (show u = Value.ref a from rx)
  refine getmeth_ok I1 ea cl hm l (PySem.W.callWith_KW0 (first := [.ref a]) (h₀ := X.base) I.ok.mod.kin hm.kp hall (thn (hkw.run pos pins s1 σ H1 _ I1 q) ?_) hpl)
  rintro ws s2 ⟨zs, H2, I2, rz, l2, q2⟩
  refine ⟨I2.kIn, ?_⟩
  rw [hks]
  exact run_fnN (vs := [.ref a]) F (hr.mono hk) b hx I2 (.cons rfl .nil) rz rfl l2 q2
/-- raise C(y) -/
theorem ps_err {W : WX} {fld : Str} {rp : Pos} (c : ErrC X.prog X.w X.K X.mg X.base k x C fld) (hc : X.calm = true) (tk : L2N.Takes X W) (hr : Room j X.A) (hk : k + 1 ≤ j) (hg : Gl X x) (ha : PA X (e :: es) t)
    (hdb : (x == ("__debug__" : Str)) = false := by decide) (hst : starEach (e :: es) X.env = (false, eval e X.env) :: starEach es X.env := by rfl) (hpl : (backTo pos (starEach es X.env)).any (·.1) = false := by rfl) :
    PS X (.Raise (some (.Call (.Name x p) (e :: es) [] pos)) none rp) (fun _ σ H => tErr C fld t σ H fun cls d H' => W cls d σ H') :=
  L2N.ps_raise hc tk (pmk_err c hr hk hg ha hdb hst hpl)
end
end L2.G
set_option Elab.async false
set_option linter.all false
set_option maxRecDepth 100000
set_option maxHeartbeats 2000000
namespace L2.G
open PySem PySem.Spec PyProof.Rows L2H
/-! a def called in an except suite with the exception that is handled; its promise may speak of that exception -/
structure FnE (P : Program) (w : World) (K : PySem.W.Frag) (mg : Str → Option Value) (base : Heap) (k : Nat) (f : Addr) (fd : FuncData) (ps : List Str) (sp : Addr × Obj → Sp) : Prop where
  len : ∀ p vs H Q E, sp p vs H Q E → vs.length = ps.length
  run : ∀ (A : Around) (outer : List Env) (s : Shared) (H : Hp) (args : Args) (us : List Value) (vs : List V) (Q : VK) (p : Addr × Obj), RoomH k A → Hot1 A p → PinOk outer H s p → Env0 P w K mg base A outer s H → BindsTo s fd args (ps.zip us) → Vals vs us → sp p vs H Q E0 →
    codeAny (model P w) A (.call (.ref f) args) (CR CX0 outer P w H s Q E0) s
section
variable {P : Program} {w : World} {K : PySem.W.Frag} {mg : Str → Option Value} {base : Heap} {k : Nat} {f : Addr} {fd : FuncData} {ps N : List Str} {sp : Addr × Obj → Sp}
theorem _root_.L2.Fun.okE {x qual : Str} {st : Stmt} (F : Fun K x qual st f fd) (S : FnScope N ps (defScope st)) (len : ∀ p vs H Q E, sp p vs H Q E → vs.length = ps.length)
    (hbody : ∀ (cdv : Value) (A : Around) (outer : List Env) (s : Shared) (H : Hp) (vs : List V) (Q : VK) (p : Addr × Obj), Hot1 A p → RoomH k (A.deeper (envOfC qual (defScope st) s.heap.objs.size f cdv)) → sp p vs H Q E0 →
      ∃ t, PSs (cxH CX0 P w K mg base N qual (defScope st) f cdv A outer s H E0 p) (defBody st) t ∧ t { nx := fun _ H' => Q .non H', rt := Q } (start N vs) H) : FnE P w K mg base (k + 1) f fd ps sp := by
  obtain ⟨oc, od, kV, doc, pm, an, cdv, ct, osl, e, lk, hcd⟩ := F.ex
  subst e
  refine ⟨len, fun A outer s H args us vs Q p hr hot pin e0 hb r hsp => ?_⟩
  have inS : K.In s.heap := e0.mod.kin.keeps fun b o z => (e0.bs b o z).1
  have noL : s.heap.NoLimit := e0.mod.nolimit.keeps fun b o z => (e0.bs b o z).1
  have kinds : ∀ y ∈ ps.zip us, (defScope st).names.lookup y.1 = some .local ∨ ((defScope st).names.lookup y.1 = some .cell ∧ ((cellsFrom (s.heap.objs.size + 1) (defScope st).names []).lookup y.1).isSome = true) := by
    rintro ⟨n, v⟩ hy
    exact (S.par n (List.of_mem_zip hy).1).imp id fun z => ⟨z, PySem.W.cellsFrom_some _ _ _ (.inl z)⟩
  refine codeAny_call_function hr.depth (inS _ _ lk) rfl S.co S.gen rfl (PySem.W.codeRec_of inS hcd) (hb _ _ _ _ (wpAny_newFunctionEnv_cells S.kind kinds fun env he s1 x => ?_))
  subst he
  obtain ⟨t, ht, hq⟩ := hbody cdv A outer s H vs Q p hot (hr.deeper _) hsp
  have I := inv_startH (CX := CX0) (E := E0) S pin e0 (len _ _ _ _ _ hsp) r x
  refine ⟨noL.keeps x.toInCall.keep, codeAny_func (wpAny_mono (ht.run [] s1 (start N vs) H _ I hq) (fun fl s' hs => ?_) fun _ _ hs => hs)⟩
  match fl, hs with
  | .ret u, ⟨v, σ', H', J, rv, q⟩ => exact ⟨v, H', J.os, J.bare, J.base, J.hok, rv, q⟩
  | .next, ⟨σ', H', J, q⟩ => exact ⟨.non, H', J.os, J.bare, J.base, J.hok, rfl, q⟩
  | .brk, ⟨_, _, _, q⟩ => exact False.elim q
  | .cont, ⟨_, _, _, q⟩ => exact False.elim q
end
section
variable {X : Cx} {k j : Nat} {f : Addr} {fd : FuncData} {ps : List Str} {sp : Addr × Obj → Sp} {x : Str} {q pos : Pos} {e : Expr} {es : List Expr} {t : TA} {p : Addr × Obj}
/-- f(e, ..), p the exception that is handled here -/
theorem pe_callE (F : FnE X.prog X.w X.K X.mg X.base k f fd ps sp) (hot : Hot1 X.A p) (hp : p ∈ X.pn) (hr : RoomH j X.A) (hk : k ≤ j) (hg : Gl X x) (hm : X.mg x = some (.ref f)) (kp : PySem.W.keepIn X.K (.ref f) = true) (hb : Binds X.K fd ps []) (ha : PA X (e :: es) t)
    (hdb : (x == ("__debug__" : Str)) = false := by decide) (he : starEach (e :: es) X.env = (false, eval e X.env) :: starEach es X.env := by rfl) (hpl : (backTo pos (starEach es X.env)).any (·.1) = false := by rfl) :
    PE X (.Call (.Name x q) (e :: es) [] pos) (tCall (sp p) [] E0 t) := by
  refine ⟨fun pins s σ H Q I h => wpAny_Call_Name_kw (ld_glob I hg hm ?_ hdb)⟩
  refine PySem.W.callWith_K (h₀ := X.base) I.ok.mod.kin kp (thn (ha.run pos pins s σ H _ I h) ?_) he hpl
  rintro us s1 ⟨vs, H1, I1, r, w⟩
  refine ⟨I1.kIn, ?_⟩
  rw [List.append_nil] at w
  have ln : us.length = ps.length := r.length.symm.trans (F.len _ _ _ _ _ w)
  have b := hb s1 us I1.kIn (by rw [List.append_nil]; exact ln)
  rw [List.append_nil] at b
  obtain ⟨g, n, l, o, c⟩ := I1.pin p (List.mem_append_left _ hp)
  have pin : PinOk X.stack H1 s1 p := ⟨g, n, fun z => (List.mem_cons.mp (I1.stkSub p.1 z)).elim l o, c⟩
  refine wpAny_call (codeAny_mono (F.run X.A X.stack s1 H1 ⟨us, []⟩ us vs Q p (hr.mono hk) hot pin I1.env0 b r w) fun res s2 z => ?_)
  match res, z with
  | .error _, z => exact (show False from z).elim
  | .ok (.ret u), z => exact I1.after z
  | .ok .next, z => exact False.elim z
  | .ok .brk, z => exact False.elim z
  | .ok .cont, z => exact False.elim z
/-- isinstance(e, c), e an exception that is pinned here: its class D, its dict at d -/
def rIsP (K : PySem.W.Frag) (D a : Addr) (d : Option Addr) : List V → Hp → VK → Prop := fun xs H Q =>
  (d = none ∨ ∃ dd fs, d = some dd ∧ H dd = some (.xd fs)) ∧ ∃ (c : V) (cv : Value) (b : Bool), xs = [.ref a, c] ∧ (∀ u, RelV c u → u = cv) ∧ PySem.W.kitOne K (.ref D) cv = some b ∧ Q (.bl b) H
theorem call_isP {D : Addr} {d : Option Addr} (C : ExcC X.K D) (hp : p ∈ X.pn) (hz : Zc (.ref D) d p.2) (hf : ∃ vs, p.2.data = .fields vs) : CallR X (.builtin "isinstance") (rIsP X.K D p.1 d) := by
  intro pins s σ H xs us Q I r h
  obtain ⟨hd, c, cv, b, rfl, hcv, e, w⟩ := h
  obtain ⟨u, v, rfl, ru, rv⟩ := vals2 r
  cases (show u = Value.ref p.1 from ru)
  cases hcv _ rv
  obtain ⟨vs, ev⟩ := hf
  have ic : (PySem.W.clsIn X.K D).isSome = true := by
    obtain ⟨cd, z, _⟩ := PySem.W.any_some C.hd
    rw [z]
    rfl
  have at_ : ∃ od, PySem.W.InstAt s.heap p.1 p.2 D od := by
    have g := (I.pin p (List.mem_append_left _ hp)).1
    rcases hd with rfl | ⟨dd, fs, rfl, hh⟩
    · exact ⟨none, g, hz.1, by unfold PySem.W.notCls; rw [ev] <;> rfl, by rw [hz.2]; trivial⟩
    · obtain ⟨mA, ns, _⟩ := (show ObjOk X.prog X.w H s.heap dd (.xd fs) from I.hok dd _ hh)
      obtain ⟨od, ho, _⟩ := lookIn_ns ns
      exact ⟨some od, g, hz.1, by unfold PySem.W.notCls; rw [ev] <;> rfl, by rw [hz.2]; exact ho⟩
  obtain ⟨od, at_⟩ := at_
  exact PySem.W.kia_one (PySem.W.kitx_exc ic C.hg C.hk C.hs C.ha C.hn C.ht C.hm) I.kIn at_ e (fun z => nomatch z) fun tk => ⟨.bl b, H, I.kept (t' := tk) fun _ _ z => z, rfl, w⟩
end
/-! [e for x in range(n) if c] -/
section
variable {t te : TE} {tt : TT} {σ : St} {H : Hp} {j : Nat} {Q : VK}
theorem lc_rng_if (n : Nat) (b : Nat → Bool) (f : Nat → V) (ev : t σ H fun v H1 => v = .int n ∧ H1 = H) (hn : n < 100000)
    (test : ∀ (i : Nat) (L : Addr) (acc : List V) (R : Bool → Hp → Prop), i < n → H L = none → R (b i) (upd H L (.lst acc)) → tt ((wipe σ [j]).set j (some (.int i))) (upd H L (.lst acc)) R)
    (elt : ∀ (i : Nat) (L : Addr) (acc : List V) (R : VK), i < n → H L = none → b i = true → R (f i) (upd H L (.lst acc)) → te ((wipe σ [j]).set j (some (.int i))) (upd H L (.lst acc)) R)
    (fin : ∀ L, H L = none → Q (.ref L) (upd H L (.lst (((List.range n).filter b).map f)))) :
    tLc (iRng1 (tCons (eCut t) tNil)) (gName j) tt te [j] σ H Q := by
  refine ⟨_, ev, ?_⟩
  rintro v0 H0 ⟨rfl, e0⟩
  rw [e0]
  refine ⟨n, rfl, by omega, by omega, fun L hL => ?_⟩
  rw [show ((n : Int)).toNat = n from Int.toNat_natCast n]
  refine lc_range (lo := 0) (n := n) (fun i H' => H' = upd H L (.lst (((List.range i).filter b).map f))) rfl ?_ (fun H' e => by rw [e]; exact fin L hL)
  rintro i H' hi rfl
  rw [Int.zero_add]
  refine ⟨wipe1 _ _ _, test i L _ _ hi hL ?_⟩
  have ln : (((List.range i).filter b).map f).length ≤ i := by
    rw [List.length_map]
    exact Nat.le_trans (List.length_filter_le _ _) (by simp)
  cases hb : b i with
  | true =>
    rw [if_pos rfl]
    refine elt i L _ _ hi hL hb ?_
    refine ⟨_, upd_same, by rw [sizeLine_eq]; omega, ?_⟩
    rw [List.range_succ, List.filter_append, List.map_append]
    simp only [List.filter_cons, hb, if_true, List.filter_nil, List.map_cons, List.map_nil]
    funext a
    by_cases ha : a = L
    · rw [ha, upd_same, upd_same]
    · rw [upd_ne ha, upd_ne ha, upd_ne ha]
  | false =>
    rw [if_neg (by simp)]
    rw [List.range_succ, List.filter_append]
    simp [List.filter_cons, hb]
end
end L2.G
set_option Elab.async false
set_option linter.all false
set_option maxRecDepth 100000
set_option maxHeartbeats 2000000
namespace L2.G
open PySem PySem.Spec PyProof.Rows L2H
/-! repr of any data, also while an exception is handled -/
mutual
theorem dp_same {K : PySem.W.Frag} {H H' : Hp} (e : Same H H') : ∀ (d : PyData) (v : V), Dp K H v d → Dp K H' v d
  | .none, _, h => by cases h; exact .non
  | .bool b, _, h => by cases h; exact .bl b
  | .int i, _, h => by cases h; exact .int i
  | .str x, _, h => by cases h; exact .str x
  | .list ds, _, h => by
    cases h with
    | lst hs ha => exact .lst (by rcases hs with (z | ⟨o, z⟩) | z <;> first | exact .inl (.inl (e _ _ z)) | exact .inl (.inr ⟨o, e _ _ z⟩) | exact .inr z) (dp_sameAll e ds _ ha)
  | .tuple ds, _, h => by
    cases h with
    | tup hs ha => exact .tup (by rcases hs with (z | ⟨o, z⟩) | z <;> first | exact .inl (.inl (e _ _ z)) | exact .inl (.inr ⟨o, e _ _ z⟩) | exact .inr z) (dp_sameAll e ds _ ha)
  | .dict _, _, h => by cases h
theorem dp_sameAll {K : PySem.W.Frag} {H H' : Hp} (e : Same H H') : ∀ (ds : List PyData) (vs : List V), DpAll K H vs ds → DpAll K H' vs ds
  | [], _, h => by cases h; exact .nil
  | d :: ds, _, h => by
    cases h with
    | cons h1 h2 => exact .cons (dp_same e d _ h1) (dp_sameAll e ds _ h2)
end
/-- how a value is shown -/
def Shw (K : PySem.W.Frag) (H : Hp) : V → Str → Prop
  | .int i, z => i.natAbs.log2 < 1920 ∧ z = Str.ofString (toString i)
  | .bl b, z => z = if b then Str.ofString "True" else Str.ofString "False"
  | .non, z => z = "None"
  | .str x, z => (reprText x).length ≤ sizeLine ∧ z = reprText x
  | .ref a, z => (∃ d, Dp K H (.ref a) d ∧ d.showable = true ∧ d.hasDict = false ∧ d.depth ≤ 20 ∧ d.shown.length ≤ sizeLine ∧ z = d.shown) ∨ (H a = some (.dK []) ∧ z = (PyData.dict []).shown) ∨ (∃ k i, H a = some (.dK [(.inr k, .int i)]) ∧ i.natAbs.log2 < 1920 ∧ (PyData.dict [(.str k, .int i)]).shown.length ≤ sizeLine ∧ z = (PyData.dict [(.str k, .int i)]).shown)
  | _, _ => False
theorem Shw.same {K : PySem.W.Frag} {H H' : Hp} {v : V} {z : Str} (h : Shw K H v z) (e : Same H H') : Shw K H' v z := by
  cases v with
  | ref a =>
    rcases h with ⟨d, h1, h2⟩ | ⟨h1, h2⟩ | ⟨k, i, h1, h2⟩
    · exact .inl ⟨d, dp_same e d _ h1, h2⟩
    · exact .inr (.inl ⟨e _ _ h1, h2⟩)
    · exact .inr (.inr ⟨k, i, e _ _ h1, h2⟩)
  | _ => exact h
def rRp (K : PySem.W.Frag) : List V → Hp → VK → Prop := fun xs H Q => ∃ v z, xs = [v] ∧ Shw K H v z ∧ Q (.str z) H
theorem rRp_mono {K : PySem.W.Frag} : ∀ xs H (Q Q' : VK), (∀ v H', Same H H' → Q v H' → Q' v H') → rRp K xs H Q → rRp K xs H Q' := by
  rintro xs H Q Q' m ⟨v, z, e, s, q⟩
  exact ⟨v, z, e, s, m _ _ (Same.refl H) q⟩
theorem cr_rp {X : Cx} {k : Nat} (qt : Quiet X.A) (hr : RoomH k X.A) : CallR X (.builtin "repr") (rRp X.K) := by
  rintro pins s σ H xs us Q I r ⟨v, z, rfl, h, q⟩
  obtain ⟨u, rfl, ru⟩ := vals1 r
  have un : X.A.units + 30 < cLine := by have := hr.un; omega
  cases v with
  | int i =>
    obtain ⟨t, rfl⟩ := ru
    obtain ⟨h, rfl⟩ := h
    exact PySem.P.repr_of_int h ⟨.str _, H, I.tok _, ⟨_, rfl⟩, q⟩
  | bl b =>
    cases (show u = Value.bool b from ru)
    cases h
    exact PySem.P.repr_of_bool ⟨.str _, H, I.tok _, ⟨_, rfl⟩, q⟩
  | non =>
    cases (show u = Value.none from ru)
    cases h
    exact PySem.P.repr_of_none ⟨.str _, H, I.tok _, ⟨_, rfl⟩, q⟩
  | str x =>
    obtain ⟨t, rfl⟩ := ru
    obtain ⟨h, rfl⟩ := h
    exact PySem.P.repr_of_str ⟨.str _, H, I.tok _, ⟨_, rfl⟩, q⟩ h
  | ref a =>
    cases (show u = Value.ref a from ru)
    rcases h with ⟨d, hd, h1, h2, h3, h4, rfl⟩ | ⟨hd, rfl⟩ | ⟨k, i, hd, hi, hz, rfl⟩
    · obtain ⟨as, rd⟩ := Dp.reads I d (.ref a) _ hd rfl
      refine repr_of_reads' rd h1 (fun y => by rw [h2] at y; cases y) qt (by omega) (fun _ _ y => y) (fun h' u tk hk => ?_) h4
      exact ⟨.str d.shown, H, I.kept (t' := tk) hk, ⟨_, rfl⟩, q⟩
    · obtain ⟨_, ns, vs, kv, o, es, ep, e1, e2, e3, _, e4, _⟩ := (show ObjOk X.prog X.w H s.heap a (.dK []) from I.hok a _ hd)
      cases kv
      have z : es.toList = [] := by
        generalize es.toList = l at e4
        cases e4
        rfl
      have rd : Reads s.heap (.ref a) (.dict []) (a :: [] ++ []) := Reads.dict (kvs := []) e1 e2.1 e3 (by rw [z]; exact ReadsAll.nil) (by rw [z]; exact ReadsAll.nil)
      refine repr_of_reads' rd rfl (fun _ y => ?_) qt (by show X.A.units + (_ + 1) < cLine; have : (PyData.dict []).depth ≤ 20 := by decide
                                                          omega) (fun _ _ y => y) (fun h' u tk hk => ?_) (by rw [sizeLine_eq]; decide)
      · have y2 : sysModules = a := by simpa using y
        rw [y2] at ns
        simp at ns
      · exact ⟨.str _, H, I.kept (t' := tk) hk, ⟨_, rfl⟩, q⟩
    · obtain ⟨_, ns, vs, kv, o, es, ep, e1, e2, e3, _, e4, _⟩ := (show ObjOk X.prog X.w H s.heap a (.dK [(.inr k, .int i)]) from I.hok a _ hd)
      obtain ⟨x, tk0, ti, hx, rk, rv⟩ : ∃ x tk0 ti, es.toList = [x] ∧ x.key = .str k tk0 ∧ x.val = .int i ti := by
        unfold KV at kv
        generalize es.toList = l at e4
        cases kv with
        | cons h0 h00 =>
          cases h00
          obtain ⟨h1, h2⟩ := h0
          obtain ⟨ti, h2⟩ := h2
          dsimp only at h1 h2
          cases e4 with
          | cons h3 h4 h5 =>
            cases h5
            rw [← h1] at h3
            rw [h2] at h4
            obtain ⟨j, t, z1, z2⟩ | ⟨y, t, z1, z2⟩ := keyIs_shape (show keyIs (.inr k) _ = true from h3)
            · cases z1
            · cases z1
              exact ⟨_, t, ti, rfl, z2, h4⟩
      have rd : Reads s.heap (.ref a) (.dict [(.str k, .int i)]) (a :: ([] ++ []) ++ ([] ++ [])) := Reads.dict (kvs := [(.str k, .int i)]) e1 e2.1 e3 (by rw [hx]; show ReadsAll _ [x.key] [.str k] _; rw [rk]; exact ReadsAll.cons (.str _ _) .nil) (by rw [hx]; show ReadsAll _ [x.val] [.int i] _; rw [rv]; exact ReadsAll.cons (.int _ _) .nil)
      refine repr_of_reads' rd ?_ (fun _ y => ?_) qt ?_ (fun _ _ y => y) (fun h' u tk hk => ?_) hz
      · simp [PyData.showable, PyData.showableKv, hi]
      · have y2 : sysModules = a := by simpa using y
        rw [y2] at ns
        simp at ns
      · show X.A.units + (_ + 1) < cLine
        have : (PyData.dict [(.str k, .int i)]).depth ≤ 20 := by simp [PyData.depth, PyData.depthKv]
        omega
      · exact ⟨.str _, H, I.kept (t' := tk) hk, ⟨_, rfl⟩, q⟩
  | _ => exact h.elim
end L2.G
set_option Elab.async false
set_option linter.all false
set_option maxRecDepth 100000
set_option maxHeartbeats 2000000
namespace L2.G
open PySem PySem.Spec PyProof.Rows
/-! the end of a law whose defs show things and make lambdas: cs, the code objects of the makers and their tables -/
abbrev tabs (cs : List (Addr × Addr)) : List Addr := cs.map (·.2)
/-- nothing but the script and the tables is tracked -/
def OnlyT (cs : List (Addr × Addr)) (H : Hp) : Prop := ∀ b, H b = none ∨ b ∈ tabs cs ∨ ∃ o xs, H b = some (.frz o (.lst xs))
section
variable {P : Program} {w : World} {K : PySem.W.Frag} {mg mb : Str → Option Value} {k : Nat} {fa a : Addr} {cs : List (Addr × Addr)} {fd : FuncData} {x : Str} {sp : Sp} {s₁ : Shared} {vs : List Value} {ns : List Int}
theorem call_fromT (KX : K.In s₁.heap) (hns : s₁.heap.Ns mainGlobals mg) (hb : s₁.heap.Ns builtinsNs mb) (hbb : ∀ x : Str, x ≠ "__name__" → mb x = bootBuiltins x) (hlim : s₁.heap.NoLimit) (hg : s₁.gens = #[])
    (hT : ∀ p ∈ cs, s₁.heap.get? p.2 = some { cls := .none, data := .fields #[] }) (nT : ∀ p ∈ cs, K.lookup p.2 = none) (C : ∀ p ∈ cs, PySem.W.CodeHd s₁.heap p.1 p.2)
    (hbm : ∃ (bm : Addr) (ob : Obj), mg "__builtins__" = some (.ref bm) ∧ bm ≠ builtinsNs ∧ s₁.heap.get? bm = some ob ∧ ob.cls = .type "module" ∧ ob.dict = some builtinsNs ∧ ob.data = .plain)
    (ha : s₁.heap.get? a = some { cls := .type "list", data := .seq vs.toArray }) (hr : Room k callerA)
    (F : ∀ base : Heap, K.In base → base.Ns mainGlobals mg → (∀ p ∈ cs, LamX.TabB base mg p.1 p.2) → FnOkG P w K mg base CX0 k fa fd [x] sp) (hbind : ∀ (s : Shared) (u : Value), BindsTo s fd ⟨[u], []⟩ [(x, u)])
    (H : Hp) (hO : OnlyT cs H) (hH : ∀ p ∈ cs, H p.2 = some (.tbl #[])) (hsp : sp [.ref a] H (fun v _ => v = .bl true) fun _ _ _ => False) (hok : HOk P w H s₁.heap) (hA : ∀ b, H b ≠ none → b = a ∨ b ∈ tabs cs) (hK : H a ≠ none → K.lookup a = none) :
    codeAny (model P w) callerA (.call (.ref fa) ⟨[.ref a], []⟩) (fun r s' => r = .ok (.ret (.bool true)) ∧ OldK s₁.heap s'.heap ∧ s'.os = s₁.os ∧ AllBare s'.gens) s₁ := by
  have tab : ∀ {b}, b ∈ tabs cs → ∃ p ∈ cs, p.2 = b := fun {b} z => by simpa using List.mem_map.mp z
  have some_ne : ∀ {b : Addr} {u : HO}, H b = some u → b = a ∨ b ∈ tabs cs := fun {b u} q => hA b (by rw [q]; exact fun z => nomatch z)
  -- what is neither a sequence nor an empty record is not tracked
  have free : ∀ {b : Addr} {o : Obj}, s₁.heap.get? b = some o → (∀ v n, o.data ≠ .seq v n) → o.data ≠ .fields #[] → H b = none := by
    intro b o e n1 n2
    match q : H b with
    | none => rfl
    | some u =>
      rcases some_ne q with rfl | z
      · rw [ha] at e
        cases e
        exact absurd rfl (n1 _ _)
      · obtain ⟨p, hp, rfl⟩ := tab z
        rw [hT p hp] at e
        cases e
        exact absurd rfl n2
  have ns' : ∀ {b : Addr} {m : Str → Option Value}, s₁.heap.Ns b m → (hidT s₁.heap H).Ns b m := by
    rintro b m ⟨o, es, ep, e, d, r⟩
    exact ⟨o, es, ep, hidT_get e (free e (by rw [d]; exact fun _ _ z => nomatch z) (by rw [d]; exact fun z => nomatch z)), d, r⟩
  have inB : K.In (hidT s₁.heap H) := by
    intro b o e
    refine hidT_get (KX b o e) ?_
    match q : H b with
    | none => rfl
    | some u =>
      rcases some_ne q with rfl | z
      · rw [hK (by rw [q]; exact fun z => nomatch z)] at e
        cases e
      · obtain ⟨p, hp, rfl⟩ := tab z
        rw [nT p hp] at e
        cases e
  have md : Mod K mg (hidT s₁.heap H) := by
    obtain ⟨mc, h1, h2⟩ := hlim
    exact ⟨inB, ns' hns, ⟨mb, ns' hb, hbb⟩, mc, ns' h1, h2⟩
  have tb : ∀ p ∈ cs, LamX.TabB (hidT s₁.heap H) mg p.1 p.2 := by
    intro p hp
    have t := hT p hp
    obtain ⟨og, es, ep, eg, dg, _⟩ := hns
    constructor
    · obtain ⟨o, us, file, tf, fl, tg, inF, tx, tt, e, c1, c2, c3, rest⟩ := C p hp
      refine ⟨o, us, file, tf, fl, tg, inF, tx, tt, hidT_get e (free e (by rw [c2]; exact fun _ _ z => nomatch z) (fun z => ?_)), c1, c2, c3, rest⟩
      rw [c2] at z
      cases z
      simp at c3
    · obtain ⟨bm, ob, b1, b2, b3, b4, b5, b6⟩ := hbm
      refine ⟨bm, ob, b1, b2, fun z => ?_, fun z => ?_, hidT_get b3 (free b3 (by rw [b6]; exact fun _ _ z => nomatch z) (by rw [b6]; exact fun z => nomatch z)), b4, b5, b6⟩
      · rw [z, eg] at b3
        cases b3
        rw [dg] at b6
        cases b6
      · rw [z, t] at b3
        cases b3
        cases b6
    · intro z
      rw [z, t] at eg
      cases eg
      cases dg
  have e0 : Env0 P w K mg (hidT s₁.heap H) callerA [] s₁ H := ⟨rfl, md, fun _ _ e => of_hidT e, Nat.le_of_eq (hidT_size _ _), trivial, fun b hb => (nomatch (show b ∈ ([] : List Addr) from hb)), hok, .of_eq hg⟩
  refine codeAny_mono ((F _ inB (ns' hns) tb).run callerA [] s₁ H ⟨[.ref a], []⟩ [.ref a] [.ref a] _ _ quiet_caller hr e0 (hbind s₁ (.ref a)) (.cons rfl .nil) hsp) fun r s' h => ?_
  match r, h with
  | .error _, h => exact False.elim h
  | .ok .next, h => exact False.elim h
  | .ok .brk, h => exact False.elim h
  | .ok .cont, h => exact False.elim h
  | .ok (.ret u), ⟨v, H', os, bare, un, hok', r', q⟩ =>
    cases (show v = .bl true from q)
    cases (show u = Value.bool true from r')
    have kept : ∀ b o, b ∉ tabs cs → s₁.heap.get? b = some o → s'.heap.get? b = some o := by
      intro b o nb e
      rcases hO b with z | z | ⟨ob, xs, z⟩
      · exact un.keep b o e z (fun y => nomatch (show b ∈ ([] : List Addr) from y)) (fun y => nomatch y)
      · exact absurd z nb
      · have e1 := (hok b _ z).1
        rw [e] at e1
        cases e1
        exact (hok' b _ (un.frzs b _ _ z)).1
    have grown : ∀ p ∈ cs, ∃ more : Array Value, s'.heap.get? p.2 = some { cls := .none, data := .fields more } := fun p hp => by
      obtain ⟨more, z⟩ := un.tbls p.2 #[] (hH p hp)
      exact ⟨_, hok' p.2 _ z⟩
    refine ⟨rfl, ⟨fun b o e => ?_, fun b o e => ?_⟩, os, bare⟩
    · by_cases z : b ∈ tabs cs
      · obtain ⟨p, hp, rfl⟩ := tab z
        obtain ⟨more, m⟩ := grown p hp
        rw [hT p hp] at e
        cases e
        exact .inr (.inl ⟨((C p hp).tab (hT p hp)).isCodeTable, rfl, #[], more, rfl, by rw [Array.empty_append]; exact m⟩)
      · exact .inl (kept b o z e)
    · by_cases z : b ∈ tabs cs
      · obtain ⟨p, hp, rfl⟩ := tab z
        obtain ⟨more, m⟩ := grown p hp
        exact ⟨_, m⟩
      · exact ⟨o, kept b o z e⟩
theorem law_callGT (KX : K.In s₁.heap) (hns : s₁.heap.Ns mainGlobals mg) (hb : s₁.heap.Ns builtinsNs mb) (hbb : ∀ x : Str, x ≠ "__name__" → mb x = bootBuiltins x) (hlim : s₁.heap.NoLimit) (hg : s₁.gens = #[])
    (hT : ∀ p ∈ cs, s₁.heap.get? p.2 = some { cls := .none, data := .fields #[] }) (nT : ∀ p ∈ cs, K.lookup p.2 = none) (C : ∀ p ∈ cs, PySem.W.CodeHd s₁.heap p.1 p.2)
    (hbm : ∃ (bm : Addr) (ob : Obj), mg "__builtins__" = some (.ref bm) ∧ bm ≠ builtinsNs ∧ s₁.heap.get? bm = some ob ∧ ob.cls = .type "module" ∧ ob.dict = some builtinsNs ∧ ob.data = .plain)
    (ha : s₁.heap.get? a = some { cls := .type "list", data := .seq vs.toArray }) (hi : IntsAre vs ns) (hl : ns.length ≤ sizeLine) (hr : Room k callerA)
    (F : ∀ base : Heap, K.In base → base.Ns mainGlobals mg → (∀ p ∈ cs, LamX.TabB base mg p.1 p.2) → FnOkG P w K mg base CX0 k fa fd [x] sp) (hbind : ∀ (s : Shared) (u : Value), BindsTo s fd ⟨[u], []⟩ [(x, u)])
    (hsp : ∀ H : Hp, OnlyT cs H → (∀ p ∈ cs, H p.2 = some (.tbl #[])) → SqL K H a (ns.map V.int) → sp [.ref a] H (fun v _ => v = .bl true) fun _ _ _ => False) :
    codeAny (model P w) callerA (.call (.ref fa) ⟨[.ref a], []⟩) (fun r s' => r = .ok (.ret (.bool true)) ∧ OldK s₁.heap s'.heap ∧ s'.os = s₁.os ∧ AllBare s'.gens) s₁ := by
  have go := call_fromT (P := P) (w := w) (sp := sp) KX hns hb hbb hlim hg hT nT C hbm ha hr F hbind
  have isT : ∀ b ∈ tabs cs, s₁.heap.get? b = some { cls := .none, data := .fields #[] } := fun b z => by
    obtain ⟨p, hp, rfl⟩ := List.mem_map.mp z
    exact hT p hp
  have aT : a ∉ tabs cs := fun z => by
    have e := isT a z
    rw [ha] at e
    cases e
  match hk : K.lookup a with
  | some o =>
    have e := KX a o hk
    rw [ha] at e
    cases e
    let H : Hp := fun b => if b ∈ tabs cs then some (.tbl #[]) else none
    have on : ∀ b, b ∈ tabs cs → H b = some (.tbl #[]) := fun b z => if_pos z
    have off : ∀ b, b ∉ tabs cs → H b = none := fun b z => if_neg z
    have only : OnlyT cs H := fun b => by
      by_cases z : b ∈ tabs cs
      · exact .inr (.inl z)
      · exact .inl (off b z)
    have hH : ∀ p ∈ cs, H p.2 = some (.tbl #[]) := fun p hp => on _ (List.mem_map.mpr ⟨p, hp, rfl⟩)
    refine go H only hH (hsp H only hH (.inr ⟨_, vs.toArray, _, hk, rfl, rfl, rfl, ?_, ?_⟩)) (fun b u z => ?_) (fun b z => ?_) fun z => absurd (off a aT) z
    · rw [List.size_toArray, hi.length]
      exact hl
    · simpa using vals_ints hi
    · by_cases y : b ∈ tabs cs
      · rw [on b y] at z
        cases z
        exact isT b y
      · rw [off b y] at z
        cases z
    · by_cases y : b ∈ tabs cs
      · exact .inr y
      · exact absurd (off b y) z
  | none =>
    let H : Hp := fun b => if b = a then some (.frz { cls := .type "list", data := .seq vs.toArray } (.lst (ns.map V.int))) else if b ∈ tabs cs then some (.tbl #[]) else none
    have at_ : H a = some (.frz { cls := .type "list", data := .seq vs.toArray } (.lst (ns.map V.int))) := if_pos rfl
    have on : ∀ b, b ∈ tabs cs → H b = some (.tbl #[]) := fun b z => (if_neg (fun y : b = a => aT (y ▸ z))).trans (if_pos z)
    have off : ∀ b, b ≠ a → b ∉ tabs cs → H b = none := fun b n z => (if_neg n).trans (if_neg z)
    have only : OnlyT cs H := fun b => by
      by_cases n : b = a
      · exact n ▸ .inr (.inr ⟨_, _, at_⟩)
      · by_cases z : b ∈ tabs cs
        · exact .inr (.inl z)
        · exact .inl (off b n z)
    have hH : ∀ p ∈ cs, H p.2 = some (.tbl #[]) := fun p hp => on _ (List.mem_map.mpr ⟨p, hp, rfl⟩)
    refine go H only hH (hsp H only hH (.inl (.inr ⟨_, at_⟩))) (fun b u z => ?_) (fun b z => ?_) fun _ => hk
    · by_cases n : b = a
      · subst n
        rw [at_] at z
        cases z
        refine ⟨ha, ?_, vs, _, vals_ints hi, ha⟩
        rw [List.length_map]
        exact hl
      · by_cases y : b ∈ tabs cs
        · rw [on b y] at z
          cases z
          exact isT b y
        · rw [off b n y] at z
          cases z
    · by_cases n : b = a
      · exact .inl n
      · by_cases y : b ∈ tabs cs
        · exact .inr y
        · exact absurd (off b n y) z
end
/-- what is known of the law's promise at the head's heap h -/
def LawG (l : PySem.W.OpenLaw) (w : World) (K : PySem.W.Frag) (k n : Nat) (x : Str) (mg : Str → Option Value) (fa : Addr) (h : Heap) : Prop :=
  ∃ (fd : FuncData) (cs : List (Addr × Addr)) (sp : Sp), (∀ p ∈ cs, h.get? p.2 = some { cls := .none, data := .fields #[] }) ∧ (∀ p ∈ cs, K.lookup p.2 = none) ∧ (∀ p ∈ cs, PySem.W.CodeHd h p.1 p.2) ∧ (∀ (s : Shared) (u : Value), BindsTo s fd ⟨[u], []⟩ [(x, u)]) ∧
    (∀ (H : Hp) (a : Addr) (ns : List Int), ns.length ≤ n → OnlyT cs H → (∀ p ∈ cs, H p.2 = some (.tbl #[])) → SqL K H a (ns.map V.int) → sp [.ref a] H (fun v _ => v = .bl true) fun _ _ _ => False) ∧
    ∀ base : Heap, K.In base → base.Ns mainGlobals mg → (∀ p ∈ cs, LamX.TabB base mg p.1 p.2) → FnOkG l.prog w K mg base CX0 k fa fd [x] sp
theorem walk_ofGT {l : PySem.W.OpenLaw} {n k : Nat} {q : Program} {loose : List Str} {XP : (Str → Option Value) → Heap → Prop} {YP : World → Heap → Prop} {d : DefRec} {K : Params → PySem.W.Frag} {x : Str}
    (hn : l.most = some n) (hn2 : n ≤ sizeLine) (hdf : d.params.defaults = []) (hr : Room k callerA) (hY : ∀ (w : World) (h : Heap), YP w h → (K w.params).In h)
    (F : ∀ (w : World) (mg : Str → Option Value) (fa : Addr) (h : Heap), YP w h → (K w.params).In h → h.Ns mainGlobals mg → mg d.name = some (.ref fa) → LawG l w (K w.params) k n x mg fa h) :
    PySem.W.WalkO q loose XP YP l.row.toRowW d [] (fun f vs => PySem.call f vs) := by
  refine Att.attach_call hn hdf fun w s₀ s₁ mg mb fa o pm cd doc a vs ns G Y ho hd hcd hmg hobj hints hlen hg => ?_
  obtain ⟨fd, cs, sp, hT, nT, C, hb, hsp, hF⟩ := F w mg fa _ Y (hY w _ Y) G.T.g hmg
  exact law_callGT (hY w _ Y) G.T.g G.T.b G.T.builtins G.T.nolimit hg hT nT C G.T.bmain hobj hints (Nat.le_trans hlen hn2) hr hF hb fun H hO hH hS => hsp H a ns hlen hO hH hS
end L2.G
set_option Elab.async false
set_option linter.all false
set_option maxRecDepth 100000
set_option maxHeartbeats 2000000
namespace L2.G
open PySem PySem.Spec PyProof.Rows
/-! data, without the heap -/
inductive D where
  | non | bl (b : Bool) | int (i : Int) | str (z : Str)
  | tup (xs : List D) | lst (xs : List D) | dic
  | ins (C : Str) (ns : List Str) (ds : List D)
  | dct (ks : List Key) (ds : List D)
  | exc (C : Str) (ns : List Str) (ds : List D)
  | cup
  | scr (ns : List Int)
/-- the state of the draws -/
abbrev Cu := Option (Int × Int)
/-- an error: its class, its fields -/
structure Xc where
  cls : Str
  ns : List Str
  ds : List D
/-- an answer: stuck, a value, an error -/
inductive R (α : Type) where
  | no
  | ok (a : α) (c : Cu)
  | er (x : Xc) (c : Cu)
def R.bind {α β : Type} : R α → (α → Cu → R β) → R β
  | .no, _ => .no
  | .ok a c, f => f a c
  | .er x c, _ => .er x c
theorem R.no_bind {α β : Type} (f : α → Cu → R β) : (R.no : R α).bind f = .no := rfl
theorem R.ok_bind {α β : Type} (a : α) (c : Cu) (f : α → Cu → R β) : (R.ok a c).bind f = f a c := rfl
theorem R.er_bind {α β : Type} (x : Xc) (c : Cu) (f : α → Cu → R β) : (R.er x c : R α).bind f = .er x c := rfl
def ofO {α : Type} : Option α → Cu → R α
  | some a, c => .ok a c
  | none, _ => .no
theorem ofO_some {α : Type} (a : α) (c : Cu) : ofO (some a) c = .ok a c := rfl
theorem ofO_none {α : Type} (c : Cu) : ofO (none : Option α) c = .no := rfl
abbrev PSt := List (Option D)
abbrev PM (α : Type) := PSt → Cu → R α
/-! where data stands -/
/-- what may be written without being one's own: the cup of draws, the tables of code objects -/
structure Pc where
  cup : Option Addr
  tabs : List (Addr × Str)
def Off (pc : Pc) (b : Addr) : Prop := some b ≠ pc.cup ∧ ∀ p ∈ pc.tabs, p.1 ≠ b
structure Ga where
  K : PySem.W.Frag
  cm : Str → Addr
  cs : List Str
  pc : Pc
/-- a text that can be held and laid -/
def txtOk (z : Str) : Bool := decide (z.length ≤ sizeLine) && z.cps.all (· < 0x110000)
theorem txtOk_len {z : Str} (h : txtOk z = true) : z.length ≤ sizeLine := of_decide_eq_true (Bool.and_eq_true_iff.mp h).1
theorem txtOk_all {z : Str} (h : txtOk z = true) : z.cps.all (· < 0x110000) = true := (Bool.and_eq_true_iff.mp h).2
theorem txtOk_iff {z : Str} : txtOk z = true ↔ z.cps.toList.length ≤ sizeLine ∧ ∀ c ∈ z.cps.toList, c < 0x110000 := by
  unfold txtOk
  rw [Bool.and_eq_true, decide_eq_true_eq, Array.length_toList, ← Array.all_toList, List.all_eq_true]
  simp only [decide_eq_true_eq]
  rfl
mutual
def Rl (g : Ga) (H : Hp) : D → V → Prop
  | .non, v => v = .non
  | .bl b, v => v = .bl b
  | .int i, v => v = .int i
  | .str z, v => v = .str z ∧ txtOk z = true
  | .tup ds, v => ∃ a vs, v = .ref a ∧ SqT g.K H a vs ∧ ds.length ≤ sizeLine ∧ RlL g H ds vs
  | .lst ds, v => ∃ a vs, v = .ref a ∧ H a = some (.lst vs) ∧ ds.length ≤ sizeLine ∧ RlL g H ds vs
  | .dic, v => ∃ a, v = .ref a ∧ H a = some (.dK [])
  | .ins C ns ds, v => C ∈ g.cs ∧ ∃ a dx gs, v = .ref a ∧ H a = some (.ins (g.cm C) dx gs) ∧ gs.map (·.1) = ns ∧ RlL g H ds (gs.map (·.2))
  | .dct ks ds, v => ∃ a kvs, v = .ref a ∧ H a = some (.dK kvs) ∧ kvs.map (·.1) = ks ∧ RlL g H ds (kvs.map (·.2))
  | .exc C ns ds, v => ∃ a fs, v = .ref a ∧ ((fs = [] ∧ H a = some (exo a (g.cm C) none)) ∨ ∃ dx, H a = some (exo a (g.cm C) (some dx)) ∧ H dx = some (exd dx fs)) ∧ fs.map (·.1) = ns ∧ RlL g H ds (fs.map (·.2))
  | .cup, v => ∃ a, g.pc.cup = some a ∧ v = .ref a
  | .scr ns, v => ∃ a, v = .ref a ∧ SqL g.K H a (ns.map V.int)
def RlL (g : Ga) (H : Hp) : List D → List V → Prop
  | [], vs => vs = []
  | d :: ds, vs => ∃ v r, vs = v :: r ∧ Rl g H d v ∧ RlL g H ds r
end
theorem seqT_mono {K : PySem.W.Frag} {H H' : Hp} {a : Addr} {xs : List V} (e : Same H H') (h : SqT K H a xs) : SqT K H' a xs := Evl.ex_t e h
mutual
theorem Rl.mono {g : Ga} {H H' : Hp} (e : Same H H') : ∀ (d : D) (v : V), Rl g H d v → Rl g H' d v
  | .non, v, h => by unfold Rl at h ⊢; exact h
  | .bl b, v, h => by unfold Rl at h ⊢; exact h
  | .int i, v, h => by unfold Rl at h ⊢; exact h
  | .str z, v, h => by unfold Rl at h ⊢; exact h
  | .tup ds, v, h => by
    unfold Rl at h ⊢
    obtain ⟨a, vs, h1, h2, h0, h3⟩ := h
    exact ⟨a, vs, h1, seqT_mono e h2, h0, RlL.mono e ds vs h3⟩
  | .lst ds, v, h => by
    unfold Rl at h ⊢
    obtain ⟨a, vs, h1, h2, h0, h3⟩ := h
    exact ⟨a, vs, h1, e _ _ h2, h0, RlL.mono e ds vs h3⟩
  | .dic, v, h => by
    unfold Rl at h ⊢
    obtain ⟨a, h1, h2⟩ := h
    exact ⟨a, h1, e _ _ h2⟩
  | .ins C ns ds, v, h => by
    unfold Rl at h ⊢
    obtain ⟨hC, a, dx, gs, h1, h2, h3, h4⟩ := h
    exact ⟨hC, a, dx, gs, h1, e _ _ h2, h3, RlL.mono e ds _ h4⟩
  | .dct ks ds, v, h => by
    unfold Rl at h ⊢
    obtain ⟨a, kvs, h1, h2, h3, h4⟩ := h
    exact ⟨a, kvs, h1, e _ _ h2, h3, RlL.mono e ds _ h4⟩
  | .exc C ns ds, v, h => by
    unfold Rl at h ⊢
    obtain ⟨a, fs, h1, h2, h3, h4⟩ := h
    refine ⟨a, fs, h1, ?_, h3, RlL.mono e ds _ h4⟩
    rcases h2 with ⟨h5, h6⟩ | ⟨dx, h5, h6⟩
    · exact .inl ⟨h5, e _ _ h6⟩
    · exact .inr ⟨dx, e _ _ h5, e _ _ h6⟩
  | .cup, v, h => by unfold Rl at h ⊢; exact h
  | .scr ns, v, h => by
    unfold Rl at h ⊢
    obtain ⟨a, h1, h2⟩ := h
    exact ⟨a, h1, Evl.ex_l e h2⟩
theorem RlL.mono {g : Ga} {H H' : Hp} (e : Same H H') : ∀ (ds : List D) (vs : List V), RlL g H ds vs → RlL g H' ds vs
  | [], vs, h => by unfold RlL at h ⊢; exact h
  | d :: ds, vs, h => by
    unfold RlL at h ⊢
    obtain ⟨v, r, h1, h2, h3⟩ := h
    exact ⟨v, r, h1, Rl.mono e d v h2, RlL.mono e ds r h3⟩
end
section
variable {g : Ga} {H : Hp} {v : V} {vs : List V} {d : D} {ds : List D}
theorem rl_non : Rl g H .non v ↔ v = .non := by unfold Rl; rfl
theorem rl_bl {b : Bool} : Rl g H (.bl b) v ↔ v = .bl b := by unfold Rl; rfl
theorem rl_int {i : Int} : Rl g H (.int i) v ↔ v = .int i := by unfold Rl; rfl
theorem rl_str {z : Str} : Rl g H (.str z) v ↔ v = .str z ∧ txtOk z = true := by unfold Rl; rfl
theorem rl_tup : Rl g H (.tup ds) v ↔ ∃ a vs, v = .ref a ∧ SqT g.K H a vs ∧ ds.length ≤ sizeLine ∧ RlL g H ds vs := by unfold Rl; rfl
theorem rl_lst : Rl g H (.lst ds) v ↔ ∃ a vs, v = .ref a ∧ H a = some (.lst vs) ∧ ds.length ≤ sizeLine ∧ RlL g H ds vs := by unfold Rl; rfl
theorem rl_dic : Rl g H .dic v ↔ ∃ a, v = .ref a ∧ H a = some (.dK []) := by unfold Rl; rfl
theorem rl_ins {C : Str} {ns : List Str} : Rl g H (.ins C ns ds) v ↔ C ∈ g.cs ∧ ∃ a dx gs, v = .ref a ∧ H a = some (.ins (g.cm C) dx gs) ∧ gs.map (·.1) = ns ∧ RlL g H ds (gs.map (·.2)) := by unfold Rl; rfl
theorem rl_dct {ks : List Key} : Rl g H (.dct ks ds) v ↔ ∃ a kvs, v = .ref a ∧ H a = some (.dK kvs) ∧ kvs.map (·.1) = ks ∧ RlL g H ds (kvs.map (·.2)) := by unfold Rl; rfl
theorem rl_exc {C : Str} {ns : List Str} : Rl g H (.exc C ns ds) v ↔ ∃ a fs, v = .ref a ∧ ((fs = [] ∧ H a = some (exo a (g.cm C) none)) ∨ ∃ dx, H a = some (exo a (g.cm C) (some dx)) ∧ H dx = some (exd dx fs)) ∧ fs.map (·.1) = ns ∧ RlL g H ds (fs.map (·.2)) := by unfold Rl; rfl
theorem rl_cup : Rl g H .cup v ↔ ∃ a, g.pc.cup = some a ∧ v = .ref a := by unfold Rl; rfl
theorem rl_scr {ns : List Int} : Rl g H (.scr ns) v ↔ ∃ a, v = .ref a ∧ SqL g.K H a (ns.map V.int) := by unfold Rl; rfl
theorem rll_nil : RlL g H [] vs ↔ vs = [] := by unfold RlL; rfl
theorem rll_cons : RlL g H (d :: ds) vs ↔ ∃ v r, vs = v :: r ∧ Rl g H d v ∧ RlL g H ds r := Iff.of_eq (by rw [RlL])
theorem RlL.length : ∀ {ds : List D} {vs : List V}, RlL g H ds vs → vs.length = ds.length
  | [], vs, h => by rw [rll_nil.mp h]; rfl
  | d :: ds, vs, h => by
    obtain ⟨v, r, rfl, _, h⟩ := rll_cons.mp h
    simp [RlL.length h]
theorem RlL.append : ∀ {ds es : List D} {vs us : List V}, RlL g H ds vs → RlL g H es us → RlL g H (ds ++ es) (vs ++ us)
  | [], es, vs, us, h, k => by rw [rll_nil.mp h]; exact k
  | d :: ds, es, vs, us, h, k => by
    obtain ⟨v, r, rfl, h1, h⟩ := rll_cons.mp h
    exact rll_cons.mpr ⟨v, _, rfl, h1, RlL.append h k⟩
theorem RlL.get : ∀ {ds : List D} {vs : List V} {i : Nat} {d : D}, RlL g H ds vs → ds[i]? = some d → ∃ v, vs[i]? = some v ∧ Rl g H d v
  | [], _, _, _, _, e => by simp at e
  | x :: ds, vs, 0, d, h, e => by
    obtain ⟨v, r, rfl, h1, h⟩ := rll_cons.mp h
    simp at e
    subst e
    exact ⟨v, rfl, h1⟩
  | x :: ds, vs, i + 1, d, h, e => by
    obtain ⟨v, r, rfl, h1, h⟩ := rll_cons.mp h
    obtain ⟨u, e2, q⟩ := RlL.get (i := i) (d := d) h (by simpa using e)
    exact ⟨u, by simpa using e2, q⟩
theorem RlL.getV : ∀ {ds : List D} {vs : List V} {i : Nat} {v : V}, RlL g H ds vs → vs[i]? = some v → ∃ d, ds[i]? = some d ∧ Rl g H d v := by
  intro ds vs i v h e
  have hl := h.length
  have hi : i < ds.length := by
    have := (List.getElem?_eq_some_iff.mp e).1
    omega
  obtain ⟨u, e2, q⟩ := h.get (i := i) (d := ds[i]) (by simp [hi])
  rw [e] at e2
  cases e2
  exact ⟨_, by simp [hi], q⟩
theorem RlL.set : ∀ {ds : List D} {vs : List V} (i : Nat) {d : D} {v : V}, RlL g H ds vs → Rl g H d v → RlL g H (ds.set i d) (vs.set i v)
  | [], vs, _, _, _, h, _ => by rw [rll_nil.mp h]; exact rll_nil.mpr rfl
  | x :: ds, vs, 0, d, v, h, q => by
    obtain ⟨u, r, rfl, h1, h⟩ := rll_cons.mp h
    exact rll_cons.mpr ⟨v, r, rfl, q, h⟩
  | x :: ds, vs, i + 1, d, v, h, q => by
    obtain ⟨u, r, rfl, h1, h⟩ := rll_cons.mp h
    exact rll_cons.mpr ⟨u, _, rfl, h1, RlL.set i h q⟩
theorem RlL.take : ∀ {ds : List D} {vs : List V} (n : Nat), RlL g H ds vs → RlL g H (ds.take n) (vs.take n)
  | _, _, 0, _ => by simp [rll_nil]
  | [], vs, n + 1, h => by rw [rll_nil.mp h]; exact rll_nil.mpr rfl
  | x :: ds, vs, n + 1, h => by
    obtain ⟨u, r, rfl, h1, h⟩ := rll_cons.mp h
    exact rll_cons.mpr ⟨u, _, rfl, h1, RlL.take n h⟩
theorem RlL.drop : ∀ {ds : List D} {vs : List V} (n : Nat), RlL g H ds vs → RlL g H (ds.drop n) (vs.drop n)
  | _, _, 0, h => h
  | [], vs, n + 1, h => by rw [rll_nil.mp h]; exact rll_nil.mpr rfl
  | x :: ds, vs, n + 1, h => by
    obtain ⟨u, r, rfl, h1, h⟩ := rll_cons.mp h
    exact RlL.drop n h
theorem RlL.map {α : Type} (f : α → D) (k : α → V) : ∀ {l : List α}, (∀ x ∈ l, Rl g H (f x) (k x)) → RlL g H (l.map f) (l.map k)
  | [], _ => rll_nil.mpr rfl
  | x :: l, h => rll_cons.mpr ⟨k x, _, rfl, h x (by simp), RlL.map f k fun y hy => h y (by simp [hy])⟩
end
/-! growth -/
def CupC (pc : Option Addr) (Hs H : Hp) (c : Cu) : Prop := match pc, c with
  | none, none => True
  | some p, some (a, b) => Hs p = none ∧ H p = some (.lst [.int a, .int b])
  | _, _ => False
structure CupAt (pc : Pc) (Hs H : Hp) (c : Cu) : Prop where
  cp : CupC pc.cup Hs H c
  tb : LamX.Tabs pc.tabs H
  th : ∀ p ∈ pc.tabs, Hs p.1 = none
  nt : ∀ b ps, Hs b ≠ some (.tbl ps)
/-- no table -/
def Nt (o : HO) : Prop := ∀ ps, o ≠ .tbl ps
/-- nothing but a table may stand there -/
def Fr (H : Hp) (p : Addr) : Prop := ∀ o, Nt o → H p ≠ some o
theorem fr_none {H : Hp} {p : Addr} (h : H p = none) : Fr H p := fun o _ e => by rw [h] at e; cases e
theorem ne_fr {H : Hp} {p b : Addr} {u : HO} (e : H b = some u) (t : Nt u) (h : Fr H p) : b ≠ p := fun z => h u t (z ▸ e)
structure Fn (pc : Pc) (Hs H Hs' H' : Hp) (c' : Cu) : Prop where
  ss : Same Hs Hs'
  bt : ∀ b o, Off pc b → Nt o → H b = some o → H' b = some o
  nw : ∀ b o, Nt o → H b = some o → Hs b = none → Hs' b = none
  sm : Same Hs' H'
  cu : CupAt pc Hs' H' c'
section
variable {pc : Pc} {Hs H Hs1 H1 Hs2 H2 Hs' H' : Hp} {c c1 c2 : Cu}
theorem CupAt.off (h : CupAt pc Hs H c) {p : Addr} (n : ¬ Off pc p) : Hs p = none := by
  by_cases z : some p = pc.cup
  · have q := h.cp
    rw [← z] at q
    unfold CupC at q
    cases c with
    | none => exact q.elim
    | some ab => exact q.1
  · by_cases y : ∀ q ∈ pc.tabs, q.1 ≠ p
    · exact absurd ⟨z, y⟩ n
    · obtain ⟨q, hq, e⟩ : ∃ q ∈ pc.tabs, q.1 = p := by
        refine Classical.byContradiction fun w => y fun q hq e => w ⟨q, hq, e⟩
      rw [← e]
      exact h.th q hq
theorem CupAt.on {p : Addr} (h : CupAt pc Hs H c) (hp : pc.cup = some p) : ∃ a b, c = some (a, b) ∧ H p = some (.lst [.int a, .int b]) := by
  have q := h.cp
  rw [hp] at q
  unfold CupC at q
  cases c with
  | none => exact q.elim
  | some ab => exact ⟨_, _, rfl, q.2⟩
theorem CupAt.none_c {c : Cu} (h : CupAt pc Hs H c) (hp : pc.cup = none) : c = none := by
  have q := h.cp
  rw [hp] at q
  unfold CupC at q
  cases c with
  | none => rfl
  | some ab => exact q.elim
/-- what may be written is there -/
theorem CupAt.is (h : CupAt pc Hs H c) {p : Addr} (n : ¬ Off pc p) : ∃ o, H p = some o := by
  by_cases z : some p = pc.cup
  · obtain ⟨a, b, _, e⟩ := h.on z.symm
    exact ⟨_, e⟩
  · by_cases y : ∀ q ∈ pc.tabs, q.1 ≠ p
    · exact absurd ⟨z, y⟩ n
    · obtain ⟨q, hq, e⟩ : ∃ q ∈ pc.tabs, q.1 = p := by
        refine Classical.byContradiction fun w => y fun q hq e => w ⟨q, hq, e⟩
      obtain ⟨ps, h1, _⟩ := h.tb q hq
      rw [← e]
      exact ⟨_, h1⟩
theorem CupAt.ne (h : CupAt pc Hs H c) {p : Addr} (np : H p = none) : Off pc p := by
  refine Classical.byContradiction fun n => ?_
  obtain ⟨o, e⟩ := h.is n
  rw [np] at e
  cases e
/-- the heap grows or changes elsewhere -/
theorem CupAt.hs (h : CupAt pc Hs H c) (f : ∀ b, ¬ Off pc b → Hs b = none → Hs' b = none) (n : ∀ b ps, Hs' b ≠ some (.tbl ps)) : CupAt pc Hs' H c := by
  refine ⟨?_, h.tb, fun p hp => f _ (fun z => z.2 p hp rfl) (h.th p hp), n⟩
  have q := h.cp
  revert q
  cases e : pc.cup with
  | none => unfold CupC; cases c <;> exact fun q => q
  | some p =>
    unfold CupC
    cases c with
    | none => exact fun q => q
    | some ab => exact fun q => ⟨f p (fun z => z.1 e.symm) q.1, q.2⟩
theorem CupAt.hp (h : CupAt pc Hs H c) (f : ∀ p, pc.cup = some p → ∀ o, H p = some o → H' p = some o) (t : LamX.Tabs pc.tabs H') : CupAt pc Hs H' c := by
  refine ⟨?_, t, h.th, h.nt⟩
  have q := h.cp
  revert q
  cases e : pc.cup with
  | none => unfold CupC; cases c <;> exact fun q => q
  | some p =>
    unfold CupC
    cases c with
    | none => exact fun q => q
    | some ab => exact fun q => ⟨q.1, f p e _ q.2⟩
/-- an object that is neither a table nor code -/
def Plain (o : HO) : Prop := (∀ ps, o ≠ .tbl ps) ∧ ∀ f, o ≠ .ext f
theorem plain_lst (xs : List V) : Plain (.lst xs) := ⟨fun _ z => (by cases z), fun _ z => (by cases z)⟩
theorem plain_ins (C dx : Addr) (fs : List (Str × V)) : Plain (.ins C dx fs) := ⟨fun _ z => (by cases z), fun _ z => (by cases z)⟩
theorem Tabs_mut {T : List (Addr × Str)} {p : Addr} {o u : HO} (t : LamX.Tabs T H) (hT : ∀ q ∈ T, q.1 ≠ p) (hu : H p = some u) (pu : Plain u) : LamX.Tabs T (upd H p o) := by
  intro q hq
  obtain ⟨ps, h1, h2, h3⟩ := t q hq
  refine ⟨ps, by rw [upd_ne (hT q hq)]; exact h1, h2, fun pos cv hc => ?_⟩
  obtain ⟨d, e1, e2⟩ := h3 pos cv hc
  refine ⟨d, e1, ?_⟩
  have n : d ≠ p := fun z => by
    rw [z, hu] at e2
    exact pu.2 _ (Option.some.inj e2)
  rw [upd_ne n]
  exact e2
theorem CupAt.mut (h : CupAt pc Hs H c) {p : Addr} {o u : HO} (hc : Off pc p) (hu : H p = some u) (pu : Plain u) : CupAt pc Hs (upd H p o) c :=
  h.hp (fun q e w hw => by rw [upd_ne (fun z => hc.1 (by rw [e, z]))]; exact hw) (Tabs_mut h.tb hc.2 hu pu)
theorem CupAt.del (h : CupAt pc Hs H c) {p : Addr} {u : HO} (hc : Off pc p) (hu : H p = some u) (pu : Plain u) : CupAt pc Hs (del H p) c := by
  refine h.hp (fun q e w hw => by rw [del_ne (fun z => hc.1 (by rw [e, z]))]; exact hw) fun q hq => ?_
  obtain ⟨ps, h1, h2, h3⟩ := h.tb q hq
  refine ⟨ps, by rw [del_ne (hc.2 q hq)]; exact h1, h2, fun pos cv hcv => ?_⟩
  obtain ⟨d, e1, e2⟩ := h3 pos cv hcv
  refine ⟨d, e1, ?_⟩
  have n : d ≠ p := fun z => by
    rw [z, hu] at e2
    exact pu.2 _ (Option.some.inj e2)
  rw [del_ne n]
  exact e2
theorem nt_upd {p : Addr} {o : HO} (n : ∀ b ps, Hs b ≠ some (.tbl ps)) (ho : ∀ ps, o ≠ .tbl ps) : ∀ b ps, upd Hs p o b ≠ some (.tbl ps) := by
  intro b ps
  by_cases z : b = p
  · rw [z, upd_same]
    exact fun e => ho ps (Option.some.inj e)
  · rw [upd_ne z]
    exact n b ps
theorem Fn.refl (s : Same Hs H) (h : CupAt pc Hs H c) : Fn pc Hs H Hs H c := ⟨Same.refl _, fun _ _ _ _ e => e, fun _ _ _ _ e => e, s, h⟩
theorem Fn.trans (a : Fn pc Hs H Hs1 H1 c1) (b : Fn pc Hs1 H1 Hs2 H2 c2) : Fn pc Hs H Hs2 H2 c2 := by
  refine ⟨a.ss.trans b.ss, fun x o n t e => b.bt x o n t (a.bt x o n t e), fun x o t e n => ?_, b.sm, b.cu⟩
  by_cases h : Off pc x
  · exact b.nw x o t (a.bt x o h t e) (a.nw x o t e n)
  · exact b.cu.off h
theorem CupAt.new (h : CupAt pc Hs H c) {p : Addr} {o : HO} (np : H p = none) : CupAt pc Hs (upd H p o) c :=
  h.hp (fun q _ w hw => by rw [upd_ne (ne_of_none hw np)]; exact hw) (h.tb.ext fun b u e => by rw [upd_ne (ne_of_none e np)]; exact e)
theorem CupAt.new2 (h : CupAt pc Hs H c) {p : Addr} {o : HO} (np : H p = none) (ho : ∀ ps, o ≠ .tbl ps) : CupAt pc (upd Hs p o) (upd H p o) c :=
  (h.new np).hs (fun b nb e => by
    have n : b ≠ p := fun z => nb (by rw [z]; exact h.ne np)
    rw [upd_ne n]
    exact e) (nt_upd h.nt ho)
theorem Fn.hid (s : Same Hs H) (h : CupAt pc Hs H c) {p : Addr} {o : HO} (np : H p = none) : Fn pc Hs H Hs (upd H p o) c :=
  ⟨Same.refl _, fun b u _ _ e => by rw [upd_ne (ne_of_none e np)]; exact e, fun _ _ _ _ e => e, same_mut s (s.free np), h.new np⟩
theorem Fn.new (s : Same Hs H) (h : CupAt pc Hs H c) {p : Addr} {o : HO} (np : H p = none) (ho : ∀ ps, o ≠ .tbl ps := by intro _ z; cases z) : Fn pc Hs H (upd Hs p o) (upd H p o) c := by
  refine ⟨same_new (s.free np), fun b u _ _ e => by rw [upd_ne (ne_of_none e np)]; exact e, fun b u _ e n => by rw [upd_ne (ne_of_none e np)]; exact n, fun b u e => ?_, h.new2 np ho⟩
  by_cases z : b = p
  · subst z
    rw [upd_same] at e ⊢
    exact e
  · rw [upd_ne z] at e ⊢
    exact s b u e
/-- what was made is known from now on -/
theorem Fn.show_ (f : Fn pc Hs H Hs1 H1 c1) {p : Addr} {o : HO} (np : Fr H p) (e1 : H1 p = some o) (n1 : Hs1 p = none) (hc : Off pc p) (ho : ∀ ps, o ≠ .tbl ps) : Fn pc Hs H (upd Hs1 p o) H1 c1 := by
  refine ⟨same_mut f.ss (f.ss.free n1), f.bt, fun b u t e n => by rw [upd_ne (ne_fr e t np)]; exact f.nw b u t e n, fun b u e => ?_, f.cu.hs (fun b nb e => by
    have n : b ≠ p := fun z => nb (by rw [z]; exact hc)
    rw [upd_ne n]
    exact e) (nt_upd f.cu.nt ho)⟩
  by_cases z : b = p
  · subst z
    rw [upd_same] at e
    rw [← e]
    exact e1
  · rw [upd_ne z] at e
    exact f.sm b u e
end
theorem Fn.mut {pc : Pc} {Hs H Hs1 H1 : Hp} {c1 : Cu} (f : Fn pc Hs H Hs1 H1 c1) {p : Addr} {o u : HO} (np : Fr H p) (n1 : Hs1 p = none) (hc : Off pc p) (hu : H1 p = some u) (pu : Plain u) : Fn pc Hs H Hs1 (upd H1 p o) c1 :=
  ⟨f.ss, fun b u n t e => by rw [upd_ne (ne_fr e t np)]; exact f.bt b u n t e, f.nw, same_mut f.sm n1, f.cu.mut hc hu pu⟩
/-- an error that flies -/
def Xr (g : Ga) (H : Hp) (x : Xc) (cls : Value) (dx : Option Addr) : Prop := cls = .ref (g.cm x.cls) ∧ ∃ d gs, dx = some d ∧ H d = some (.xd gs) ∧ gs.map (·.1) = x.ns ∧ RlL g H x.ds (gs.map (·.2))
def Post {α : Type} (g : Ga) (E : XK) (Hs H : Hp) (r : R α) (k : α → Cu → Hp → Hp → Prop) : Prop := match r with
  | .no => False
  | .ok a c' => ∀ Hs' H', Fn g.pc Hs H Hs' H' c' → k a c' Hs' H'
  | .er x c' => ∀ cls dx Hs' H', Fn g.pc Hs H Hs' H' c' → Xr g Hs' x cls dx → E cls dx H'
section
variable {α β : Type} {g : Ga} {E : XK} {Hs H Hs1 H1 : Hp} {c1 : Cu} {r : R α} {k k' : α → Cu → Hp → Hp → Prop}
theorem Post.shift (f : Fn g.pc Hs H Hs1 H1 c1) (p : Post g E Hs H r k) : Post g E Hs1 H1 r k := by
  cases r with
  | no => exact p
  | ok a c => exact fun Hs' H' F => p Hs' H' (f.trans F)
  | er x c => exact fun cls dx Hs' H' F X => p cls dx Hs' H' (f.trans F) X
theorem Post.mono (p : Post g E Hs H r k) (m : ∀ a c' Hs' H', r = .ok a c' → Fn g.pc Hs H Hs' H' c' → k a c' Hs' H' → k' a c' Hs' H') : Post g E Hs H r k' := by
  cases r with
  | no => exact p
  | ok a c => exact fun Hs' H' F => m a c Hs' H' rfl F (p Hs' H' F)
  | er x c => exact p
theorem Post.bind {f : α → Cu → R β} {k : β → Cu → Hp → Hp → Prop} (p : Post g E Hs H (r.bind f) k) : Post g E Hs H r fun a c' Hs' H' => Post g E Hs' H' (f a c') k := by
  cases r with
  | no => exact p
  | ok a c => exact fun Hs' H' F => Post.shift F p
  | er x c => exact p
end
/-- the slots that are not hidden -/
def Sl (g : Ga) (hid : List Nat) (Hs : Hp) (st : PSt) (σ : St) : Prop := σ.length = st.length ∧ ∀ i d, i ∉ hid → st[i]? = some (some d) → ∃ v, σ[i]? = some (some v) ∧ Rl g Hs d v
theorem Sl.mono {g : Ga} {hid : List Nat} {Hs Hs' : Hp} {st : PSt} {σ : St} (s : Sl g hid Hs st σ) (e : Same Hs Hs') : Sl g hid Hs' st σ := ⟨s.1, fun i d n h => by
  obtain ⟨v, h1, h2⟩ := s.2 i d n h
  exact ⟨v, h1, Rl.mono e d v h2⟩⟩
/-- an expression's reading by data -/
def tE (g : Ga) (E : XK) (hid : List Nat) (m : PM D) : TE := fun σ H Q => ∃ st c Hs, Sl g hid Hs st σ ∧ Same Hs H ∧ CupAt g.pc Hs H c ∧ Post g E Hs H (m st c) fun d _ Hs' H' => ∀ v, Rl g Hs' d v → Q v H'
def tT (g : Ga) (E : XK) (hid : List Nat) (m : PM Bool) : TT := fun σ H Q => ∃ st c Hs, Sl g hid Hs st σ ∧ Same Hs H ∧ CupAt g.pc Hs H c ∧ Post g E Hs H (m st c) fun b _ _ H' => Q b H'
def tA (g : Ga) (E : XK) (hid : List Nat) (m : PM (List D)) : TA := fun σ H Q => ∃ st c Hs, Sl g hid Hs st σ ∧ Same Hs H ∧ CupAt g.pc Hs H c ∧ Post g E Hs H (m st c) fun ds _ Hs' H' => ∀ vs, RlL g Hs' ds vs → Q vs H'
abbrev DE (X : Cx) (g : Ga) (E : XK) (hid : List Nat) (e : Expr) (m : PM D) : Prop := PE X e (tE g E hid m)
abbrev DT (X : Cx) (g : Ga) (E : XK) (hid : List Nat) (e : Expr) (m : PM Bool) : Prop := PT X e (tT g E hid m)
abbrev DA (X : Cx) (g : Ga) (E : XK) (hid : List Nat) (es : List Expr) (m : PM (List D)) : Prop := PA X es (tA g E hid m)
theorem PT_imp {X : Cx} {e : Expr} {t t' : TT} (h : PT X e t) (m : ∀ σ H Q, t' σ H Q → t σ H Q) : PT X e t' := ⟨fun pins s σ H Q I q => h.run pins s σ H Q I (m σ H Q q)⟩
theorem PW_imp {X : Cx} {e : Expr} {t t' : TT} (h : PW X e t) (m : ∀ σ H Q, t' σ H Q → t σ H Q) : PW X e t' := ⟨fun wh pins s σ H Q I q => h.run wh pins s σ H Q I (m σ H Q q)⟩
theorem PA_imp {X : Cx} {es : List Expr} {t t' : TA} (h : PA X es t) (m : ∀ σ H Q, t' σ H Q → t σ H Q) : PA X es t' := ⟨fun pos pins s σ H Q I q => h.run pos pins s σ H Q I (m σ H Q q)⟩
end L2.G
set_option Elab.async false
set_option linter.all false
set_option maxRecDepth 100000
set_option maxHeartbeats 2000000
namespace L2.G
open PySem PySem.Spec PyProof.Rows
/-! expressions by data -/
def cD (d : D) : PM D := fun _ c => .ok d c
def vD (i : Nat) : PM D := fun st c => match st[i]? with
  | some (some d) => .ok d c
  | _ => .no
def opD (f : D → D → Option D) (a b : PM D) : PM D := fun st c => (a st c).bind fun x c => (b st c).bind fun y c => ofO (f x y) c
def unD (f : D → Option D) (a : PM D) : PM D := fun st c => (a st c).bind fun x c => ofO (f x) c
def chD (f f' : D → D → Option D) (a b e : PM D) : PM D := fun st c => (a st c).bind fun x c => (b st c).bind fun y c => (ofO (f x y) c).bind fun z c => match z with
  | .bl true => (e st c).bind fun w c => ofO (f' y w) c
  | .bl false => .ok (.bl false) c
  | _ => .no
def andD (a b : PM D) : PM D := fun st c => (a st c).bind fun x c => match x with
  | .bl true => b st c
  | .bl false => .ok (.bl false) c
  | _ => .no
def orD (a b : PM D) : PM D := fun st c => (a st c).bind fun x c => match x with
  | .bl true => .ok (.bl true) c
  | .bl false => b st c
  | _ => .no
def notF : D → Option D
  | .bl b => some (.bl !b)
  | _ => none
def negF : D → Option D
  | .int i => some (.int (-i))
  | _ => none
def ifD (t : PM Bool) (a b : PM D) : PM D := fun st c => (t st c).bind fun k c => if k = true then a st c else b st c
def aD : List (PM D) → PM (List D)
  | [] => fun _ c => .ok [] c
  | a :: r => fun st c => (a st c).bind fun x c => (aD r st c).bind fun xs c => .ok (x :: xs) c
def biD (f : List D → Option D) (ms : List (PM D)) : PM D := fun st c => (aD ms st c).bind fun ds c => ofO (f ds) c
def caD (m : List D → Cu → R D) (ms : List (PM D)) : PM D := fun st c => (aD ms st c).bind m
def tupD (ms : List (PM D)) : PM D := fun st c => (aD ms st c).bind fun ds c => .ok (.tup ds) c
def lstD (ms : List (PM D)) : PM D := fun st c => (aD ms st c).bind fun ds c => .ok (.lst ds) c
/-! tests -/
def tbD (m : PM D) : PM Bool := fun st c => (m st c).bind fun x c => match x with
  | .bl b => .ok b c
  | _ => .no
def truF : D → Option Bool
  | .non => some false
  | .bl b => some b
  | .int i => some (i != 0)
  | .str z => some ((z.length : Int) != 0)
  | .tup ds => some !ds.isEmpty
  | .lst ds => some !ds.isEmpty
  | _ => none
def trD (m : PM D) : PM Bool := fun st c => (m st c).bind fun x c => ofO (truF x) c
def andT (a b : PM Bool) : PM Bool := fun st c => (a st c).bind fun x c => if x = true then b st c else .ok false c
def orT (a b : PM Bool) : PM Bool := fun st c => (a st c).bind fun x c => if x = true then .ok true c else b st c
def notT (a : PM Bool) : PM Bool := fun st c => (a st c).bind fun x c => .ok (!x) c
theorem aD_len : ∀ {ms : List (PM D)} {st : PSt} {c c' : Cu} {ds : List D}, aD ms st c = .ok ds c' → ds.length = ms.length
  | [], st, c, c', ds, h => by
    have e : R.ok [] c = R.ok ds c' := h
    injection e with e1 _
    subst e1
    rfl
  | m :: ms, st, c, c', ds, h => by
    have e : (m st c).bind (fun x c => (aD ms st c).bind fun xs c => .ok (x :: xs) c) = R.ok ds c' := h
    cases q : m st c with
    | no => rw [q] at e; cases e
    | er x c1 => rw [q] at e; cases e
    | ok x c1 =>
      rw [q, R.ok_bind] at e
      cases q2 : aD ms st c1 with
      | no => rw [q2] at e; cases e
      | er y c2 => rw [q2] at e; cases e
      | ok xs c2 =>
        rw [q2, R.ok_bind] at e
        injection e with e1 _
        subst e1
        simp [aD_len q2]
/-- an operation on values by data -/
def RD (g : Ga) (r : R2) (f : D → D → Option D) : Prop := ∀ Hs H c x y v u d Q, Same Hs H → CupAt g.pc Hs H c → Rl g Hs x v → Rl g Hs y u → f x y = some d →
  (∀ Hs' H' z, Fn g.pc Hs H Hs' H' c → Rl g Hs' d z → Q z H') → r v u H Q
def RU (g : Ga) (r : V → Hp → VK → Prop) (f : D → Option D) : Prop := ∀ Hs H c x v d Q, Same Hs H → CupAt g.pc Hs H c → Rl g Hs x v → f x = some d →
  (∀ Hs' H' z, Fn g.pc Hs H Hs' H' c → Rl g Hs' d z → Q z H') → r v H Q
def RC (g : Ga) (r : List V → Hp → VK → Prop) (f : List D → Option D) : Prop := ∀ Hs H c xs vs d Q, Same Hs H → CupAt g.pc Hs H c → RlL g Hs xs vs → f xs = some d →
  (∀ Hs' H' z, Fn g.pc Hs H Hs' H' c → Rl g Hs' d z → Q z H') → r vs H Q
def OpD (X : Cx) (g : Ga) (F : Value → Value → Sem Value) (f : D → D → Option D) : Prop := ∃ r, OpR X F r ∧ RD g r f
def UnD (X : Cx) (g : Ga) (F : Value → Sem Value) (f : D → Option D) : Prop := ∃ r, UnR X F r ∧ RU g r f
def IxD (X : Cx) (g : Ga) (f : D → D → Option D) : Prop := ∃ r, IxR X r ∧ RD g r f
def BiD (X : Cx) (g : Ga) (F : Value) (f : List D → Option D) : Prop := ∃ r, CallR X F r ∧ RC g r f
section
variable {X : Cx} {g : Ga} {E : XK} {hid : List Nat} {σ : St} {H : Hp} {Q : VK} {ma mb mc m : PM D} {a b c : Expr} {pos : Pos}
theorem tOp_of {r : R2} {f : D → D → Option D} (hr : RD g r f) : tE g E hid (opD f ma mb) σ H Q → tOp r (tE g E hid ma) (tE g E hid mb) σ H Q := by
  rintro ⟨st, c, Hs, sl, sm, cu, p⟩
  refine ⟨st, c, Hs, sl, sm, cu, (Post.bind p).mono fun x c1 Hs1 H1 _ F1 q v1 r1 => ⟨st, c1, Hs1, sl.mono F1.ss, F1.sm, F1.cu, (Post.bind q).mono fun y c2 Hs2 H2 _ F2 q2 v2 r2 => ?_⟩⟩
  cases e : f x y with
  | none => rw [e] at q2; exact q2.elim
  | some d =>
    rw [e] at q2
    exact hr Hs2 H2 c2 x y v1 v2 d Q F2.sm F2.cu (Rl.mono F2.ss x v1 r1) r2 e fun Hs' H' z F rz => q2 Hs' H' F z rz
theorem d_tc {v : V} {d : D} (h : PE X a (tC v)) (hr : ∀ Hs, Rl g Hs d v) : DE X g E hid a (cD d) := PE_imp h fun σ H Q ⟨st, c, Hs, sl, sm, cu, p⟩ => p Hs H (Fn.refl sm cu) v (hr Hs)
theorem d_int {i : Int} {j : Nat} : DE X g E hid (.Constant (.int i) j pos) (cD (.int i)) := d_tc pe_int fun _ => rl_int.mpr rfl
theorem d_bl {i : Bool} {j : Nat} : DE X g E hid (.Constant (.bool i) j pos) (cD (.bl i)) := d_tc pe_bl fun _ => rl_bl.mpr rfl
theorem d_non {j : Nat} : DE X g E hid (.Constant .none j pos) (cD .non) := d_tc pe_non fun _ => rl_non.mpr rfl
theorem d_str {z : Str} {j : Nat} (h : txtOk z = true := by decide +kernel) : DE X g E hid (.Constant (.str z) j pos) (cD (.str z)) := d_tc pe_str fun _ => rl_str.mpr ⟨rfl, h⟩
theorem d_gi {x : Str} {n : Int} (h : ∃ t, X.mg x = some (.int n t)) (hg : Gl X x := by rfl) (hd : (x == ("__debug__" : Str)) = false := by decide) : DE X g E hid (.Name x pos) (cD (.int n)) := d_tc (pe_gi h hg hd) fun _ => rl_int.mpr rfl
theorem d_gs {x z : Str} (h : ∃ t, X.mg x = some (.str z t)) (hz : txtOk z = true := by decide +kernel) (hg : Gl X x := by rfl) (hd : (x == ("__debug__" : Str)) = false := by decide) : DE X g E hid (.Name x pos) (cD (.str z)) := d_tc (pe_gs h hg hd) fun _ => rl_str.mpr ⟨rfl, hz⟩
theorem d_v (i : Nat) (h : PE X a (tVar i)) (hi : i ∉ hid := by decide) : DE X g E hid a (vD i) := PE_imp h fun σ H Q ⟨st, c, Hs, sl, sm, cu, p⟩ => by
  unfold vD at p
  split at p
  · rename_i d e
    obtain ⟨v, h1, h2⟩ := sl.2 i d hi e
    exact ⟨v, h1, p Hs H (Fn.refl sm cu) v h2⟩
  · exact p.elim
theorem d_op {op : Operator} {f : D → D → Option D} (ho : OpD X g (binaryOp op) f) (ha : DE X g E hid a ma) (hb : DE X g E hid b mb) : DE X g E hid (.BinOp a op b pos) (opD f ma mb) := by
  obtain ⟨r, ho, hr⟩ := ho
  exact PE_imp (pe_op ho ha hb) fun σ H Q q => tOp_of hr q
theorem d_cmp {op : CmpOp} {f : D → D → Option D} (ho : OpD X g (compareOp op) f) (ha : DE X g E hid a ma) (hb : DE X g E hid b mb) (hm : behindInMarks op b = false) : DE X g E hid (.Compare a [op] [b] pos) (opD f ma mb) := by
  obtain ⟨r, ho, hr⟩ := ho
  exact PE_imp (pe_cmpR ho ha hb hm) fun σ H Q q => tOp_of hr q
theorem d_ix {f : D → D → Option D} (ho : IxD X g f) (ha : DE X g E hid a ma) (hb : DE X g E hid b mb) (hs : PlainIx b) : DE X g E hid (.Subscript a b pos) (opD f ma mb) := by
  obtain ⟨r, ho, hr⟩ := ho
  exact PE_imp (pe_ix ho ha hb hs) fun σ H Q q => tOp_of hr q
theorem d_un {op : UnaryOp} {f : D → Option D} (ho : UnD X g (unaryOp op) f) (ha : DE X g E hid a ma) : DE X g E hid (.UnaryOp op a pos) (unD f ma) := by
  obtain ⟨r, ho, hr⟩ := ho
  refine PE_imp (pe_un ho ha) fun σ H Q ⟨st, c, Hs, sl, sm, cu, p⟩ => ⟨st, c, Hs, sl, sm, cu, (Post.bind p).mono fun x c1 Hs1 H1 _ F1 q v1 r1 => ?_⟩
  cases e : f x with
  | none => rw [e] at q; exact q.elim
  | some d =>
    rw [e] at q
    exact hr Hs1 H1 c1 x v1 d Q F1.sm F1.cu r1 e fun Hs' H' z F rz => q Hs' H' F z rz
theorem d_neg (ha : DE X g E hid a ma) : DE X g E hid (.UnaryOp .USub a pos) (unD negF ma) := d_un ⟨_, un_neg, fun Hs H c x v d Q sm cu rx e k => by
  cases x <;> simp only [negF, Option.some.injEq, reduceCtorEq] at e
  subst e
  exact ⟨_, rl_int.mp rx, k Hs H _ (Fn.refl sm cu) (rl_int.mpr rfl)⟩⟩ ha
theorem d_not (ha : DE X g E hid a ma) : DE X g E hid (.UnaryOp .Not a pos) (unD notF ma) := by
  refine PE_imp (pe_not ha) fun σ H Q ⟨st, c, Hs, sl, sm, cu, p⟩ => ⟨st, c, Hs, sl, sm, cu, (Post.bind p).mono fun x c1 Hs1 H1 _ F1 q v1 r1 => ?_⟩
  cases x <;> first | exact q.elim | skip
  exact ⟨_, rl_bl.mp r1, q Hs1 H1 (Fn.refl F1.sm F1.cu) _ (rl_bl.mpr rfl)⟩
theorem d_and {rest : List Expr} (ha : DE X g E hid a ma) (hb : DE X g E hid (.BoolOp .And (b :: rest) pos) mb) : DE X g E hid (.BoolOp .And (a :: b :: rest) pos) (andD ma mb) := by
  refine PE_imp (pe_and ha hb) fun σ H Q ⟨st, c, Hs, sl, sm, cu, p⟩ => ⟨st, c, Hs, sl, sm, cu, (Post.bind p).mono fun x c1 Hs1 H1 _ F1 q v1 r1 => ?_⟩
  cases x with
  | bl k => ?_
  | _ => exact q.elim
  refine ⟨k, rl_bl.mp r1, ?_⟩
  cases k with
  | true => rw [if_pos rfl]; exact ⟨st, c1, Hs1, sl.mono F1.ss, F1.sm, F1.cu, q⟩
  | false => rw [if_neg (by decide)]; exact q Hs1 H1 (Fn.refl F1.sm F1.cu) _ (rl_bl.mpr rfl)
theorem d_or {rest : List Expr} (ha : DE X g E hid a ma) (hb : DE X g E hid (.BoolOp .Or (b :: rest) pos) mb) : DE X g E hid (.BoolOp .Or (a :: b :: rest) pos) (orD ma mb) := by
  refine PE_imp (pe_or ha hb) fun σ H Q ⟨st, c, Hs, sl, sm, cu, p⟩ => ⟨st, c, Hs, sl, sm, cu, (Post.bind p).mono fun x c1 Hs1 H1 _ F1 q v1 r1 => ?_⟩
  cases x with
  | bl k => ?_
  | _ => exact q.elim
  refine ⟨k, rl_bl.mp r1, ?_⟩
  cases k with
  | false => rw [if_neg (by decide)]; exact ⟨st, c1, Hs1, sl.mono F1.ss, F1.sm, F1.cu, q⟩
  | true => rw [if_pos rfl]; exact q Hs1 H1 (Fn.refl F1.sm F1.cu) _ (rl_bl.mpr rfl)
theorem d_one {op} (ha : DE X g E hid a ma) : DE X g E hid (.BoolOp op [a] pos) ma := pe_one ha
theorem d_ifE {t : PM Bool} (hc : DT X g E hid c t) (ha : DE X g E hid a ma) (hb : DE X g E hid b mb) : DE X g E hid (.IfExp c a b pos) (ifD t ma mb) := by
  refine PE_imp (pe_ifExp hc ha hb) fun σ H Q ⟨st, c, Hs, sl, sm, cu, p⟩ => ⟨st, c, Hs, sl, sm, cu, (Post.bind p).mono fun k c1 Hs1 H1 _ F1 q => ?_⟩
  cases k with
  | true =>
    rw [if_pos rfl] at q ⊢
    exact ⟨st, c1, Hs1, sl.mono F1.ss, F1.sm, F1.cu, q⟩
  | false =>
    rw [if_neg (by decide)] at q ⊢
    exact ⟨st, c1, Hs1, sl.mono F1.ss, F1.sm, F1.cu, q⟩
theorem tCh_of {r r' : R2} {f f' : D → D → Option D} (hr : RD g r f) (hr' : RD g r' f') : tE g E hid (chD f f' ma mb mc) σ H Q → tChain r r' (tE g E hid ma) (tE g E hid mb) (tE g E hid mc) σ H Q := by
  rintro ⟨st, c, Hs, sl, sm, cu, p⟩
  refine ⟨st, c, Hs, sl, sm, cu, (Post.bind p).mono fun x c1 Hs1 H1 _ F1 q v1 r1 => ⟨st, c1, Hs1, sl.mono F1.ss, F1.sm, F1.cu, (Post.bind q).mono fun y c2 Hs2 H2 _ F2 q2 v2 r2 => ?_⟩⟩
  cases e : f x y with
  | none => rw [e] at q2; exact q2.elim
  | some d =>
    rw [e, ofO_some, R.ok_bind] at q2
    refine hr Hs2 H2 c2 x y v1 v2 d _ F2.sm F2.cu (Rl.mono F2.ss x v1 r1) r2 e fun Hs3 H3 z F3 rz => ?_
    replace q2 := Post.shift F3 q2
    cases d <;> first | exact q2.elim | skip
    rename_i k
    refine ⟨k, rl_bl.mp rz, ?_⟩
    cases k with
    | false =>
      rw [if_neg (by decide)]
      exact q2 Hs3 H3 (Fn.refl F3.sm F3.cu) _ (rl_bl.mpr rfl)
    | true =>
      rw [if_pos rfl]
      refine ⟨st, c2, Hs3, ((sl.mono F1.ss).mono F2.ss).mono F3.ss, F3.sm, F3.cu, (Post.bind q2).mono fun w c4 Hs4 H4 _ F4 q4 v4 r4 => ?_⟩
      cases e4 : f' y w with
      | none => rw [e4] at q4; exact q4.elim
      | some d4 =>
        rw [e4] at q4
        exact hr' Hs4 H4 c4 y w v2 v4 d4 Q F4.sm F4.cu (Rl.mono (F3.ss.trans F4.ss) y v2 r2) r4 e4 fun Hs' H' z F rz => q4 Hs' H' F z rz
theorem d_chain {op op' : CmpOp} {f f' : D → D → Option D} (ho : OpD X g (compareOp op) f) (ho' : OpD X g (compareOp op') f') (ha : DE X g E hid a ma) (hb : DE X g E hid b mb) (hc : DE X g E hid c mc)
    (hm : lastMarks [op, op'] [b, c] = false := by with_unfolding_all rfl) : DE X g E hid (.Compare a [op, op'] [b, c] pos) (chD f f' ma mb mc) := by
  obtain ⟨r, ho, hr⟩ := ho
  obtain ⟨r', ho', hr'⟩ := ho'
  exact PE_imp (pe_chain ho ho' ha hb hc hm) fun σ H Q q => tCh_of hr hr' q
/-! tests -/
theorem tb_of {T : Bool → Hp → Prop} : tT g E hid (tbD m) σ H T → tE g E hid m σ H fun x H' => ∃ k, x = .bl k ∧ T k H' := by
  rintro ⟨st, c, Hs, sl, sm, cu, p⟩
  refine ⟨st, c, Hs, sl, sm, cu, (Post.bind p).mono fun x c1 Hs1 H1 _ F1 q v1 r1 => ?_⟩
  cases x <;> first | exact q.elim | skip
  exact ⟨_, rl_bl.mp r1, q Hs1 H1 (Fn.refl F1.sm F1.cu)⟩
theorem dt_cmp {op : CmpOp} {f : D → D → Option D} (ho : OpD X g (compareOp op) f) (ha : DE X g E hid a ma) (hb : DE X g E hid b mb) (hm : behindInMarks op b = false) : DT X g E hid (.Compare a [op] [b] pos) (tbD (opD f ma mb)) := by
  obtain ⟨r, ho, hr⟩ := ho
  exact PT_imp (pt_cmpR ho ha hb hm) fun σ H Q q => tOp_of hr (tb_of q)
theorem dt_chain {op op' : CmpOp} {f f' : D → D → Option D} (ho : OpD X g (compareOp op) f) (ho' : OpD X g (compareOp op') f') (ha : DE X g E hid a ma) (hb : DE X g E hid b mb) (hc : DE X g E hid c mc)
    (hm : lastMarks [op, op'] [b, c] = false := by with_unfolding_all rfl) : DT X g E hid (.Compare a [op, op'] [b, c] pos) (tbD (chD f f' ma mb mc)) := by
  obtain ⟨r, ho, hr⟩ := ho
  obtain ⟨r', ho', hr'⟩ := ho'
  exact PT_imp (pt_chain ho ho' ha hb hc hm) fun σ H Q q => tCh_of hr hr' (tb_of q)
theorem dt_val (ha : DE X g E hid a ma) (he : ∀ whole, isTrue a X.env whole = (do let v ← whole; standAt a.pos; holding [v] (truthy v)) := by intro _; rfl) : DT X g E hid a (tbD ma) :=
  PT_imp (pt_val ha he) fun σ H Q q => tb_of q
theorem empty_RlL {Hs : Hp} {ds : List D} {vs : List V} (h : RlL g Hs ds vs) : vs.isEmpty = ds.isEmpty := by
  have := h.length
  cases ds <;> cases vs <;> simp at this ⊢
theorem tru_of {Hs H : Hp} {d : D} {v : V} {k : Bool} (sm : Same Hs H) (r : Rl g Hs d v) (e : truF d = some k) : TruV g.K v H k := by
  cases d <;> simp only [truF, Option.some.injEq, reduceCtorEq] at e
  · rw [rl_non.mp r]; subst e; exact rfl
  · rw [rl_bl.mp r]; subst e; exact rfl
  · rw [rl_int.mp r]; subst e; exact rfl
  · obtain ⟨rfl, hz⟩ := rl_str.mp r
    subst e
    exact ⟨txtOk_len hz, rfl⟩
  · obtain ⟨p, vs, rfl, hs, hl, hr⟩ := rl_tup.mp r
    exact .inr (.inl ⟨vs, seqT_mono sm hs, by rw [empty_RlL hr, e]⟩)
  · obtain ⟨p, vs, rfl, hs, hl, hr⟩ := rl_lst.mp r
    exact .inl ⟨vs, .inl (.inl (sm _ _ hs)), by rw [empty_RlL hr, e]⟩
theorem dt_tru (hK : X.K = g.K) (ha : DE X g E hid a ma) (he : ∀ whole, isTrue a X.env whole = (do let v ← whole; standAt a.pos; holding [v] (truthy v)) := by intro _; rfl) : DT X g E hid a (trD ma) := by
  refine PT_imp (pt_truth ha he) fun σ H Q ⟨st, c, Hs, sl, sm, cu, p⟩ => ⟨st, c, Hs, sl, sm, cu, (Post.bind p).mono fun x c1 Hs1 H1 _ F1 q v1 r1 => ?_⟩
  cases e : truF x with
  | none => rw [e] at q; exact q.elim
  | some k =>
    rw [e] at q
    rw [hK]
    exact ⟨k, tru_of F1.sm r1 e, q Hs1 H1 (Fn.refl F1.sm F1.cu)⟩
variable {ta tb : PM Bool}
theorem dt_not (ha : DT X g E hid a ta) : DT X g E hid (.UnaryOp .Not a pos) (notT ta) :=
  PT_imp (pt_not ha) fun σ H Q ⟨st, c, Hs, sl, sm, cu, p⟩ => ⟨st, c, Hs, sl, sm, cu, (Post.bind p).mono fun x c1 Hs1 H1 _ F1 q => q Hs1 H1 (Fn.refl F1.sm F1.cu)⟩
abbrev DW (X : Cx) (g : Ga) (E : XK) (hid : List Nat) (e : Expr) (m : PM Bool) : Prop := PW X e (tT g E hid m)
theorem dw_and1 (ha : DT X g E hid a ta) : DW X g E hid (.BoolOp .And [a] pos) ta := pw_and1 ha
theorem dw_or1 (ha : DT X g E hid a ta) : DW X g E hid (.BoolOp .Or [a] pos) ta := pw_or1 ha
theorem dw_and {rest : List Expr} (ha : DT X g E hid a ta) (hb : DW X g E hid (.BoolOp .And (b :: rest) pos) tb) : DW X g E hid (.BoolOp .And (a :: b :: rest) pos) (andT ta tb) := by
  refine PW_imp (pw_and ha hb) fun σ H Q ⟨st, c, Hs, sl, sm, cu, p⟩ => ⟨st, c, Hs, sl, sm, cu, (Post.bind p).mono fun x c1 Hs1 H1 _ F1 q => ?_⟩
  cases x with
  | true =>
    rw [if_pos rfl] at q ⊢
    exact ⟨st, c1, Hs1, sl.mono F1.ss, F1.sm, F1.cu, q⟩
  | false =>
    rw [if_neg (by decide)] at q ⊢
    exact q Hs1 H1 (Fn.refl F1.sm F1.cu)
theorem dw_or {rest : List Expr} (ha : DT X g E hid a ta) (hb : DW X g E hid (.BoolOp .Or (b :: rest) pos) tb) : DW X g E hid (.BoolOp .Or (a :: b :: rest) pos) (orT ta tb) := by
  refine PW_imp (pw_or ha hb) fun σ H Q ⟨st, c, Hs, sl, sm, cu, p⟩ => ⟨st, c, Hs, sl, sm, cu, (Post.bind p).mono fun x c1 Hs1 H1 _ F1 q => ?_⟩
  cases x with
  | true =>
    rw [if_pos rfl] at q ⊢
    exact q Hs1 H1 (Fn.refl F1.sm F1.cu)
  | false =>
    rw [if_neg (by decide)] at q ⊢
    exact ⟨st, c1, Hs1, sl.mono F1.ss, F1.sm, F1.cu, q⟩
/-! arguments, displays, calls -/
theorem da_nil : DA X g E hid [] (aD []) := PA_imp pa_nil fun σ H Q ⟨st, c, Hs, sl, sm, cu, p⟩ => p Hs H (Fn.refl sm cu) [] (rll_nil.mpr rfl)
theorem da_cons {es : List Expr} {ms : List (PM D)} (ha : DE X g E hid a ma) (hr : DA X g E hid es (aD ms)) (hs : starEach (a :: es) X.env = (false, eval a X.env) :: starEach es X.env := by rfl) : DA X g E hid (a :: es) (aD (ma :: ms)) := by
  refine PA_imp (pa_cons ha hr hs) fun σ H Q ⟨st, c, Hs, sl, sm, cu, p⟩ => ⟨st, c, Hs, sl, sm, cu, (Post.bind p).mono fun x c1 Hs1 H1 _ F1 q v1 r1 => ⟨st, c1, Hs1, sl.mono F1.ss, F1.sm, F1.cu, (Post.bind q).mono fun xs c2 Hs2 H2 _ F2 q2 vs rs => ?_⟩⟩
  exact q2 Hs2 H2 (Fn.refl F2.sm F2.cu) _ (rll_cons.mpr ⟨v1, vs, rfl, Rl.mono F2.ss x v1 r1, rs⟩)
theorem d_tup {es : List Expr} {ms : List (PM D)} {x1} (h : DA X g E hid es (aD ms)) (hl : ms.length ≤ 1000 := by decide) : DE X g E hid (.Tuple es x1 pos) (tupD ms) := by
  refine PE_imp (pe_tup h) fun σ H Q ⟨st, c, Hs, sl, sm, cu, p⟩ => ⟨st, c, Hs, sl, sm, cu, (Post.bind p).mono fun ds c1 Hs1 H1 e F1 q vs rs => ?_⟩
  have l1 := aD_len e
  have l2 := rs.length
  have l3 : ds.length ≤ sizeLine := by rw [sizeLine_eq]; omega
  refine ⟨by omega, fun p np => q (upd Hs1 p (.tup vs)) _ (Fn.new F1.sm F1.cu np) _ (rl_tup.mpr ⟨p, vs, rfl, .inl (.inl upd_same), l3, RlL.mono (same_new (F1.sm.free np)) ds vs rs⟩)⟩
theorem d_lst {es : List Expr} {ms : List (PM D)} (h : DA X g E hid es (aD ms)) (hl : ms.length ≤ 1000 := by decide) : DE X g E hid (.List es pos) (lstD ms) := by
  refine PE_imp (pe_lst h) fun σ H Q ⟨st, c, Hs, sl, sm, cu, p⟩ => ⟨st, c, Hs, sl, sm, cu, (Post.bind p).mono fun ds c1 Hs1 H1 e F1 q vs rs => ?_⟩
  have l1 := aD_len e
  have l2 := rs.length
  have l3 : ds.length ≤ sizeLine := by rw [sizeLine_eq]; omega
  refine ⟨by omega, fun p np => q (upd Hs1 p (.lst vs)) _ (Fn.new F1.sm F1.cu np) _ (rl_lst.mpr ⟨p, vs, rfl, upd_same, l3, RlL.mono (same_new (F1.sm.free np)) ds vs rs⟩)⟩
theorem tCB_of {r : List V → Hp → VK → Prop} {f : List D → Option D} {ms : List (PM D)} (hr : RC g r f) : tE g E hid (biD f ms) σ H Q → tCB r (tA g E hid (aD ms)) σ H Q := by
  rintro ⟨st, c, Hs, sl, sm, cu, p⟩
  refine ⟨st, c, Hs, sl, sm, cu, (Post.bind p).mono fun ds c1 Hs1 H1 e F1 q vs rs => ?_⟩
  cases e : f ds with
  | none => rw [e] at q; exact q.elim
  | some d =>
    rw [e] at q
    exact hr Hs1 H1 c1 ds vs d Q F1.sm F1.cu rs e fun Hs' H' z F rz => q Hs' H' F z rz
theorem d_bi {e : Expr} {es : List Expr} {ms : List (PM D)} {f : List D → Option D} {id : String} {x : Str} {p : Pos} (hc : BiD X g (.builtin id) f) (hg : Gl X x) (hm : X.mg x = none) (hv : bootBuiltins x = some (.builtin id)) (ha : DA X g E hid (e :: es) (aD ms)) (hn : x ≠ "__name__" := by decide) (hdb : (x == ("__debug__" : Str)) = false := by decide)
    (he : starEach (e :: es) X.env = (false, eval e X.env) :: starEach es X.env := by rfl) (hpl : (backTo pos (starEach es X.env)).any (·.1) = false := by rfl) : DE X g E hid (.Call (.Name x p) (e :: es) [] pos) (biD f ms) := by
  obtain ⟨r, hc, hr⟩ := hc
  exact PE_imp (pe_callB hc hg hm hv ha hn hdb he hpl) fun σ H Q q => tCB_of hr q
theorem d_ty {e : Expr} {es : List Expr} {ms : List (PM D)} {f : List D → Option D} {T : String} {x : Str} {p : Pos} (hc : BiD X g (.type T) f) (hg : Gl X x) (hm : X.mg x = none) (hv : bootBuiltins x = some (.type T)) (ha : DA X g E hid (e :: es) (aD ms)) (hn : x ≠ "__name__" := by decide) (hdb : (x == ("__debug__" : Str)) = false := by decide)
    (he : starEach (e :: es) X.env = (false, eval e X.env) :: starEach es X.env := by rfl) (hpl : (backTo pos (starEach es X.env)).any (·.1) = false := by rfl) : DE X g E hid (.Call (.Name x p) (e :: es) [] pos) (biD f ms) := by
  obtain ⟨r, hc, hr⟩ := hc
  exact PE_imp (pe_callTy hc hg hm hv ha hn hdb he hpl) fun σ H Q q => tCB_of hr q
end
end L2.G
set_option Elab.async false
set_option linter.all false
set_option maxRecDepth 100000
set_option maxHeartbeats 2000000
namespace L2.G
open PySem PySem.Spec PyProof.Rows
/-! operations by data -/
def addF : D → D → Option D
  | .int i, .int j => some (.int (i + j))
  | .str a, .str b => if a.length + b.length ≤ sizeLine then some (.str (a ++ b)) else none
  | .lst a, .lst b => if a.length + b.length ≤ sizeLine then some (.lst (a ++ b)) else none
  | .tup a, .tup b => if a.length + b.length ≤ sizeLine then some (.tup (a ++ b)) else none
  | _, _ => none
def intF (f : Int → Int → Int) : D → D → Option D
  | .int i, .int j => some (.int (f i j))
  | _, _ => none
def cmpF (f : Int → Int → Bool) : D → D → Option D
  | .int i, .int j => some (.bl (f i j))
  | _, _ => none
def strRep (z : Str) (n : Nat) : Str := ⟨(List.replicate n z.cps.toList).flatten.toArray⟩
def mulF : D → D → Option D
  | .int i, .int j => if (-(2 ^ 64) < i ∧ i < 2 ^ 64) ∨ (-(2 ^ 64) < j ∧ j < 2 ^ 64) then some (.int (i * j)) else none
  | .lst a, .int k => if -(2 ^ 31) < k ∧ k < 2 ^ 31 ∧ a.length * k.toNat ≤ sizeLine then some (.lst (List.replicate k.toNat a).flatten) else none
  | .str a, .int k => if -(2 ^ 31) < k ∧ k < 2 ^ 31 ∧ a.length * k.toNat ≤ 1000000 then some (.str (strRep a k.toNat)) else none
  | _, _ => none
def fdivF : D → D → Option D
  | .int i, .int j => if 0 < j ∧ j < 1073741824 then some (.int (i / j)) else none
  | _, _ => none
def modF : D → D → Option D
  | .int i, .int j => if 0 < j then some (.int (i % j)) else none
  | _, _ => none
def powF : D → D → Option D
  | .int i, .int j => if 0 ≤ j ∧ j ≤ 1000000 ∧ i.natAbs < 2 ^ 64 then some (.int (i ^ j.toNat)) else none
  | _, _ => none
def shrF : D → D → Option D
  | .int i, .int j => if 0 ≤ j then some (.int (i / 2 ^ j.toNat)) else none
  | _, _ => none
/-- 1 << j -/
def shlF : D → D → Option D
  | .int i, .int j => if i = 1 ∧ 0 ≤ j ∧ j ≤ 100000 then some (.int (2 ^ j.toNat)) else none
  | _, _ => none
def isNon : D → Bool
  | .non => true
  | _ => false
def isNF : D → D → Option D
  | x, .non => some (.bl (isNon x))
  | _, _ => none
def notNF : D → D → Option D
  | x, .non => some (.bl !(isNon x))
  | _, _ => none
section
variable {X : Cx} {g : Ga}
theorem rd_int {C : Int → Int → Prop} {f : D → D → Option D} {k : Int → Int → Int} (hf : ∀ x y d, f x y = some d → ∃ i j, x = .int i ∧ y = .int j ∧ C i j ∧ d = .int (k i j)) : RD g (rI C fun i j => .int (k i j)) f := by
  intro Hs H c x y v u d Q sm cu rx ry e q
  obtain ⟨i, j, rfl, rfl, hc, rfl⟩ := hf x y d e
  exact ⟨i, j, rl_int.mp rx, rl_int.mp ry, hc, q Hs H _ (Fn.refl sm cu) (rl_int.mpr rfl)⟩
theorem rd_int0 {k : Int → Int → Int} : RD g (rI0 fun i j => .int (k i j)) (intF k) := by
  intro Hs H c x y v u d Q sm cu rx ry e q
  cases x <;> cases y <;> simp only [intF, Option.some.injEq, reduceCtorEq] at e
  subst e
  exact ⟨_, _, rl_int.mp rx, rl_int.mp ry, q Hs H _ (Fn.refl sm cu) (rl_int.mpr rfl)⟩
theorem rd_cmp {k : Int → Int → Bool} : RD g (rI0 fun i j => .bl (k i j)) (cmpF k) := by
  intro Hs H c x y v u d Q sm cu rx ry e q
  cases x <;> cases y <;> simp only [cmpF, Option.some.injEq, reduceCtorEq] at e
  subst e
  exact ⟨_, _, rl_int.mp rx, rl_int.mp ry, q Hs H _ (Fn.refl sm cu) (rl_bl.mpr rfl)⟩
theorem RD.or {r r' : R2} {f : D → D → Option D} (h : ∀ Hs H c x y v u d Q, Same Hs H → CupAt g.pc Hs H c → Rl g Hs x v → Rl g Hs y u → f x y = some d →
  (∀ Hs' H' z, Fn g.pc Hs H Hs' H' c → Rl g Hs' d z → Q z H') → r v u H Q ∨ r' v u H Q) : RD g (fun x y H Q => r x y H Q ∨ r' x y H Q) f := h
theorem txtOk_app {a b : Str} (ha : txtOk a = true) (hb : txtOk b = true) (h : a.length + b.length ≤ sizeLine) : txtOk (a ++ b) = true := by
  have e : (a ++ b).cps = a.cps ++ b.cps := rfl
  rw [txtOk_iff] at ha hb ⊢
  rw [e, Array.toList_append]
  refine ⟨?_, fun c hc => ?_⟩
  · rw [List.length_append, Array.length_toList, Array.length_toList]
    exact h
  · rcases List.mem_append.mp hc with hc | hc
    · exact ha.2 c hc
    · exact hb.2 c hc
theorem o_add (hK : X.K = g.K := by rfl) : OpD X g (binaryOp .Add) addF := by
  refine ⟨_, (op_add.or op_add_str).or (op_cat.or op_catA), ?_⟩
  rw [hK]
  intro Hs H c x y v u d Q sm cu rx ry e q
  cases x with
  | int i =>
    cases y <;> simp only [addF, Option.some.injEq, reduceCtorEq] at e
    subst e
    exact .inl (.inl ⟨_, _, rl_int.mp rx, rl_int.mp ry, q Hs H _ (Fn.refl sm cu) (rl_int.mpr rfl)⟩)
  | str a =>
    cases y <;> simp only [addF, Option.ite_none_right_eq_some, Option.some.injEq, reduceCtorEq] at e
    obtain ⟨h, rfl⟩ := e
    obtain ⟨rfl, h1⟩ := rl_str.mp rx
    obtain ⟨rfl, h2⟩ := rl_str.mp ry
    exact .inl (.inr ⟨_, _, rfl, rfl, h, q Hs H _ (Fn.refl sm cu) (rl_str.mpr ⟨rfl, txtOk_app h1 h2 h⟩)⟩)
  | lst a =>
    cases y <;> simp only [addF, Option.ite_none_right_eq_some, Option.some.injEq, reduceCtorEq] at e
    obtain ⟨h, rfl⟩ := e
    obtain ⟨p, vs, rfl, hp, h1, r1⟩ := rl_lst.mp rx
    obtain ⟨p2, vs2, rfl, hp2, h2, r2⟩ := rl_lst.mp ry
    have l1 := r1.length
    have l2 := r2.length
    refine .inr (.inl ⟨p, p2, vs, vs2, rfl, rfl, sm _ _ hp, sm _ _ hp2, by omega, fun n hn => ?_⟩)
    refine q (upd Hs n (.lst (vs ++ vs2))) _ _ (Fn.new sm cu hn) (rl_lst.mpr ⟨n, _, rfl, upd_same, by rw [List.length_append]; exact h, RlL.mono (same_new (sm.free hn)) _ _ (r1.append r2)⟩)
  | tup a =>
    cases y <;> simp only [addF, Option.ite_none_right_eq_some, Option.some.injEq, reduceCtorEq] at e
    obtain ⟨h, rfl⟩ := e
    obtain ⟨p, vs, rfl, hp, h1, r1⟩ := rl_tup.mp rx
    obtain ⟨p2, vs2, rfl, hp2, h2, r2⟩ := rl_tup.mp ry
    have l1 := r1.length
    have l2 := r2.length
    refine .inr (.inr ⟨p, p2, vs, vs2, rfl, rfl, seqT_mono sm hp, seqT_mono sm hp2, by omega, fun z => ?_, fun z z2 => ?_, fun z z2 n hn => ?_⟩)
    · subst z
      have : a = [] := List.length_eq_zero_iff.mp (by simpa using l1.symm)
      subst this
      exact q Hs H _ (Fn.refl sm cu) ry
    · subst z2
      have e2 : (_ : List D) = [] := List.length_eq_zero_iff.mp (by simpa using l2.symm)
      rw [e2, List.append_nil] at q
      exact q Hs H _ (Fn.refl sm cu) rx
    · exact q (upd Hs n (.tup (vs ++ vs2))) _ _ (Fn.new sm cu hn) (rl_tup.mpr ⟨n, _, rfl, .inl (.inl upd_same), by rw [List.length_append]; exact h, RlL.mono (same_new (sm.free hn)) _ _ (r1.append r2)⟩)
  | _ => simp [addF] at e
theorem o_sub : OpD X g (binaryOp .Sub) (intF (· - ·)) := ⟨_, op_sub, rd_int0⟩
theorem o_and : OpD X g (binaryOp .BitAnd) (intF Builtin.bitAnd) := ⟨_, op_and, rd_int0⟩
theorem o_or : OpD X g (binaryOp .BitOr) (intF Builtin.bitOr) := ⟨_, op_or, rd_int0⟩
theorem io_and : OpD X g (inplaceOp .BitAnd) (intF Builtin.bitAnd) := ⟨_, iop_and, rd_int0⟩
theorem io_or : OpD X g (inplaceOp .BitOr) (intF Builtin.bitOr) := ⟨_, iop_or, rd_int0⟩
theorem o_fdiv : OpD X g (binaryOp .FloorDiv) fdivF := ⟨_, op_fdiv, rd_int fun x y d e => by
  cases x <;> cases y <;> simp only [fdivF, Option.ite_none_right_eq_some, Option.some.injEq, reduceCtorEq] at e
  exact ⟨_, _, rfl, rfl, e.1, e.2.symm⟩⟩
theorem o_mod : OpD X g (binaryOp .Mod) modF := ⟨_, op_mod, rd_int fun x y d e => by
  cases x <;> cases y <;> simp only [modF, Option.ite_none_right_eq_some, Option.some.injEq, reduceCtorEq] at e
  exact ⟨_, _, rfl, rfl, e.1, e.2.symm⟩⟩
theorem o_pow : OpD X g (binaryOp .Pow) powF := ⟨_, op_pow, rd_int fun x y d e => by
  cases x <;> cases y <;> simp only [powF, Option.ite_none_right_eq_some, Option.some.injEq, reduceCtorEq] at e
  exact ⟨_, _, rfl, rfl, e.1, e.2.symm⟩⟩
theorem o_shr : OpD X g (binaryOp .RShift) shrF := ⟨_, op_shr, rd_int fun x y d e => by
  cases x <;> cases y <;> simp only [shrF, Option.ite_none_right_eq_some, Option.some.injEq, reduceCtorEq] at e
  exact ⟨_, _, rfl, rfl, e.1, e.2.symm⟩⟩
theorem o_shl : OpD X g (binaryOp .LShift) shlF := by
  refine ⟨_, op_oneShl, fun Hs H c x y v u d Q sm cu rx ry e q => ?_⟩
  cases x <;> cases y <;> simp only [shlF, Option.ite_none_right_eq_some, Option.some.injEq, reduceCtorEq] at e
  rename_i i j
  obtain ⟨⟨rfl, h0, h1⟩, rfl⟩ := e
  refine ⟨j.toNat, rl_int.mp rx, ?_, by omega, q Hs H _ (Fn.refl sm cu) (rl_int.mpr rfl)⟩
  rw [Int.toNat_of_nonneg h0]
  exact rl_int.mp ry
theorem o_lt : OpD X g (compareOp .Lt) (cmpF fun i j => decide (i < j)) := ⟨_, op_lt, rd_cmp⟩
theorem o_le : OpD X g (compareOp .LtE) (cmpF fun i j => decide (i ≤ j)) := ⟨_, op_le, rd_cmp⟩
theorem o_gt : OpD X g (compareOp .Gt) (cmpF fun i j => decide (j < i)) := ⟨_, op_gt, rd_cmp⟩
theorem o_ge : OpD X g (compareOp .GtE) (cmpF fun i j => decide (j ≤ i)) := ⟨_, op_ge, rd_cmp⟩
theorem non_of {Hs : Hp} {x : D} {v : V} (r : Rl g Hs x v) : decide (v = .non) = isNon x := by
  cases x with
  | non => rw [rl_non.mp r]; rfl
  | bl b => rw [rl_bl.mp r]; rfl
  | int b => rw [rl_int.mp r]; rfl
  | str b => rw [(rl_str.mp r).1]; rfl
  | tup b => obtain ⟨p, vs, rfl, _⟩ := rl_tup.mp r; rfl
  | lst b => obtain ⟨p, vs, rfl, _⟩ := rl_lst.mp r; rfl
  | dic => obtain ⟨p, rfl, _⟩ := rl_dic.mp r; rfl
  | ins C ns ds => obtain ⟨_, p, dx, gs, rfl, _⟩ := rl_ins.mp r; rfl
  | dct ks ds => obtain ⟨p, _, rfl, _⟩ := rl_dct.mp r; rfl
  | exc C ns ds => obtain ⟨p, _, rfl, _⟩ := rl_exc.mp r; rfl
  | cup => obtain ⟨p, _, rfl⟩ := rl_cup.mp r; rfl
  | scr ns => obtain ⟨p, rfl, _⟩ := rl_scr.mp r; rfl
theorem o_is : OpD X g (compareOp .Is) isNF := by
  refine ⟨_, op_isN, fun Hs H c x y v u d Q sm cu rx ry e q => ?_⟩
  cases y <;> simp only [isNF, Option.some.injEq, reduceCtorEq] at e
  subst e
  refine ⟨rl_non.mp ry, ?_⟩
  rw [non_of rx]
  exact q Hs H _ (Fn.refl sm cu) (rl_bl.mpr rfl)
theorem o_isN : OpD X g (compareOp .IsNot) notNF := by
  refine ⟨_, op_notN, fun Hs H c x y v u d Q sm cu rx ry e q => ?_⟩
  cases y <;> simp only [notNF, Option.some.injEq, reduceCtorEq] at e
  subst e
  refine ⟨rl_non.mp ry, ?_⟩
  rw [non_of rx]
  exact q Hs H _ (Fn.refl sm cu) (rl_bl.mpr rfl)
theorem flat_rep {g : Ga} {Hs : Hp} {a : List D} {vs : List V} (r : RlL g Hs a vs) : ∀ n, RlL g Hs (List.replicate n a).flatten (List.replicate n vs).flatten
  | 0 => rll_nil.mpr rfl
  | n + 1 => by
    rw [List.replicate_succ, List.replicate_succ, List.flatten_cons, List.flatten_cons]
    exact r.append (flat_rep r n)
theorem len_rep {α : Type} (a : List α) (n : Nat) : (List.replicate n a).flatten.length = a.length * n := by
  induction n with
  | zero => rfl
  | succ n ih => rw [List.replicate_succ, List.flatten_cons, List.length_append, ih, Nat.mul_succ]; omega
/-- a text some times -/
theorem op_repS : OpR X (binaryOp .Mult) (fun x y H Q => ∃ (z : Str) (k : Int), x = .str z ∧ y = .int k ∧ -(2 ^ 31) < k ∧ k < 2 ^ 31 ∧ z.length * k.toNat ≤ 1000000 ∧ Q (.str (strRep z k.toNat)) H) := by
  intro pins s σ H x y v u Q I rx ry h
  obtain ⟨z, k, rfl, rfl, h1, h2, h3, q⟩ := h
  obtain ⟨t, rfl⟩ := rx
  obtain ⟨t', rfl⟩ := ry
  have fold : ∀ (n : Nat) (a : Array Nat) (l : Array Nat), ((List.replicate n l).foldl (· ++ ·) a).toList = a.toList ++ (List.replicate n l.toList).flatten := by
    intro n
    induction n with
    | zero => intro a l; simp
    | succ n ih =>
      intro a l
      rw [List.replicate_succ, List.foldl_cons, ih, List.replicate_succ, List.flatten_cons, Array.toList_append, List.append_assoc]
  have eq : ∀ n : Nat, (⟨(List.replicate n z.cps).foldl (· ++ ·) #[]⟩ : Str) = strRep z n := fun n => by
    unfold strRep
    congr 1
    apply Array.ext'
    rw [fold]
    simp
  have len : (strRep z k.toNat).length = z.length * k.toNat := by
    show ((List.replicate k.toNat z.cps.toList).flatten.toArray).size = z.cps.size * k.toNat
    rw [List.size_toArray, len_rep, Array.length_toList]
  have emp : strRep z 0 = Str.empty := rfl
  have one : strRep z 1 = z := by
    unfold strRep
    simp
  have fin : ∀ z' : Str, z' = strRep z k.toNat → ∀ (tk : Tok) (s' : Shared), Inv X pins σ H s' → EP X pins σ Q (.str z' tk) s' := fun z' e tk s' I' => by
    subst e
    exact ⟨.str _, H, I', ⟨_, rfl⟩, q⟩
  have hsz := sizeLine_eq
  refine PySem.P.mul_str (by simp only [decide_eq_false (show ¬ k < -(2 ^ 63 : Int) by omega), decide_eq_false (show ¬ k ≥ 2 ^ 63 by omega), Bool.or_self]) (fun hn _ => ?_) (fun hn _ => ?_) ?_
  · have hk : 0 < k := by omega
    have h4 : (z.length : Int) * k ≤ 1000000 := by
      have : ((z.length * k.toNat : Nat) : Int) ≤ ((1000000 : Nat) : Int) := Int.ofNat_le.mpr h3
      rw [Int.natCast_mul, Int.toNat_of_nonneg (by omega)] at this
      exact this
    have := (Int.le_ediv_iff_mul_le hk).mpr (show (z.length : Int) * k ≤ 2 ^ 63 - 1 by omega)
    omega
  · show decide (z.length * k.toNat > sizeLine) = false
    exact decide_eq_false (by omega)
  · split
    · exact ⟨by decide, fin _ (by rw [show k.toNat = 0 by omega, emp]) _ _ (I.tok _)⟩
    · split
      · rename_i h5
        refine fin _ ?_ _ _ I
        rcases Bool.or_eq_true_iff.mp h5 with h5 | h5
        · have : k = 1 := by simpa using h5
          rw [show k.toNat = 1 by omega, one]
        · have h6 : z.cps.size = 0 := beq_iff_eq.mp h5
          have h7 : z.cps.toList = [] := List.length_eq_zero_iff.mp (by rw [Array.length_toList]; exact h6)
          unfold strRep
          rw [h7]
          have h8 : ∀ n : Nat, (List.replicate n ([] : List Nat)).flatten = [] := fun n => by induction n with
            | zero => rfl
            | succ n ih => rw [List.replicate_succ, List.flatten_cons, ih]; rfl
          rw [h8]
          obtain ⟨cps⟩ := z
          simp at h7
          subst h7
          rfl
      · exact ⟨by rw [eq, len]; omega, fin _ (eq _) _ _ (I.tok _)⟩
theorem txtOk_rep {z : Str} {n : Nat} (h : txtOk z = true) (hl : z.length * n ≤ sizeLine) : txtOk (strRep z n) = true := by
  rw [txtOk_iff] at h ⊢
  unfold strRep
  simp only
  refine ⟨by rw [len_rep, Array.length_toList]; exact hl, fun c hc => ?_⟩
  rw [List.mem_flatten] at hc
  obtain ⟨l, hl, hc⟩ := hc
  rw [(List.mem_replicate.mp hl).2] at hc
  exact h.2 c hc
theorem o_mul : OpD X g (binaryOp .Mult) mulF := by
  refine ⟨_, (op_mul.or op_rep).or op_repS, ?_⟩
  intro Hs H c x y v u d Q sm cu rx ry e q
  cases x with
  | int i =>
    cases y <;> simp only [mulF, Option.ite_none_right_eq_some, Option.some.injEq, reduceCtorEq] at e
    obtain ⟨h, rfl⟩ := e
    exact .inl (.inl ⟨_, _, rl_int.mp rx, rl_int.mp ry, h, q Hs H _ (Fn.refl sm cu) (rl_int.mpr rfl)⟩)
  | lst a =>
    cases y <;> simp only [mulF, Option.ite_none_right_eq_some, Option.some.injEq, reduceCtorEq] at e
    obtain ⟨⟨h1, h2, h3⟩, rfl⟩ := e
    obtain ⟨p, vs, rfl, hp, h0, r1⟩ := rl_lst.mp rx
    have l1 := r1.length
    refine .inl (.inr ⟨p, _, vs, rfl, rl_int.mp ry, sm _ _ hp, by omega, by omega, by rw [l1]; exact h3, fun n hn => ?_⟩)
    exact q (upd Hs n _) _ _ (Fn.new sm cu hn) (rl_lst.mpr ⟨n, _, rfl, upd_same, by rw [len_rep]; exact h3, RlL.mono (same_new (sm.free hn)) _ _ (flat_rep r1 _)⟩)
  | str a =>
    cases y <;> simp only [mulF, Option.ite_none_right_eq_some, Option.some.injEq, reduceCtorEq] at e
    obtain ⟨⟨h1, h2, h3⟩, rfl⟩ := e
    obtain ⟨rfl, h0⟩ := rl_str.mp rx
    exact .inr ⟨_, _, rfl, rl_int.mp ry, h1, h2, h3, q Hs H _ (Fn.refl sm cu) (rl_str.mpr ⟨rfl, txtOk_rep h0 (by rw [sizeLine_eq]; omega)⟩)⟩
  | _ => simp [mulF] at e
end
end L2.G
set_option Elab.async false
set_option linter.all false
set_option maxRecDepth 100000
set_option maxHeartbeats 2000000
namespace L2.G
open PySem PySem.Spec PyProof.Rows
/-! data as the library reads it -/
mutual
def okD : Nat → D → Bool
  | _, .non => true
  | _, .bl _ => true
  | _, .int _ => true
  | _, .str _ => true
  | 0, .tup _ => false
  | n + 1, .tup ds => okDs n ds
  | 0, .lst _ => false
  | n + 1, .lst ds => okDs n ds
  | _, .dic => false
  | _, .ins _ _ _ => false
  | _, .dct _ _ => false
  | _, .exc _ _ _ => false
  | _, .cup => false
  | _, .scr _ => false
def okDs : Nat → List D → Bool
  | _, [] => true
  | n, d :: ds => okD n d && okDs n ds
end
mutual
def toP : D → PyData
  | .non => .none
  | .bl b => .bool b
  | .int i => .int i
  | .str z => .str z
  | .tup ds => .tuple (toPs ds)
  | .lst ds => .list (toPs ds)
  | .dic => .none
  | .ins _ _ _ => .none
  | .dct _ _ => .none
  | .exc _ _ _ => .none
  | .cup => .none
  | .scr _ => .none
def toPs : List D → List PyData
  | [] => []
  | d :: ds => toP d :: toPs ds
end
theorem toPs_map : ∀ ds : List D, toPs ds = ds.map toP
  | [] => by unfold toPs; rfl
  | d :: ds => by unfold toPs; rw [toPs_map ds]; rfl
theorem okDs_all : ∀ (n : Nat) (ds : List D), okDs n ds = ds.all (okD n)
  | n, [] => by unfold okDs; rfl
  | n, d :: ds => by unfold okDs; rw [okDs_all n ds]; rfl
theorem okD_tup (n : Nat) (ds : List D) : okD (n + 1) (.tup ds) = ds.all (okD n) := by unfold okD; exact okDs_all n ds
theorem okD_lst (n : Nat) (ds : List D) : okD (n + 1) (.lst ds) = ds.all (okD n) := by unfold okD; exact okDs_all n ds
theorem okD_int (n : Nat) (i : Int) : okD n (.int i) = true := by unfold okD; rfl
theorem okD_bl (n : Nat) (i : Bool) : okD n (.bl i) = true := by unfold okD; rfl
theorem okD_str (n : Nat) (i : Str) : okD n (.str i) = true := by unfold okD; rfl
theorem okD_non (n : Nat) : okD n .non = true := by unfold okD; rfl
mutual
theorem dp_of {g : Ga} {H : Hp} : ∀ (n : Nat) (d : D) (v : V), okD n d = true → Rl g H d v → Dp g.K H v (toP d)
  | n, .non, v, _, r => by rw [rl_non.mp r]; unfold toP; exact .non
  | n, .bl b, v, _, r => by rw [rl_bl.mp r]; unfold toP; exact .bl b
  | n, .int i, v, _, r => by rw [rl_int.mp r]; unfold toP; exact .int i
  | n, .str z, v, _, r => by rw [(rl_str.mp r).1]; unfold toP; exact .str z
  | 0, .tup ds, v, h, r => by unfold okD at h; cases h
  | n + 1, .tup ds, v, h, r => by
    obtain ⟨a, vs, rfl, hs, _, hr⟩ := rl_tup.mp r
    unfold okD at h
    unfold toP
    exact .tup hs (dps_of n ds vs h hr)
  | 0, .lst ds, v, h, r => by unfold okD at h; cases h
  | n + 1, .lst ds, v, h, r => by
    obtain ⟨a, vs, rfl, hs, _, hr⟩ := rl_lst.mp r
    unfold okD at h
    unfold toP
    exact .lst (.inl (.inl hs)) (dps_of n ds vs h hr)
  | n, .dic, v, h, r => by unfold okD at h; cases h
  | n, .ins _ _ _, v, h, r => by unfold okD at h; cases h
  | n, .dct _ _, v, h, r => by unfold okD at h; cases h
  | n, .exc _ _ _, v, h, r => by unfold okD at h; cases h
  | n, .cup, v, h, r => by unfold okD at h; cases h
  | n, .scr _, v, h, r => by unfold okD at h; cases h
theorem dps_of {g : Ga} {H : Hp} : ∀ (n : Nat) (ds : List D) (vs : List V), okDs n ds = true → RlL g H ds vs → DpAll g.K H vs (toPs ds)
  | n, [], vs, _, r => by rw [rll_nil.mp r]; unfold toPs; exact .nil
  | n, d :: ds, vs, h, r => by
    obtain ⟨v, r2, rfl, h1, h2⟩ := rll_cons.mp r
    unfold okDs at h
    unfold toPs
    obtain ⟨ha, hb⟩ := Bool.and_eq_true_iff.mp h
    exact .cons (dp_of n d v ha h1) (dps_of n ds r2 hb h2)
end
mutual
theorem lay_of {g : Ga} {H : Hp} : ∀ (n : Nat) (d : D) (v : V), okD n d = true → Rl g H d v → (toP d).canLay0 = true
  | n, .non, v, _, r => by unfold toP PyData.canLay0; rfl
  | n, .bl b, v, _, r => by unfold toP PyData.canLay0; rfl
  | n, .int i, v, _, r => by unfold toP PyData.canLay0; rfl
  | n, .str z, v, _, r => by unfold toP PyData.canLay0; exact txtOk_all (rl_str.mp r).2
  | 0, .tup ds, v, h, r => by unfold okD at h; cases h
  | n + 1, .tup ds, v, h, r => by
    obtain ⟨a, vs, rfl, hs, _, hr⟩ := rl_tup.mp r
    unfold okD at h
    unfold toP PyData.canLay0
    exact lays_of n ds vs h hr
  | 0, .lst ds, v, h, r => by unfold okD at h; cases h
  | n + 1, .lst ds, v, h, r => by
    obtain ⟨a, vs, rfl, hs, _, hr⟩ := rl_lst.mp r
    unfold okD at h
    unfold toP PyData.canLay0
    exact lays_of n ds vs h hr
  | n, .dic, v, h, r => by unfold okD at h; cases h
  | n, .ins _ _ _, v, h, r => by unfold okD at h; cases h
  | n, .dct _ _, v, h, r => by unfold okD at h; cases h
  | n, .exc _ _ _, v, h, r => by unfold okD at h; cases h
  | n, .cup, v, h, r => by unfold okD at h; cases h
  | n, .scr _, v, h, r => by unfold okD at h; cases h
theorem lays_of {g : Ga} {H : Hp} : ∀ (n : Nat) (ds : List D) (vs : List V), okDs n ds = true → RlL g H ds vs → PyData.canLayAll0 (toPs ds) = true
  | n, [], vs, _, r => by unfold toPs PyData.canLayAll0; rfl
  | n, d :: ds, vs, h, r => by
    obtain ⟨v, r2, rfl, h1, h2⟩ := rll_cons.mp r
    unfold okDs at h
    unfold toPs PyData.canLayAll0
    obtain ⟨ha, hb⟩ := Bool.and_eq_true_iff.mp h
    rw [lay_of n d v ha h1, lays_of n ds r2 hb h2]
    rfl
end
mutual
theorem dep_of : ∀ (n : Nat) (d : D), okD n d = true → (toP d).depth ≤ n + 1
  | n, .non, _ => by unfold toP PyData.depth; omega
  | n, .bl b, _ => by unfold toP PyData.depth; omega
  | n, .int i, _ => by unfold toP PyData.depth; omega
  | n, .str z, _ => by unfold toP PyData.depth; omega
  | 0, .tup ds, h => by unfold okD at h; cases h
  | n + 1, .tup ds, h => by
    unfold okD at h
    unfold toP PyData.depth
    have := deps_of n ds h
    omega
  | 0, .lst ds, h => by unfold okD at h; cases h
  | n + 1, .lst ds, h => by
    unfold okD at h
    unfold toP PyData.depth
    have := deps_of n ds h
    omega
  | n, .dic, h => by unfold okD at h; cases h
  | n, .ins _ _ _, h => by unfold okD at h; cases h
  | n, .dct _ _, h => by unfold okD at h; cases h
  | n, .exc _ _ _, h => by unfold okD at h; cases h
  | n, .cup, h => by unfold okD at h; cases h
  | n, .scr _, h => by unfold okD at h; cases h
theorem deps_of : ∀ (n : Nat) (ds : List D), okDs n ds = true → PyData.depthAll (toPs ds) ≤ n + 1
  | n, [], _ => by unfold toPs PyData.depthAll; omega
  | n, d :: ds, h => by
    unfold okDs at h
    unfold toPs PyData.depthAll
    obtain ⟨ha, hb⟩ := Bool.and_eq_true_iff.mp h
    have h1 := dep_of n d ha
    have h2 := deps_of n ds hb
    omega
end
theorem shaped_of {g : Ga} {H : Hp} {d : D} {v : V} (h : okD 60 d = true) (r : Rl g H d v) : SeqAt.shaped (toP d) = true := by
  unfold SeqAt.shaped
  rw [lay_of 60 d v h r]
  have := dep_of 60 d h
  simp
  omega
/-- == of data -/
def eqD (x y : D) : Bool := PyData.eqv (toP x) (toP y)
def eqF (n : Bool) : D → D → Option D := fun x y => if okD 60 x && okD 60 y then some (.bl (if n then !(eqD x y) else eqD x y)) else none
/-- x in y -/
def inF (n : Bool) : D → D → Option D := fun x y => match y with
  | .str z => match x with
    | .str w => match w.cps.toList with
      | [c] => some (.bl (if n then !decide (c ∈ z.cps.toList) else decide (c ∈ z.cps.toList)))
      | _ => none
    | _ => none
  | .lst ds => if okD 60 x && ds.all (okD 59) then some (.bl (if n then !(ds.any fun z => eqD z x) else ds.any fun z => eqD z x)) else none
  | .tup ds => if okD 0 x && ds.all (okD 0) then some (.bl (if n then !(ds.any fun z => eqD z x) else ds.any fun z => eqD z x)) else none
  | _ => none
section
variable {X : Cx} {g : Ga}
theorem o_eq (hu : X.A.units + 64 < cLine) (hK : X.K = g.K := by rfl) : OpD X g (compareOp .Eq) (eqF false) := by
  refine ⟨_, op_eqD hu, ?_⟩
  rw [hK]
  intro Hs H c x y v u d Q sm cu rx ry e q
  simp only [eqF, Option.ite_none_right_eq_some, Option.some.injEq, Bool.and_eq_true] at e
  obtain ⟨⟨h1, h2⟩, rfl⟩ := e
  exact ⟨toP x, toP y, dp_of 60 x v h1 (Rl.mono sm x v rx), dp_of 60 y u h2 (Rl.mono sm y u ry), shaped_of h1 rx, shaped_of h2 ry, q Hs H _ (Fn.refl sm cu) (rl_bl.mpr rfl)⟩
theorem o_ne (hu : X.A.units + 64 < cLine) (hK : X.K = g.K := by rfl) : OpD X g (compareOp .NotEq) (eqF true) := by
  refine ⟨_, op_neD hu, ?_⟩
  rw [hK]
  intro Hs H c x y v u d Q sm cu rx ry e q
  simp only [eqF, Option.ite_none_right_eq_some, Option.some.injEq, Bool.and_eq_true] at e
  obtain ⟨⟨h1, h2⟩, rfl⟩ := e
  exact ⟨toP x, toP y, dp_of 60 x v h1 (Rl.mono sm x v rx), dp_of 60 y u h2 (Rl.mono sm y u ry), shaped_of h1 rx, shaped_of h2 ry, q Hs H _ (Fn.refl sm cu) (rl_bl.mpr rfl)⟩
theorem eqV_of {Hs : Hp} {x y : D} {v u : V} (hx : okD 0 x = true) (hy : okD 0 y = true) (rx : Rl g Hs x v) (ry : Rl g Hs y u) : flatV v = true ∧ flatV u = true ∧ eqV v u = eqD x y := by
  have fl : ∀ {d : D} {w : V}, okD 0 d = true → Rl g Hs d w → flatV w = true := fun {d w} h r => by
    cases d with
    | non => rw [rl_non.mp r]; rfl
    | bl b => rw [rl_bl.mp r]; rfl
    | int b => rw [rl_int.mp r]; rfl
    | str b => rw [(rl_str.mp r).1]; rfl
    | _ => unfold okD at h; cases h
  refine ⟨fl hx rx, fl hy ry, ?_⟩
  unfold eqD
  cases x <;> first
    | (unfold okD at hx; cases hx; done)
    | (cases y <;> first
      | (unfold okD at hy; cases hy; done)
      | (first | rw [rl_non.mp rx] | rw [rl_bl.mp rx] | rw [rl_int.mp rx] | rw [(rl_str.mp rx).1]
         first | rw [rl_non.mp ry] | rw [rl_bl.mp ry] | rw [rl_int.mp ry] | rw [(rl_str.mp ry).1]
         unfold toP PyData.eqv
         rfl))
theorem any_of {Hs : Hp} {x : D} {v : V} (hx : okD 0 x = true) (rx : Rl g Hs x v) : ∀ (ds : List D) (vs : List V), ds.all (okD 0) = true → RlL g Hs ds vs → vs.all flatV = true ∧ inV v vs = ds.any fun z => eqD z x
  | [], vs, _, r => by rw [rll_nil.mp r]; exact ⟨rfl, rfl⟩
  | d :: ds, vs, h, r => by
    obtain ⟨u, us, rfl, h1, h2⟩ := rll_cons.mp r
    rw [List.all_cons, Bool.and_eq_true] at h
    obtain ⟨f1, f2, e⟩ := eqV_of h.1 hx h1 rx
    obtain ⟨a1, a2⟩ := any_of hx rx ds us h.2 h2
    refine ⟨by rw [List.all_cons, f1, a1]; rfl, ?_⟩
    unfold inV at a2 ⊢
    rw [List.any_cons, List.any_cons, e, a2]
theorem rd_in {n : Bool} {Hs H : Hp} {c : Cu} {x y d : D} {v u : V} {Q : VK} (sm : Same Hs H) (cu : CupAt g.pc Hs H c) (rx : Rl g Hs x v) (ry : Rl g Hs y u) (e : inF n x y = some d)
    (q : ∀ Hs' H' z, Fn g.pc Hs H Hs' H' c → Rl g Hs' d z → Q z H') :
    (∃ (k : Nat) (z : Str), v = .str ⟨#[k]⟩ ∧ u = .str z ∧ Q (.bl (if n then !decide (k ∈ z.cps.toList) else decide (k ∈ z.cps.toList))) H) ∨ rIn g.K n v u H Q ∨
      (∃ dd ds, Dp g.K H v dd ∧ Dp g.K H u (.list ds) ∧ SeqAt.shaped dd = true ∧ SeqAt.shaped (.list ds) = true ∧ Q (.bl (if n then !ds.any fun z => PyData.eqv z dd else ds.any fun z => PyData.eqv z dd)) H) := by
  have fin : ∀ b, d = .bl b → Q (.bl b) H := fun b eb => by subst eb; exact q Hs H _ (Fn.refl sm cu) (rl_bl.mpr rfl)
  cases y with
  | str z =>
    obtain ⟨rfl, _⟩ := rl_str.mp ry
    simp only [inF] at e
    split at e
    · rename_i w
      split at e
      · rename_i k hk
        obtain ⟨rfl, _⟩ := rl_str.mp rx
        simp only [Option.some.injEq] at e
        refine .inl ⟨k, z, ?_, rfl, fin _ e.symm⟩
        obtain ⟨⟨l⟩⟩ := w
        simp at hk
        subst hk
        rfl
      · cases e
    · cases e
  | lst ds =>
    simp only [inF, Option.ite_none_right_eq_some, Option.some.injEq, Bool.and_eq_true] at e
    obtain ⟨⟨h1, h2⟩, rfl⟩ := e
    have h3 : okD 60 (.lst ds) = true := by rw [okD_lst]; exact h2
    refine .inr (.inr ⟨toP x, toPs ds, dp_of 60 x v h1 (Rl.mono sm x v rx), ?_, shaped_of h1 rx, ?_, ?_⟩)
    · have := dp_of 60 _ u h3 (Rl.mono sm _ u ry)
      unfold toP at this
      exact this
    · have := shaped_of h3 ry
      unfold toP at this
      exact this
    · refine fin _ ?_
      rw [toPs_map, List.any_map]
      rfl
  | tup ds =>
    simp only [inF, Option.ite_none_right_eq_some, Option.some.injEq, Bool.and_eq_true] at e
    obtain ⟨⟨h1, h2⟩, rfl⟩ := e
    obtain ⟨p, vs, rfl, hs, _, hr⟩ := rl_tup.mp ry
    obtain ⟨a1, a2⟩ := any_of h1 rx ds vs h2 hr
    refine .inr (.inl ⟨p, vs, rfl, .inr (seqT_mono sm hs), ?_, a1, ?_⟩)
    · exact (eqV_of h1 h1 rx rx).1
    · refine fin _ ?_
      rw [a2]
  | _ => simp [inF] at e
theorem o_in (hu : X.A.units + 65 < cLine) (hK : X.K = g.K := by rfl) : OpD X g (compareOp .In) (inF false) := by
  refine ⟨_, op_in_sign.or (op_in_seq.or (op_inD hu)), ?_⟩
  rw [hK]
  exact fun Hs H c x y v u d Q sm cu rx ry e q => rd_in sm cu rx ry e q
theorem o_notIn (hu : X.A.units + 65 < cLine) (hK : X.K = g.K := by rfl) : OpD X g (compareOp .NotIn) (inF true) := by
  refine ⟨_, op_notIn_sign.or (op_notIn_seq.or (op_notInD hu)), ?_⟩
  rw [hK]
  exact fun Hs H c x y v u d Q sm cu rx ry e q => rd_in sm cu rx ry e q
end
/-! subscripts -/
def chS (c : Nat) : D := .str ⟨#[c]⟩
def ixF : D → D → Option D
  | .lst ds, .int i => atI ds i
  | .tup ds, .int i => atI ds i
  | .str z, .int i => (atI z.cps.toList i).map chS
  | _, _ => none
theorem atI_rl {g : Ga} {Hs : Hp} {ds : List D} {vs : List V} {i : Int} {d : D} (r : RlL g Hs ds vs) (e : atI ds i = some d) : ∃ v, atI vs i = some v ∧ Rl g Hs d v := by
  unfold atI at e ⊢
  rw [r.length]
  cases h : ixN ds.length i with
  | none => rw [h] at e; cases e
  | some j =>
    rw [h] at e
    exact r.get e
theorem atI_mem {α : Type} {l : List α} {i : Int} {x : α} (e : atI l i = some x) : x ∈ l := by
  unfold atI at e
  cases h : ixN l.length i with
  | none => rw [h] at e; cases e
  | some j => rw [h] at e; exact List.mem_of_getElem? e
theorem txtOk_ch {z : Str} {c : Nat} (h : txtOk z = true) (hc : c ∈ z.cps.toList) : txtOk ⟨#[c]⟩ = true := by
  rw [txtOk_iff] at h ⊢
  refine ⟨by rw [sizeLine_eq]; simp, fun k hk => ?_⟩
  have : k = c := by simpa using hk
  subst this
  exact h.2 k hc
section
variable {X : Cx} {g : Ga}
theorem i_ix (hK : X.K = g.K := by rfl) : IxD X g ixF := by
  refine ⟨_, ix_list.or (ix_tup.or ix_str), ?_⟩
  rw [hK]
  intro Hs H c x y v u d Q sm cu rx ry e q
  cases x with
  | lst ds =>
    cases y <;> simp only [ixF, reduceCtorEq] at e
    obtain ⟨p, vs, rfl, hp, _, r⟩ := rl_lst.mp rx
    obtain ⟨w, e2, rw'⟩ := atI_rl r e
    exact .inl ⟨p, vs, _, w, rfl, rl_int.mp ry, .inl (.inl (sm _ _ hp)), e2, q Hs H _ (Fn.refl sm cu) rw'⟩
  | tup ds =>
    cases y <;> simp only [ixF, reduceCtorEq] at e
    obtain ⟨p, vs, rfl, hp, _, r⟩ := rl_tup.mp rx
    obtain ⟨w, e2, rw'⟩ := atI_rl r e
    exact .inr (.inl ⟨p, vs, _, w, rfl, rl_int.mp ry, seqT_mono sm hp, e2, q Hs H _ (Fn.refl sm cu) rw'⟩)
  | str z =>
    cases y <;> simp only [ixF, Option.map_eq_some_iff, reduceCtorEq] at e
    obtain ⟨k, e2, rfl⟩ := e
    obtain ⟨rfl, hz⟩ := rl_str.mp rx
    exact .inr (.inr ⟨z, _, k, rfl, rl_int.mp ry, txtOk_len hz, e2, q Hs H _ (Fn.refl sm cu) (rl_str.mpr ⟨rfl, txtOk_ch hz (atI_mem e2)⟩)⟩)
  | _ => simp [ixF] at e
end
end L2.G
set_option Elab.async false
set_option linter.all false
set_option maxRecDepth 100000
set_option maxHeartbeats 2000000
namespace L2.G
open PySem PySem.Spec PyProof.Rows L2H
theorem ru {A : Around} {k : Nat} (hr : Room k A) : A.units + 64 < cLine := by have := hr.un; omega
theorem ru5 {A : Around} {k : Nat} (hr : Room k A) : A.units + 65 < cLine := by have := hr.un; omega
theorem ruH {A : Around} {k : Nat} (hr : Room k A) : RoomH k A := ⟨hr.dp, hr.un⟩
/-! slices -/
def cutL {α : Type} (xs : List α) (lo hi : Option Int) : List α := (xs.drop (HT.sIx xs.length 0 lo)).take (HT.sIx xs.length xs.length hi - HT.sIx xs.length 0 lo)
def cutF : D → Option Int → Option Int → Option D
  | .lst ds, lo, hi => some (.lst (cutL ds lo hi))
  | .tup ds, lo, hi => some (.tup (cutL ds lo hi))
  | .str z, lo, hi => some (.str (cutS z lo hi))
  | _, _, _ => none
def paN : PM (Option Int) := fun _ c => .ok none c
def paS (m : PM D) : PM (Option Int) := fun st c => (m st c).bind fun x c => match x with
  | .int i => .ok (some i) c
  | _ => .no
def slD (m : PM D) (lo hi : PM (Option Int)) : PM D := fun st c => (m st c).bind fun x c => (lo st c).bind fun l c => (hi st c).bind fun u c => ofO (cutF x l u) c
def tO (g : Ga) (E : XK) (hid : List Nat) (m : PM (Option Int)) : TO := fun σ H Q => ∃ st c Hs, Sl g hid Hs st σ ∧ Same Hs H ∧ CupAt g.pc Hs H c ∧ Post g E Hs H (m st c) fun o _ _ H' => Q o H'
abbrev DO (X : Cx) (g : Ga) (E : XK) (hid : List Nat) (o : Option Expr) (m : PM (Option Int)) : Prop := PO X o (tO g E hid m)
theorem PO_imp {X : Cx} {e : Option Expr} {t t' : TO} (h : PO X e t) (m : ∀ σ H Q, t' σ H Q → t σ H Q) : PO X e t' := ⟨fun pins s σ H Q I q => h.run pins s σ H Q I (m σ H Q q)⟩
theorem len_cut {α : Type} (xs : List α) (lo hi : Option Int) : (cutL xs lo hi).length ≤ xs.length := by
  unfold cutL
  rw [List.length_take, List.length_drop]
  omega
theorem rl_cut {g : Ga} {Hs : Hp} {ds : List D} {vs : List V} (r : RlL g Hs ds vs) (lo hi : Option Int) : RlL g Hs (cutL ds lo hi) (cutV vs lo hi) := by
  unfold cutL cutV
  rw [r.length]
  exact (r.drop _).take _
theorem txtOk_cut {z : Str} (h : txtOk z = true) (lo hi : Option Int) : txtOk (cutS z lo hi) = true := by
  have l := cutS_length z lo hi
  rw [txtOk_iff] at h ⊢
  refine ⟨Nat.le_trans (by rw [Array.length_toList]; exact l) (by have := h.1; rw [Array.length_toList] at this; exact this), fun c hc => h.2 c ?_⟩
  have hc' : c ∈ (z.cps.toList.drop (HT.sIx z.length 0 lo)).take (HT.sIx z.length z.length hi - HT.sIx z.length 0 lo) := hc
  exact List.mem_of_mem_drop (List.mem_of_mem_take hc')
section
variable {X : Cx} {g : Ga} {E : XK} {hid : List Nat} {σ : St} {H : Hp} {Q : VK} {ma mb mc m : PM D} {a b c e : Expr} {es : List Expr} {ms : List (PM D)} {pos p2 : Pos}
theorem po_n : DO X g E hid none paN := PO_imp po_none fun σ H Q ⟨st, c, Hs, sl, sm, cu, p⟩ => p Hs H (Fn.refl sm cu)
theorem po_s (h : DE X g E hid e m) : DO X g E hid (some e) (paS m) := by
  refine PO_imp (po_some h) fun σ H Q ⟨st, c, Hs, sl, sm, cu, p⟩ => ⟨st, c, Hs, sl, sm, cu, (Post.bind p).mono fun x c1 Hs1 H1 _ F1 q v1 r1 => ?_⟩
  cases x with
  | int i => exact ⟨i, rl_int.mp r1, q Hs1 H1 (Fn.refl F1.sm F1.cu)⟩
  | _ => exact q.elim
theorem d_sl {lo hi : Option Expr} {ml mh : PM (Option Int)} (he : DE X g E hid e m) (hl : DO X g E hid lo ml) (hu : DO X g E hid hi mh) (hK : X.K = g.K := by rfl) : DE X g E hid (.Subscript e (.Slice lo hi none p2) pos) (slD m ml mh) := by
  refine PE_imp (pe_slice (sl_list.or (sl_tupA.or sl_str)) he hl hu) fun σ H Q ⟨st, c, Hs, sl, sm, cu, p⟩ => ⟨st, c, Hs, sl, sm, cu, (Post.bind p).mono fun x c1 Hs1 H1 _ F1 q v1 r1 => ?_⟩
  refine ⟨st, c1, Hs1, sl.mono F1.ss, F1.sm, F1.cu, (Post.bind q).mono fun l c2 Hs2 H2 _ F2 q2 => ⟨st, c2, Hs2, (sl.mono F1.ss).mono F2.ss, F2.sm, F2.cu, (Post.bind q2).mono fun u c3 Hs3 H3 _ F3 q3 => ?_⟩⟩
  have r3 := Rl.mono (F2.ss.trans F3.ss) x v1 r1
  rw [hK]
  cases x with
  | lst ds =>
    obtain ⟨p, vs, rfl, hp, hl, r⟩ := rl_lst.mp r3
    refine .inl ⟨p, vs, rfl, .inl (.inl (F3.sm _ _ hp)), fun n hn => ?_⟩
    exact q3 (upd Hs3 n _) _ (Fn.new F3.sm F3.cu hn) _ (rl_lst.mpr ⟨n, _, rfl, upd_same, Nat.le_trans (len_cut _ _ _) hl, RlL.mono (same_new (F3.sm.free hn)) _ _ (rl_cut r l u)⟩)
  | tup ds =>
    obtain ⟨p, vs, rfl, hp, hl, r⟩ := rl_tup.mp r3
    refine .inr (.inl ⟨p, vs, rfl, seqT_mono F3.sm hp, fun z => ?_, fun z n hn => ?_⟩)
    · refine q3 Hs3 H3 (Fn.refl F3.sm F3.cu) _ ?_
      have e2 : cutL ds l u = ds := by
        unfold cutL
        rw [← r.length, z.1, z.2, List.drop_zero, Nat.sub_zero, r.length, List.take_length]
      rw [e2]
      exact r3
    · exact q3 (upd Hs3 n _) _ (Fn.new F3.sm F3.cu hn) _ (rl_tup.mpr ⟨n, _, rfl, .inl (.inl upd_same), Nat.le_trans (len_cut _ _ _) hl, RlL.mono (same_new (F3.sm.free hn)) _ _ (rl_cut r l u)⟩)
  | str z =>
    obtain ⟨rfl, hz⟩ := rl_str.mp r3
    exact .inr (.inr ⟨z, rfl, txtOk_len hz, q3 Hs3 H3 (Fn.refl F3.sm F3.cu) _ (rl_str.mpr ⟨rfl, txtOk_cut hz l u⟩)⟩)
  | _ => exact q3.elim
end
/-! built-in functions -/
def lenF : List D → Option D
  | [.str z] => some (.int z.length)
  | [.lst ds] => some (.int ds.length)
  | [.tup ds] => some (.int ds.length)
  | [.scr ns] => some (.int ns.length)
  | _ => none
def absF : List D → Option D
  | [.int i] => some (.int (if i < 0 then -i else i))
  | _ => none
def divmodF : List D → Option D
  | [.int i, .int j] => if 0 < j ∧ j < 1073741824 then some (.tup [.int (i / j), .int (i % j)]) else none
  | _ => none
def blsOf : List D → Option (List Bool)
  | [] => some []
  | .bl b :: ds => (blsOf ds).map (b :: ·)
  | _ => none
def intsOf : List D → Option (List Int)
  | [] => some []
  | .int b :: ds => (intsOf ds).map (b :: ·)
  | _ => none
def strsOf : List D → Option (List Str)
  | [] => some []
  | .str b :: ds => (strsOf ds).map (b :: ·)
  | _ => none
theorem blsOf_map (bs : List Bool) : blsOf (bs.map .bl) = some bs := by induction bs with
  | nil => rfl
  | cons b bs ih => rw [List.map_cons, blsOf, ih]; rfl
theorem intsOf_map (bs : List Int) : intsOf (bs.map .int) = some bs := by induction bs with
  | nil => rfl
  | cons b bs ih => rw [List.map_cons, intsOf, ih]; rfl
theorem strsOf_map (bs : List Str) : strsOf (bs.map .str) = some bs := by induction bs with
  | nil => rfl
  | cons b bs ih => rw [List.map_cons, strsOf, ih]; rfl
def allF : List D → Option D
  | [.lst ds] => (blsOf ds).map fun bs => .bl (bs.all id)
  | _ => none
def anyF : List D → Option D
  | [.lst ds] => (blsOf ds).map fun bs => .bl (bs.any id)
  | _ => none
def sumF : List D → Option D
  | [.lst ds] => (intsOf ds).map fun ns => .int ns.sum
  | _ => none
def maxF : List D → Option D
  | [.int i, .int j] => some (.int (if j > i then j else i))
  | _ => none
def minF : List D → Option D
  | [.int i, .int j] => some (.int (if j < i then j else i))
  | _ => none
def int1F : List D → Option D
  | [.int i] => some (.int i)
  | _ => none
def str1F : List D → Option D
  | [.int i] => if i.natAbs.log2 < 1920 ∧ txtOk (toString i) = true then some (.str (toString i)) else none
  | [.str z] => some (.str z)
  | _ => none
def tupleF : List D → Option D
  | [.lst ds] => some (.tup ds)
  | [.tup ds] => some (.tup ds)
  | _ => none
def listF : List D → Option D
  | [.lst ds] => some (.lst ds)
  | [.tup ds] => some (.lst ds)
  | _ => none
section
variable {X : Cx} {g : Ga}
theorem one_of {Hs : Hp} {d : D} {vs : List V} (r : RlL g Hs [d] vs) : ∃ v, vs = [v] ∧ Rl g Hs d v := by
  obtain ⟨v, r2, rfl, h1, h2⟩ := rll_cons.mp r
  rw [rll_nil.mp h2]
  exact ⟨v, rfl, h1⟩
theorem two_of {Hs : Hp} {d e : D} {vs : List V} (r : RlL g Hs [d, e] vs) : ∃ v u, vs = [v, u] ∧ Rl g Hs d v ∧ Rl g Hs e u := by
  obtain ⟨v, r2, rfl, h1, h2⟩ := rll_cons.mp r
  obtain ⟨u, rfl, h3⟩ := one_of h2
  exact ⟨v, u, rfl, h1, h3⟩
theorem bls_of {Hs : Hp} : ∀ {ds : List D} {bs : List Bool} {vs : List V}, blsOf ds = some bs → RlL g Hs ds vs → vs = bs.map V.bl
  | [], bs, vs, e, r => by cases e; rw [rll_nil.mp r]; rfl
  | d :: ds, bs, vs, e, r => by
    obtain ⟨v, r2, rfl, h1, h2⟩ := rll_cons.mp r
    cases d <;> simp only [blsOf, Option.map_eq_some_iff, reduceCtorEq] at e
    obtain ⟨bs', e, rfl⟩ := e
    rw [rl_bl.mp h1, bls_of e h2]
    rfl
theorem ints_of {Hs : Hp} : ∀ {ds : List D} {bs : List Int} {vs : List V}, intsOf ds = some bs → RlL g Hs ds vs → vs = bs.map V.int
  | [], bs, vs, e, r => by cases e; rw [rll_nil.mp r]; rfl
  | d :: ds, bs, vs, e, r => by
    obtain ⟨v, r2, rfl, h1, h2⟩ := rll_cons.mp r
    cases d <;> simp only [intsOf, Option.map_eq_some_iff, reduceCtorEq] at e
    obtain ⟨bs', e, rfl⟩ := e
    rw [rl_int.mp h1, ints_of e h2]
    rfl
theorem strs_of {Hs : Hp} : ∀ {ds : List D} {bs : List Str} {vs : List V}, strsOf ds = some bs → RlL g Hs ds vs → vs = bs.map V.str
  | [], bs, vs, e, r => by cases e; rw [rll_nil.mp r]; rfl
  | d :: ds, bs, vs, e, r => by
    obtain ⟨v, r2, rfl, h1, h2⟩ := rll_cons.mp r
    cases d <;> simp only [strsOf, Option.map_eq_some_iff, reduceCtorEq] at e
    obtain ⟨bs', e, rfl⟩ := e
    rw [(rl_str.mp h1).1, strs_of e h2]
    rfl
theorem b_len (hK : X.K = g.K := by rfl) : BiD X g (.builtin "len") lenF := by
  refine ⟨_, call_len, ?_⟩
  rw [hK]
  intro Hs H c xs vs d Q sm cu rx e q
  unfold lenF at e
  split at e
  · -- | [.str z], rx, e =>
    obtain ⟨v, rfl, r⟩ := one_of rx
    cases e
    obtain ⟨rfl, hz⟩ := rl_str.mp r
    exact ⟨_, _, rfl, ⟨txtOk_len hz, rfl⟩, q Hs H _ (Fn.refl sm cu) (rl_int.mpr rfl)⟩
  · -- | [.lst ds], rx, e =>
    obtain ⟨v, rfl, r⟩ := one_of rx
    cases e
    obtain ⟨p, ws, rfl, hp, _, rr⟩ := rl_lst.mp r
    exact ⟨_, _, rfl, .inl ⟨ws, .inl (.inl (sm _ _ hp)), rr.length.symm⟩, q Hs H _ (Fn.refl sm cu) (rl_int.mpr rfl)⟩
  · -- | [.tup ds], rx, e =>
    obtain ⟨v, rfl, r⟩ := one_of rx
    cases e
    obtain ⟨p, ws, rfl, hp, _, rr⟩ := rl_tup.mp r
    exact ⟨_, _, rfl, .inr ⟨ws, seqT_mono sm hp, rr.length.symm⟩, q Hs H _ (Fn.refl sm cu) (rl_int.mpr rfl)⟩
  · obtain ⟨v, rfl, r⟩ := one_of rx
    cases e
    obtain ⟨p, rfl, hp⟩ := rl_scr.mp r
    exact ⟨_, _, rfl, .inl ⟨_, Evl.ex_l sm hp, by simp⟩, q Hs H _ (Fn.refl sm cu) (rl_int.mpr rfl)⟩
  · cases e
theorem b_abs : BiD X g (.builtin "abs") absF := by
  refine ⟨_, call_abs, ?_⟩
  intro Hs H c xs vs d Q sm cu rx e q
  unfold absF at e
  split at e
  · -- | [.int i], rx, e =>
    obtain ⟨v, rfl, r⟩ := one_of rx
    cases e
    rw [rl_int.mp r]
    exact ⟨_, rfl, q Hs H _ (Fn.refl sm cu) (rl_int.mpr rfl)⟩
  · cases e
theorem b_divmod : BiD X g (.builtin "divmod") divmodF := by
  refine ⟨_, call_divmod, ?_⟩
  intro Hs H c xs vs d Q sm cu rx e q
  unfold divmodF at e
  split at e
  · -- | [.int i, .int j], rx, e =>
    obtain ⟨v, u, rfl, r1, r2⟩ := two_of rx
    simp only [Option.ite_none_right_eq_some, Option.some.injEq] at e
    obtain ⟨h, rfl⟩ := e
    rw [rl_int.mp r1, rl_int.mp r2]
    refine ⟨_, _, rfl, h, fun n hn => q (upd Hs n _) _ _ (Fn.new sm cu hn) (rl_tup.mpr ⟨n, _, rfl, .inl (.inl upd_same), by rw [sizeLine_eq]; simp, ?_⟩)⟩
    exact rll_cons.mpr ⟨_, _, rfl, rl_int.mpr rfl, rll_cons.mpr ⟨_, _, rfl, rl_int.mpr rfl, rll_nil.mpr rfl⟩⟩
  · cases e
theorem b_all (hc : X.calm = true) (hK : X.K = g.K := by rfl) : BiD X g (.builtin "all") allF := by
  refine ⟨_, cr_all hc, ?_⟩
  rw [hK]
  intro Hs H c xs vs d Q sm cu rx e q
  unfold allF at e
  split at e
  · -- | [.lst ds], rx, e =>
    obtain ⟨v, rfl, r⟩ := one_of rx
    simp only [Option.map_eq_some_iff] at e
    obtain ⟨bs, e, rfl⟩ := e
    obtain ⟨p, ws, rfl, hp, _, rr⟩ := rl_lst.mp r
    rw [bls_of e rr] at hp
    exact ⟨p, bs, rfl, .inl (.inl (sm _ _ hp)), q Hs H _ (Fn.refl sm cu) (rl_bl.mpr rfl)⟩
  · cases e
theorem b_any (hc : X.calm = true) (hK : X.K = g.K := by rfl) : BiD X g (.builtin "any") anyF := by
  refine ⟨_, cr_any hc, ?_⟩
  rw [hK]
  intro Hs H c xs vs d Q sm cu rx e q
  unfold anyF at e
  split at e
  · -- | [.lst ds], rx, e =>
    obtain ⟨v, rfl, r⟩ := one_of rx
    simp only [Option.map_eq_some_iff] at e
    obtain ⟨bs, e, rfl⟩ := e
    obtain ⟨p, ws, rfl, hp, _, rr⟩ := rl_lst.mp r
    rw [bls_of e rr] at hp
    exact ⟨p, bs, rfl, .inl (.inl (sm _ _ hp)), q Hs H _ (Fn.refl sm cu) (rl_bl.mpr rfl)⟩
  · cases e
theorem b_sum (hc : X.calm = true) (hK : X.K = g.K := by rfl) : BiD X g (.builtin "sum") sumF := by
  refine ⟨_, cr_sum hc, ?_⟩
  rw [hK]
  intro Hs H c xs vs d Q sm cu rx e q
  unfold sumF at e
  split at e
  · -- | [.lst ds], rx, e =>
    obtain ⟨v, rfl, r⟩ := one_of rx
    simp only [Option.map_eq_some_iff] at e
    obtain ⟨bs, e, rfl⟩ := e
    obtain ⟨p, ws, rfl, hp, _, rr⟩ := rl_lst.mp r
    rw [ints_of e rr] at hp
    exact ⟨p, bs, rfl, .inl (.inl (sm _ _ hp)), q Hs H _ (Fn.refl sm cu) (rl_int.mpr rfl)⟩
  · cases e
theorem b_max (hc : X.calm = true) : BiD X g (.builtin "max") maxF := by
  refine ⟨_, call_max2 hc, ?_⟩
  intro Hs H c xs vs d Q sm cu rx e q
  unfold maxF at e
  split at e
  · -- | [.int i, .int j], rx, e =>
    obtain ⟨v, u, rfl, r1, r2⟩ := two_of rx
    cases e
    rw [rl_int.mp r1, rl_int.mp r2]
    exact ⟨_, _, rfl, q Hs H _ (Fn.refl sm cu) (rl_int.mpr rfl)⟩
  · cases e
theorem b_min (hc : X.calm = true) : BiD X g (.builtin "min") minF := by
  refine ⟨_, call_min2 hc, ?_⟩
  intro Hs H c xs vs d Q sm cu rx e q
  unfold minF at e
  split at e
  · -- | [.int i, .int j], rx, e =>
    obtain ⟨v, u, rfl, r1, r2⟩ := two_of rx
    cases e
    rw [rl_int.mp r1, rl_int.mp r2]
    exact ⟨_, _, rfl, q Hs H _ (Fn.refl sm cu) (rl_int.mpr rfl)⟩
  · cases e
theorem b_int : BiD X g (.type "int") int1F := by
  refine ⟨_, int_c, ?_⟩
  intro Hs H c xs vs d Q sm cu rx e q
  unfold int1F at e
  split at e
  · -- | [.int i], rx, e =>
    obtain ⟨v, rfl, r⟩ := one_of rx
    cases e
    rw [rl_int.mp r]
    exact q Hs H _ (Fn.refl sm cu) (rl_int.mpr rfl)
  · cases e
theorem b_str : BiD X g (.type "str") str1F := by
  refine ⟨_, call_str_int.or SkE.call_str_str, ?_⟩
  intro Hs H c xs vs d Q sm cu rx e q
  unfold str1F at e
  split at e
  · -- | [.int i], rx, e =>
    obtain ⟨v, rfl, r⟩ := one_of rx
    simp only [Option.ite_none_right_eq_some, Option.some.injEq] at e
    obtain ⟨h, rfl⟩ := e
    rw [rl_int.mp r]
    exact .inl ⟨_, rfl, h.1, q Hs H _ (Fn.refl sm cu) (rl_str.mpr ⟨rfl, h.2⟩)⟩
  · -- | [.str z], rx, e =>
    obtain ⟨v, rfl, r⟩ := one_of rx
    cases e
    obtain ⟨rfl, hz⟩ := rl_str.mp r
    exact .inr ⟨_, rfl, q Hs H _ (Fn.refl sm cu) r⟩
  · cases e
theorem b_tuple (hK : X.K = g.K := by rfl) : BiD X g (.type "tuple") tupleF := by
  refine ⟨_, call_tuple_of, ?_⟩
  rw [hK]
  intro Hs H c xs vs d Q sm cu rx e q
  unfold tupleF at e
  split at e
  · -- | [.lst ds], rx, e =>
    obtain ⟨v, rfl, r⟩ := one_of rx
    cases e
    obtain ⟨p, ws, rfl, hp, hl, rr⟩ := rl_lst.mp r
    exact ⟨p, ws, rfl, .inl ⟨.inl (.inl (sm _ _ hp)), fun n hn => q (upd Hs n _) _ _ (Fn.new sm cu hn) (rl_tup.mpr ⟨n, _, rfl, .inl (.inl upd_same), hl, RlL.mono (same_new (sm.free hn)) _ _ rr⟩)⟩⟩
  · -- | [.tup ds], rx, e =>
    obtain ⟨v, rfl, r⟩ := one_of rx
    cases e
    obtain ⟨p, ws, rfl, hp, hl, rr⟩ := rl_tup.mp r
    exact ⟨p, ws, rfl, .inr ⟨seqT_mono sm hp, q Hs H _ (Fn.refl sm cu) r⟩⟩
  · cases e
theorem b_list (hK : X.K = g.K := by rfl) : BiD X g (.type "list") listF := by
  refine ⟨_, call_list_of, ?_⟩
  rw [hK]
  intro Hs H c xs vs d Q sm cu rx e q
  unfold listF at e
  split at e
  · -- | [.lst ds], rx, e =>
    obtain ⟨v, rfl, r⟩ := one_of rx
    cases e
    obtain ⟨p, ws, rfl, hp, hl, rr⟩ := rl_lst.mp r
    exact ⟨p, ws, rfl, .inl (.inl (.inl (sm _ _ hp))), fun n hn => q (upd Hs n _) _ _ (Fn.new sm cu hn) (rl_lst.mpr ⟨n, _, rfl, upd_same, hl, RlL.mono (same_new (sm.free hn)) _ _ rr⟩)⟩
  · -- | [.tup ds], rx, e =>
    obtain ⟨v, rfl, r⟩ := one_of rx
    cases e
    obtain ⟨p, ws, rfl, hp, hl, rr⟩ := rl_tup.mp r
    exact ⟨p, ws, rfl, .inr (seqT_mono sm hp), fun n hn => q (upd Hs n _) _ _ (Fn.new sm cu hn) (rl_lst.mpr ⟨n, _, rfl, upd_same, hl, RlL.mono (same_new (sm.free hn)) _ _ rr⟩)⟩
  · cases e
end
end L2.G
set_option Elab.async false
set_option linter.all false
set_option maxRecDepth 100000
set_option maxHeartbeats 2000000
namespace L2.G
open PySem PySem.Spec PyProof.Rows L2H
/-- repr of data -/
def shwD : D → Str
  | .dic => (PyData.dict []).shown
  | .dct [.inr k] [.int i] => (PyData.dict [(.str k, .int i)]).shown
  | d => (toP d).shown
def shwOk (d : D) : Bool := match d with
  | .dic => true
  | .dct [.inr k] [.int i] => decide (i.natAbs.log2 < 1920) && txtOk (PyData.dict [(.str k, .int i)]).shown
  | d => okD 18 d && (toP d).showable && txtOk (toP d).shown
def reprF : List D → Option D
  | [d] => if shwOk d then some (.str (shwD d)) else none
  | _ => none
theorem shw_of {g : Ga} {Hs H : Hp} {d : D} {v : V} (sm : Same Hs H) (h : shwOk d = true) (r : Rl g Hs d v) : Shw g.K H v (shwD d) ∧ txtOk (shwD d) = true := by
  have big : ∀ a, v = .ref a → okD 18 d = true → (toP d).showable = true → txtOk (toP d).shown = true → shwD d = (toP d).shown → Shw g.K H v (shwD d) ∧ txtOk (shwD d) = true := by
    rintro a rfl h1 h2 h3 e
    rw [e]
    exact ⟨.inl ⟨toP d, dp_of 18 d _ h1 (Rl.mono sm d _ r), h2, PyData.hasDict_of_canLay _ (lay_of 18 d _ h1 r), by have := dep_of 18 d h1; omega, txtOk_len h3, rfl⟩, h3⟩
  cases d with
  | dic =>
    obtain ⟨a, rfl, ha⟩ := rl_dic.mp r
    exact ⟨.inr (.inl ⟨sm _ _ ha, rfl⟩), by decide +kernel⟩
  | non =>
    simp only [shwOk, Bool.and_eq_true] at h
    rw [rl_non.mp r]
    exact ⟨by unfold shwD toP PyData.shown; rfl, h.2⟩
  | bl b =>
    simp only [shwOk, Bool.and_eq_true] at h
    rw [rl_bl.mp r]
    refine ⟨?_, h.2⟩
    unfold shwD toP PyData.shown
    cases b <;> rfl
  | int i =>
    simp only [shwOk, Bool.and_eq_true] at h
    rw [rl_int.mp r]
    refine ⟨?_, h.2⟩
    have h2 := h.1.2
    unfold toP PyData.showable at h2
    unfold shwD toP PyData.shown
    exact ⟨of_decide_eq_true h2, rfl⟩
  | str z =>
    simp only [shwOk, Bool.and_eq_true] at h
    rw [(rl_str.mp r).1]
    refine ⟨?_, h.2⟩
    have h2 := h.2
    unfold toP PyData.shown at h2
    unfold shwD toP PyData.shown
    exact ⟨txtOk_len h2, rfl⟩
  | tup ds =>
    simp only [shwOk, Bool.and_eq_true] at h
    obtain ⟨a, vs, e, _⟩ := rl_tup.mp r
    exact big a e h.1.1 h.1.2 h.2 rfl
  | lst ds =>
    simp only [shwOk, Bool.and_eq_true] at h
    obtain ⟨a, vs, e, _⟩ := rl_lst.mp r
    exact big a e h.1.1 h.1.2 h.2 rfl
  | ins C ns ds => unfold shwOk okD at h; cases h
  | dct ks ds =>
    unfold shwOk at h
    split at h
    · rename_i z; cases z
    · rename_i k i z
      cases z
      obtain ⟨h1, h2⟩ := Bool.and_eq_true_iff.mp h
      obtain ⟨a, kvs, rfl, ha, hk, hv⟩ := rl_dct.mp r
      obtain ⟨v1, r1, e1, e2, e3⟩ := rll_cons.mp hv
      rw [rll_nil.mp e3] at e1
      rw [rl_int.mp e2] at e1
      have e : kvs = [(.inr k, .int i)] := by
        match kvs, hk, e1 with
        | [(p, q)], hk, e1 =>
          simp only [List.map_cons, List.map_nil, List.cons.injEq, and_true] at hk e1
          rw [hk, e1]
      rw [e] at ha
      exact ⟨.inr (.inr ⟨k, i, sm _ _ ha, of_decide_eq_true h1, txtOk_len h2, rfl⟩), h2⟩
    · unfold okD at h; cases h
  | exc _ _ _ => unfold shwOk okD at h; cases h
  | cup => unfold shwOk okD at h; cases h
  | scr _ => unfold shwOk okD at h; cases h
theorem b_repr {X : Cx} {g : Ga} {k : Nat} (qt : Quiet X.A) (hr : RoomH k X.A) (hK : X.K = g.K := by rfl) : BiD X g (.builtin "repr") reprF := by
  refine ⟨_, cr_rp qt hr, ?_⟩
  rw [hK]
  intro Hs H c xs vs d Q sm cu rx e q
  match xs, rx, e with
  | [x], rx, e =>
    obtain ⟨v, rfl, r⟩ := one_of rx
    simp only [reprF, Option.ite_none_right_eq_some, Option.some.injEq] at e
    obtain ⟨h, rfl⟩ := e
    obtain ⟨s1, s2⟩ := shw_of sm h r
    exact ⟨v, _, rfl, s1, q Hs H _ (Fn.refl sm cu) (rl_str.mpr ⟨rfl, s2⟩)⟩
end L2.G
set_option Elab.async false
set_option linter.all false
set_option maxRecDepth 100000
set_option maxHeartbeats 2000000
namespace L2.G
open PySem PySem.Spec PyProof.Rows L2H
/-! methods of built-in values -/
def isStrD : D → Bool
  | .str _ => true
  | _ => false
def mtD (f : D → List D → Option D) (m : PM D) (ms : List (PM D)) : PM D := fun st c => (m st c).bind fun x c => if isStrD x = true then (aD ms st c).bind fun xs c => ofO (f x xs) c else .no
def MtD (X : Cx) (g : Ga) (id : String) (f : D → List D → Option D) : Prop := ∃ r, MtR X id r ∧
  ∀ Hs H c x xs v vs d Q, Same Hs H → CupAt g.pc Hs H c → Rl g Hs x v → RlL g Hs xs vs → f x xs = some d → (∀ Hs' H' z, Fn g.pc Hs H Hs' H' c → Rl g Hs' d z → Q z H') → r v vs H Q
def joinF : D → List D → Option D
  | .str a, [.lst ds] => (strsOf ds).bind fun zs => if (zs.map (·.length)).sum + zs.length * a.length ≤ 16777216 ∧ txtOk (Txt.join a zs) = true then some (.str (Txt.join a zs)) else none
  | _, _ => none
def lowerF : D → List D → Option D
  | .str a, [] => if a.length ≤ 5592405 ∧ txtOk (Txt.lower a) = true then some (.str (Txt.lower a)) else none
  | _, _ => none
def upperF : D → List D → Option D
  | .str a, [] => if a.length ≤ 5592405 ∧ txtOk (Txt.upper a) = true then some (.str (Txt.upper a)) else none
  | _, _ => none
def countF : D → List D → Option D
  | .str a, [.str b] => some (.int (Txt.count a b))
  | _, _ => none
def sindexF : D → List D → Option D
  | .str a, [.str b] => match Builtin.Str.occurrences a b 0 a.length 1 with
    | i :: _ => some (.int (i : Nat))
    | [] => none
  | _, _ => none
section
variable {X : Cx} {g : Ga}
theorem m_join (hK : X.K = g.K := by rfl) : MtD X g "str.join" joinF := by
  refine ⟨_, mt_join, ?_⟩
  · rw [hK]
    intro Hs H c x xs v vs d Q sm cu rx rs e q
    unfold joinF at e
    split at e
    · obtain ⟨zs, e1, e⟩ := Option.bind_eq_some_iff.mp e
      simp only [Option.ite_none_right_eq_some, Option.some.injEq] at e
      obtain ⟨⟨h1, h2⟩, rfl⟩ := e
      obtain ⟨u, rfl, r⟩ := one_of rs
      obtain ⟨p, ws, rfl, hp, _, rr⟩ := rl_lst.mp r
      rw [strs_of e1 rr] at hp
      exact ⟨_, p, zs, (rl_str.mp rx).1, rfl, .inl (.inl (.inl (sm _ _ hp))), h1, q Hs H _ (Fn.refl sm cu) (rl_str.mpr ⟨rfl, h2⟩)⟩
    · cases e
theorem m_lower : MtD X g "str.lower" lowerF := by
  refine ⟨_, mt_lower, ?_⟩
  · intro Hs H c x xs v vs d Q sm cu rx rs e q
    unfold lowerF at e
    split at e
    · simp only [Option.ite_none_right_eq_some, Option.some.injEq] at e
      obtain ⟨⟨h1, h2⟩, rfl⟩ := e
      exact ⟨_, (rl_str.mp rx).1, rll_nil.mp rs, h1, q Hs H _ (Fn.refl sm cu) (rl_str.mpr ⟨rfl, h2⟩)⟩
    · cases e
theorem m_upper : MtD X g "str.upper" upperF := by
  refine ⟨_, mt_upper, ?_⟩
  · intro Hs H c x xs v vs d Q sm cu rx rs e q
    unfold upperF at e
    split at e
    · simp only [Option.ite_none_right_eq_some, Option.some.injEq] at e
      obtain ⟨⟨h1, h2⟩, rfl⟩ := e
      exact ⟨_, (rl_str.mp rx).1, rll_nil.mp rs, h1, q Hs H _ (Fn.refl sm cu) (rl_str.mpr ⟨rfl, h2⟩)⟩
    · cases e
theorem m_count : MtD X g "str.count" countF := by
  refine ⟨_, mt_count, ?_⟩
  · intro Hs H c x xs v vs d Q sm cu rx rs e q
    unfold countF at e
    split at e
    · cases e
      obtain ⟨u, rfl, r⟩ := one_of rs
      exact ⟨_, _, (rl_str.mp rx).1, by rw [(rl_str.mp r).1], q Hs H _ (Fn.refl sm cu) (rl_int.mpr rfl)⟩
    · cases e
theorem m_sindex : MtD X g "str.index" sindexF := by
  refine ⟨_, mt_sindex, ?_⟩
  · intro Hs H c x xs v vs d Q sm cu rx rs e q
    unfold sindexF at e
    split at e
    · split at e
      · rename_i i rest ho
        cases e
        obtain ⟨u, rfl, r⟩ := one_of rs
        exact ⟨_, _, _, _, (rl_str.mp rx).1, by rw [(rl_str.mp r).1], ho, q Hs H _ (Fn.refl sm cu) (rl_int.mpr rfl)⟩
      · cases e
    · cases e
end
section
variable {X : Cx} {g : Ga} {E : XK} {hid : List Nat} {σ : St} {H : Hp} {Q : VK} {ma mb mc m : PM D} {a b c e o : Expr} {es : List Expr} {ms : List (PM D)} {pos p2 apos cpos : Pos} {f : D → List D → Option D} {T id : String} {name : Str}
theorem d_mt (pa : PlainAttrs "str") (slot : Slot "str" name id) (hty : typeOf (.builtin id) = pure (.type "method_descriptor")) (hm : MtD X g id f) (ho : DE X g E hid o m) (ha : DA X g E hid (e :: es) (aD ms))
    (hbase : attributeBase o name X.env (eval o X.env) = eval o X.env := by rfl)
    (hfew : ((backTo cpos (starEach (e :: es) X.env)).all (fun x => !x.1) && (backToKw cpos (keywordEach [] X.env)).all (fun x => x.1.isSome)
      && decide ((e :: es).length + ([] : List Keyword).length + (if ([] : List Keyword).isEmpty then 0 else 1) < 30)) = true := by rfl)
    (hline : (apos.endLine == cpos.line) = true := by rfl) (hs : starEach (e :: es) X.env = (false, eval e X.env) :: starEach es X.env := by rfl) (hplain : (backTo cpos (starEach es X.env)).any (·.1) = false := by rfl) :
    DE X g E hid (.Call (.Attribute o name apos) (e :: es) [] cpos) (mtD f m ms) := by
  obtain ⟨r, hm, hr⟩ := hm
  refine PE_imp (pe_bm pa slot hty hm ho ha hbase hfew hline hs hplain) fun σ H Q ⟨st, c, Hs, sl, sm, cu, p⟩ => ⟨st, c, Hs, sl, sm, cu, (Post.bind p).mono fun x c1 Hs1 H1 _ F1 q v1 r1 => ?_⟩
  have ty : tyV X.K "str" v1 H1 ∧ isStrD x = true := by
    cases x with
    | str z => rw [(rl_str.mp r1).1]; exact ⟨rfl, rfl⟩
    | _ => exact q.elim
  rw [if_pos ty.2] at q
  refine ⟨ty.1, st, c1, Hs1, sl.mono F1.ss, F1.sm, F1.cu, (Post.bind q).mono fun xs c2 Hs2 H2 _ F2 q2 vs rs => ?_⟩
  cases e2 : f x xs with
  | none => rw [e2] at q2; exact q2.elim
  | some d =>
    rw [e2] at q2
    exact hr Hs2 H2 c2 x xs v1 vs d Q F2.sm F2.cu (Rl.mono F2.ss x v1 r1) rs e2 fun Hs' H' z F rz => q2 Hs' H' F z rz
theorem d_mt0 (pa : PlainAttrs "str") (slot : Slot "str" name id) (hty : typeOf (.builtin id) = pure (.type "method_descriptor")) (hm : MtD X g id f) (ho : DE X g E hid o m)
    (hbase : attributeBase o name X.env (eval o X.env) = eval o X.env := by rfl) (hline : (apos.endLine == cpos.line) = true := by rfl) : DE X g E hid (.Call (.Attribute o name apos) [] [] cpos) (mtD f m []) := by
  obtain ⟨r, hm, hr⟩ := hm
  refine PE_imp (pe_bm0 pa slot hty hm ho hbase hline) fun σ H Q ⟨st, c, Hs, sl, sm, cu, p⟩ => ⟨st, c, Hs, sl, sm, cu, (Post.bind p).mono fun x c1 Hs1 H1 _ F1 q v1 r1 => ?_⟩
  have ty : tyV X.K "str" v1 H1 ∧ isStrD x = true := by
    cases x with
    | str z => rw [(rl_str.mp r1).1]; exact ⟨rfl, rfl⟩
    | _ => exact q.elim
  rw [if_pos ty.2] at q
  refine ⟨ty.1, ?_⟩
  have q2 : Post g E Hs1 H1 (ofO (f x []) c1) fun d _ Hs' H' => ∀ v, Rl g Hs' d v → Q v H' := q
  cases e2 : f x [] with
  | none => rw [e2] at q2; exact q2.elim
  | some d =>
    rw [e2] at q2
    exact hr Hs1 H1 c1 x [] v1 [] d Q F1.sm F1.cu r1 (rll_nil.mpr rfl) e2 fun Hs' H' z F rz => q2 Hs' H' F z rz
/-! f-strings -/
def fmtF : D → Option D
  | .str y => some (.str y)
  | .int i => if i.natAbs.log2 < 1920 ∧ txtOk (toString i) = true then some (.str (toString i)) else none
  | _ => none
theorem d_fmt (he : DE X g E hid e m) : DE X g E hid (.FormattedValue e (-1) none pos) (unD fmtF m) := by
  refine PE_imp (pe_fmt he) fun σ H Q ⟨st, c, Hs, sl, sm, cu, p⟩ => ⟨st, c, Hs, sl, sm, cu, (Post.bind p).mono fun x c1 Hs1 H1 _ F1 q v1 r1 => ?_⟩
  cases x with
  | str z =>
    obtain ⟨rfl, hz⟩ := rl_str.mp r1
    exact .inl ⟨z, rfl, txtOk_len hz, q Hs1 H1 (Fn.refl F1.sm F1.cu) _ (rl_str.mpr ⟨rfl, hz⟩)⟩
  | int i =>
    unfold fmtF at q
    dsimp only at q
    split at q
    · rename_i h
      exact .inr ⟨i, rl_int.mp r1, h.1, q Hs1 H1 (Fn.refl F1.sm F1.cu) _ (rl_str.mpr ⟨rfl, h.2⟩)⟩
    · exact q.elim
  | _ => exact q.elim
def jsD : List (PM D) → Str → PM D
  | [], acc => fun _ c => .ok (.str acc) c
  | m :: ms, acc => fun st c => (m st c).bind fun x c => match x with
    | .str y => if (acc ++ y).length ≤ sizeLine then jsD ms (acc ++ y) st c else .no
    | _ => .no
inductive DJ (X : Cx) (g : Ga) (E : XK) (hid : List Nat) : List Expr → List (PM D) → Prop where
  | nil : DJ X g E hid [] []
  | cons {e : Expr} {m : PM D} {es : List Expr} {ms : List (PM D)} (h : DE X g E hid e m) (r : DJ X g E hid es ms) : DJ X g E hid (e :: es) (m :: ms)
theorem DJ.pj : ∀ {es : List Expr} {ms : List (PM D)}, DJ X g E hid es ms → PJ X es (ms.map (tE g E hid))
  | _, _, .nil => .nil
  | _, _, .cons h r => .cons h (DJ.pj r)
theorem js_of {st : PSt} {Qs : Str → Hp → Prop} : ∀ (ms : List (PM D)) (acc : Str) (c : Cu) (Hs H : Hp), txtOk acc = true → Sl g hid Hs st σ → Same Hs H → CupAt g.pc Hs H c →
    Post g E Hs H (jsD ms acc st c) (fun d _ Hs' H' => ∀ v, Rl g Hs' d v → ∃ z, v = .str z ∧ Qs z H') → tJs (ms.map (tE g E hid)) acc σ H Qs
  | [], acc, c, Hs, H, h, sl, sm, cu, p => by
    obtain ⟨z, e, q⟩ := p Hs H (Fn.refl sm cu) (.str acc) (rl_str.mpr ⟨rfl, h⟩)
    cases e
    exact q
  | m :: ms, acc, c, Hs, H, h, sl, sm, cu, p => by
    refine ⟨st, c, Hs, sl, sm, cu, (Post.bind p).mono fun x c1 Hs1 H1 _ F1 q v1 r1 => ?_⟩
    cases x with
    | str y =>
      obtain ⟨rfl, hy⟩ := rl_str.mp r1
      dsimp only at q
      split at q
      · rename_i hl
        have e : (acc ++ y).length = acc.length + y.length := by
          show (acc.cps ++ y.cps).size = _
          rw [Array.size_append]
          rfl
        exact ⟨y, rfl, hl, js_of ms (acc ++ y) c1 Hs1 H1 (txtOk_app h hy (by rw [← e]; exact hl)) (sl.mono F1.ss) F1.sm F1.cu q⟩
      · exact q.elim
    | _ => exact q.elim
def jsD0 (ms : List (PM D)) : PM D := jsD ms Str.empty
theorem jsD_str : ∀ {ms : List (PM D)} {acc : Str} {st : PSt} {c c' : Cu} {d : D}, jsD ms acc st c = .ok d c' → ∃ z, d = .str z
  | [], acc, st, c, c', d, h => by
    have e : R.ok (D.str acc) c = R.ok d c' := h
    injection e with e1 _
    exact ⟨acc, e1.symm⟩
  | m :: ms, acc, st, c, c', d, h => by
    have e : (m st c).bind (fun x c => match x with
      | .str y => if (acc ++ y).length ≤ sizeLine then jsD ms (acc ++ y) st c else .no
      | _ => .no) = R.ok d c' := h
    cases q : m st c with
    | no => rw [q] at e; cases e
    | er x c1 => rw [q] at e; cases e
    | ok x c1 =>
      rw [q, R.ok_bind] at e
      cases x with
      | str y =>
        dsimp only at e
        split at e
        · exact jsD_str e
        · cases e
      | _ => cases e
theorem d_js {v1 v2 : Expr} {rest : List Expr} (h : DJ X g E hid (v1 :: v2 :: rest) ms) : DE X g E hid (.JoinedStr (v1 :: v2 :: rest) pos) (jsD0 ms) := by
  refine PE_imp (pe_joined h.pj) fun σ H Q ⟨st, c, Hs, sl, sm, cu, p⟩ => js_of ms Str.empty c Hs H (by decide +kernel) sl sm cu (p.mono fun d c1 Hs1 H1 e F1 q v r => ?_)
  obtain ⟨z, rfl⟩ := jsD_str e
  obtain ⟨rfl, hz⟩ := rl_str.mp r
  exact ⟨z, rfl, q _ r⟩
end
end L2.G
set_option Elab.async false
set_option linter.all false
set_option maxRecDepth 100000
set_option maxHeartbeats 2000000
namespace L2.G
open PySem PySem.Spec PyProof.Rows L2H
/-! isinstance -/
def bltT : List String := ["int", "str", "bool", "tuple"]
/-- the program's classes of values -/
structure CK (K : PySem.W.Frag) (cm : Str → Addr) (cs : List Str) : Prop where
  inc : ∀ C ∈ cs, InC K (cm C)
  ty : ∀ C ∈ cs, ∀ T ∈ bltT, PySem.W.kitOne K (.ref (cm C)) (.type T) = some false
  ot : ∀ C ∈ cs, ∀ C' ∈ cs, C ≠ C' → PySem.W.kitOne K (.ref (cm C)) (.ref (cm C')) = some false
  gt : PySem.W.specialIn K (.builtin "object.__class__") "__get__" = some (some (.builtin "getset_descriptor.__get__"))
  tk : PySem.W.takesIn K (.builtin "object.__class__") = some true
def tyD : D → Option String
  | .non => some "NoneType"
  | .bl _ => some "bool"
  | .int _ => some "int"
  | .str _ => some "str"
  | .tup _ => some "tuple"
  | .lst _ => some "list"
  | .dic => some "dict"
  | .dct _ _ => some "dict"
  | _ => none
def isT (T : String) : D → Option D
  | .ins _ _ _ => if T ∈ bltT then some (.bl false) else none
  | d => if T ∈ bltT then (tyD d).map fun t => .bl (isB t T) else none
def isC (C : Str) : D → Option D
  | .ins C' _ _ => some (.bl (C' == C))
  | d => (tyD d).map fun _ => .bl false
theorem tyX_of {g : Ga} {Hs H : Hp} {d : D} {v : V} {t : String} (sm : Same Hs H) (r : Rl g Hs d v) (e : tyD d = some t) : TyX g.K H v (.type t) ∧ t ∈ tyNs := by
  cases d with
  | non => cases e; rw [rl_non.mp r]; exact ⟨.base .non, by decide⟩
  | bl b => cases e; rw [rl_bl.mp r]; exact ⟨.base (.bl _), by decide⟩
  | int b => cases e; rw [rl_int.mp r]; exact ⟨.base (.int _), by decide⟩
  | str b => cases e; rw [(rl_str.mp r).1]; exact ⟨.base (.str _), by decide⟩
  | tup b =>
    cases e
    obtain ⟨a, vs, rfl, hs, _⟩ := rl_tup.mp r
    refine ⟨?_, by decide⟩
    rcases seqT_mono sm hs with (h | ⟨o, h⟩) | h
    · exact .base (.tup h)
    · exact .fTuple h
    · obtain ⟨o, its, n, h1, h2, _⟩ := h
      exact .kTuple h1 h2
  | lst b => cases e; obtain ⟨a, vs, rfl, hs, _⟩ := rl_lst.mp r; exact ⟨.base (.lst (sm _ _ hs)), by decide⟩
  | dic => cases e; obtain ⟨a, rfl, hs⟩ := rl_dic.mp r; exact ⟨.base (.dK (sm _ _ hs)), by decide⟩
  | dct ks ds => cases e; obtain ⟨a, kvs, rfl, hs, _⟩ := rl_dct.mp r; exact ⟨.base (.dK (sm _ _ hs)), by decide⟩
  | _ => cases e
theorem isB_of : ∀ T ∈ bltT, ∀ t ∈ tyNs, kitB t T = some (isB t T) := by decide +kernel
section
variable {X : Cx} {g : Ga} {E : XK} {hid : List Nat} {m : PM D} {e : Expr} {p p1 pos : Pos}
theorem tyX_ins {Hs H : Hp} {C : Str} {ns : List Str} {ds : List D} {v : V} (ck : CK g.K g.cm g.cs) (sm : Same Hs H) (r : Rl g Hs (.ins C ns ds) v) : TyX g.K H v (.ref (g.cm C)) := by
  obtain ⟨hC, a, dx, gs, rfl, h, _⟩ := rl_ins.mp r
  have c := ck.inc C hC
  exact .base (.ins (sm _ _ h) c.cl c.at_ ck.gt ck.tk c.mro)
theorem d_isT {x : Str} {T : String} (ck : CK g.K g.cm g.cs) (hg : Gl X "isinstance") (hm : X.mg "isinstance" = none) (he : DE X g E hid e m) (hgT : Gl X x) (hmT : X.mg x = none) (hvT : bootBuiltins x = some (.type T))
    (hK : X.K = g.K := by rfl) (hn : x ≠ "__name__" := by decide) (hd : (x == ("__debug__" : Str)) = false := by decide)
    (hs : starEach [e, .Name x p1] X.env = (false, eval e X.env) :: starEach [.Name x p1] X.env := by rfl) (hs2 : starEach [.Name x p1] X.env = (false, eval (.Name x p1) X.env) :: starEach [] X.env := by rfl) (hpl : (backTo pos (starEach [.Name x p1] X.env)).any (·.1) = false := by rfl) :
    DE X g E hid (.Call (.Name "isinstance" p) [e, .Name x p1] [] pos) (unD (isT T) m) := by
  refine PE_imp (pe_callB call_isi hg hm boot_isinstance (pa_cons he (pa_cons (pe_bltn (v := .ty T) hgT hmT hvT rfl hn hd) pa_nil hs2) hs) (by decide) (by decide) hs hpl) fun σ H Q ⟨st, c, Hs, sl, sm, cu, p⟩ => ⟨st, c, Hs, sl, sm, cu, (Post.bind p).mono fun x c1 Hs1 H1 _ F1 q v1 r1 => ?_⟩
  rw [hK]
  have gen : ∀ (t : String), tyD x = some t → T ∈ bltT → Q (.bl (isB t T)) H1 → rIsi g.K [v1, .ty T] H1 Q := fun t e h q => by
    obtain ⟨t1, t2⟩ := tyX_of F1.sm r1 e
    exact ⟨v1, .ty T, .type t, .type T, _, rfl, .ty T, t1, kit_ty (isB_of T h t t2), q⟩
  show rIsi g.K [v1, .ty T] H1 Q
  cases x with
  | ins C ns ds =>
    unfold isT at q
    dsimp only at q
    split at q
    · rename_i h
      exact ⟨v1, .ty T, .ref (g.cm C), .type T, false, rfl, .ty T, tyX_ins ck F1.sm r1, ck.ty C (rl_ins.mp r1).1 T h, q Hs1 H1 (Fn.refl F1.sm F1.cu) _ (rl_bl.mpr rfl)⟩
    · exact q.elim
  | cup =>
    unfold isT tyD at q
    dsimp only at q
    split at q <;> exact q.elim
  | exc _ _ _ =>
    unfold isT tyD at q
    dsimp only at q
    split at q <;> exact q.elim
  | scr _ =>
    unfold isT tyD at q
    dsimp only at q
    split at q <;> exact q.elim
  | _ =>
    unfold isT tyD at q
    dsimp only at q
    split at q
    · rename_i h
      exact gen _ rfl h (q Hs1 H1 (Fn.refl F1.sm F1.cu) _ (rl_bl.mpr rfl))
    · exact q.elim
theorem d_isC {x : Str} {C : Str} (ck : CK g.K g.cm g.cs) (hg : Gl X "isinstance") (hm : X.mg "isinstance" = none) (he : DE X g E hid e m) (hgT : Gl X x) (hmT : X.mg x = some (.ref (g.cm C))) (hCs : C ∈ g.cs)
    (hK : X.K = g.K := by rfl) (hd : (x == ("__debug__" : Str)) = false := by decide)
    (hs : starEach [e, .Name x p1] X.env = (false, eval e X.env) :: starEach [.Name x p1] X.env := by rfl) (hs2 : starEach [.Name x p1] X.env = (false, eval (.Name x p1) X.env) :: starEach [] X.env := by rfl) (hpl : (backTo pos (starEach [.Name x p1] X.env)).any (·.1) = false := by rfl) :
    DE X g E hid (.Call (.Name "isinstance" p) [e, .Name x p1] [] pos) (unD (isC C) m) := by
  refine PE_imp (pe_callB call_isi hg hm boot_isinstance (pa_cons he (pa_cons (pe_glob (v := .ref (g.cm C)) hgT hmT rfl hd) pa_nil hs2) hs) (by decide) (by decide) hs hpl) fun σ H Q ⟨st, c, Hs, sl, sm, cu, p⟩ => ⟨st, c, Hs, sl, sm, cu, (Post.bind p).mono fun x c1 Hs1 H1 _ F1 q v1 r1 => ?_⟩
  rw [hK]
  have gen : ∀ (t : String), tyD x = some t → Q (.bl false) H1 → rIsi g.K [v1, .ref (g.cm C)] H1 Q := fun t e q => by
    obtain ⟨t1, t2⟩ := tyX_of F1.sm r1 e
    exact ⟨v1, .ref (g.cm C), .type t, .ref (g.cm C), false, rfl, .own _, t1, (ck.inc C hCs).no t t2, q⟩
  show rIsi g.K [v1, .ref (g.cm C)] H1 Q
  cases x with
  | ins C' ns ds =>
    have hC' := (rl_ins.mp r1).1
    refine ⟨v1, .ref (g.cm C), .ref (g.cm C'), .ref (g.cm C), (C' == C), rfl, .own _, tyX_ins ck F1.sm r1, ?_, q Hs1 H1 (Fn.refl F1.sm F1.cu) _ (rl_bl.mpr rfl)⟩
    by_cases z : C' = C
    · subst z
      simp [PySem.W.kitOne]
    · rw [ck.ot C' hC' C hCs z]
      simp [z]
  | exc _ _ _ => exact q.elim
  | cup => exact q.elim
  | scr _ => exact q.elim
  | _ => exact gen _ rfl (q Hs1 H1 (Fn.refl F1.sm F1.cu) _ (rl_bl.mpr rfl))
end
end L2.G
set_option Elab.async false
set_option linter.all false
set_option maxRecDepth 100000
set_option maxHeartbeats 2000000
namespace L2.G
open PySem PySem.Spec PyProof.Rows L2H
/-! targets -/
inductive Tg where
  | nm (i : Nat)
  | tp (ts : List Tg)
mutual
def asgT : Tg → D → PSt → Option PSt
  | .nm i, d, st => some (st.set i (some d))
  | .tp ts, .tup ds, st => asgTs ts ds st
  | .tp _, _, _ => none
def asgTs : List Tg → List D → PSt → Option PSt
  | [], [], st => some st
  | t :: ts, d :: ds, st => (asgT t d st).bind fun st' => asgTs ts ds st'
  | _, _, _ => none
end
mutual
def gOf (K : PySem.W.Frag) : Tg → TG
  | .nm i => gName i
  | .tp ts => gTup K ts.length (gsOf K ts)
def gsOf (K : PySem.W.Frag) : List Tg → TGs
  | [] => gNil
  | t :: ts => gCons (gOf K t) (gsOf K ts)
end
mutual
def tgS : Tg → List Nat
  | .nm i => [i]
  | .tp ts => tgSs ts
def tgSs : List Tg → List Nat
  | [] => []
  | t :: ts => tgS t ++ tgSs ts
end
structure Asg (g : Ga) (Hs : Hp) (sl : List Nat) (st : PSt) (σ : St) (st' : PSt) (σ' : St) : Prop where
  len : σ'.length = st'.length
  out : ∀ i, i ∉ sl → σ'[i]? = σ[i]? ∧ st'[i]? = st[i]?
  inn : ∀ i ∈ sl, ∀ d, st'[i]? = some (some d) → ∃ v, σ'[i]? = some (some v) ∧ Rl g Hs d v
  ln : σ'.length = σ.length
theorem asg_nm {g : Ga} {Hs : Hp} {d : D} {v : V} {st : PSt} {σ : St} {i : Nat} (hl : σ.length = st.length) (r : Rl g Hs d v) : Asg g Hs [i] st σ (st.set i (some d)) (σ.set i (some v)) := by
  refine ⟨by rw [List.length_set, List.length_set]; exact hl, fun j hj => ?_, fun j hj d' e => ?_, by rw [List.length_set]⟩
  · have : i ≠ j := fun z => hj (by simp [z])
    rw [List.getElem?_set_ne this, List.getElem?_set_ne this]
    exact ⟨rfl, rfl⟩
  · have : j = i := by simpa using hj
    subst this
    have hj2 : j < st.length := by
      have := (List.getElem?_eq_some_iff.mp e).1
      rwa [List.length_set] at this
    rw [List.getElem?_set_self hj2] at e
    cases e
    exact ⟨v, by rw [List.getElem?_set_self (by omega)], r⟩
theorem Asg.trans {g : Ga} {Hs : Hp} {s1 s2 : List Nat} {st st1 st2 : PSt} {σ σ1 σ2 : St} (a : Asg g Hs s1 st σ st1 σ1) (b : Asg g Hs s2 st1 σ1 st2 σ2) : Asg g Hs (s1 ++ s2) st σ st2 σ2 := by
  refine ⟨b.len, fun i hi => ?_, fun i hi d e => ?_, b.ln.trans a.ln⟩
  · rw [List.mem_append, not_or] at hi
    rw [(b.out i hi.2).1, (b.out i hi.2).2, (a.out i hi.1).1, (a.out i hi.1).2]
    exact ⟨rfl, rfl⟩
  · by_cases h2 : i ∈ s2
    · exact b.inn i h2 d e
    · rw [(b.out i h2).2] at e
      rw [(b.out i h2).1]
      exact a.inn i ((List.mem_append.mp hi).resolve_right h2) d e
mutual
theorem asg_of {g : Ga} {Hs H : Hp} (sm : Same Hs H) : ∀ (t : Tg) (d : D) (v : V) (st st' : PSt) (σ : St) (Q : St → Hp → Prop), σ.length = st.length → Rl g Hs d v → asgT t d st = some st' → (∀ σ', Asg g Hs (tgS t) st σ st' σ' → Q σ' H) → gOf g.K t v σ H Q
  | .nm i, d, v, st, st', σ, Q, hl, r, e, q => by
    unfold asgT at e
    cases e
    unfold gOf
    refine q _ ?_
    unfold tgS
    exact asg_nm hl r
  | .tp ts, d, v, st, st', σ, Q, hl, r, e, q => by
    cases d with
    | tup ds =>
      unfold asgT at e
      obtain ⟨a, vs, rfl, hs, _, hr⟩ := rl_tup.mp r
      unfold gOf
      refine ⟨a, vs, rfl, seqT_mono sm hs, ?_, ?_⟩
      · rw [hr.length]
        exact asgTs_len ts ds st st' e
      · refine asgs_of sm ts ds vs st st' σ Q hl hr e fun σ' h => q σ' ?_
        unfold tgS
        exact h
    | _ => unfold asgT at e; cases e
theorem asgs_of {g : Ga} {Hs H : Hp} (sm : Same Hs H) : ∀ (ts : List Tg) (ds : List D) (vs : List V) (st st' : PSt) (σ : St) (Q : St → Hp → Prop), σ.length = st.length → RlL g Hs ds vs → asgTs ts ds st = some st' → (∀ σ', Asg g Hs (tgSs ts) st σ st' σ' → Q σ' H) → gsOf g.K ts vs σ H Q
  | [], [], vs, st, st', σ, Q, hl, r, e, q => by
    unfold asgTs at e
    cases e
    unfold gsOf
    refine ⟨rll_nil.mp r, q σ ?_⟩
    unfold tgSs
    exact ⟨hl, fun _ _ => ⟨rfl, rfl⟩, fun i hi => absurd hi (by simp), rfl⟩
  | [], d :: ds, vs, st, st', σ, Q, hl, r, e, q => by unfold asgTs at e; cases e
  | t :: ts, [], vs, st, st', σ, Q, hl, r, e, q => by unfold asgTs at e; cases e
  | t :: ts, d :: ds, vs, st, st', σ, Q, hl, r, e, q => by
    unfold asgTs at e
    obtain ⟨st1, e1, e2⟩ := Option.bind_eq_some_iff.mp e
    obtain ⟨v, vr, rfl, h1, h2⟩ := rll_cons.mp r
    unfold gsOf
    refine ⟨v, vr, rfl, asg_of sm t d v st st1 σ _ hl h1 e1 fun σ1 a1 => asgs_of sm ts ds vr st1 st' σ1 Q a1.len h2 e2 fun σ2 a2 => q σ2 ?_⟩
    unfold tgSs
    exact a1.trans a2
theorem asgTs_len : ∀ (ts : List Tg) (ds : List D) (st st' : PSt), asgTs ts ds st = some st' → ds.length = ts.length
  | [], [], st, st', e => rfl
  | [], d :: ds, st, st', e => by unfold asgTs at e; cases e
  | t :: ts, [], st, st', e => by unfold asgTs at e; cases e
  | t :: ts, d :: ds, st, st', e => by
    unfold asgTs at e
    obtain ⟨st1, e1, e2⟩ := Option.bind_eq_some_iff.mp e
    simp [asgTs_len ts ds st1 st' e2]
end
/-! what is walked -/
def YD (g : Ga) (Hs : Hp) (items : List D) : Nat → Hp → V → Hp → Prop := fun i H x H' => ∃ d, items[i]? = some d ∧
  ((H' = H ∧ Rl g Hs d x) ∨ ∃ T vs ds, d = .tup ds ∧ x = .ref T ∧ H T = none ∧ H' = upd H T (.tup vs) ∧ ds.length ≤ sizeLine ∧ RlL g Hs ds vs)
abbrev WalkD (g : Ga) (Hs : Hp) (J : It) (items : List D) : Prop := Walk J items.length (fun H => Same Hs H) (YD g Hs items)
theorem YD.step {g : Ga} {Hs Hs2 H H' : Hp} {items : List D} {i : Nat} {x : V} {c : Cu} (y : YD g Hs items i H x H') (e : Same Hs Hs2) (sm : Same Hs2 H) (cu : CupAt g.pc Hs2 H c) : ∃ d Hs3, items[i]? = some d ∧ Fn g.pc Hs2 H Hs3 H' c ∧ Rl g Hs3 d x := by
  obtain ⟨d, hd, y⟩ := y
  rcases y with ⟨rfl, r⟩ | ⟨T, vs, ds, rfl, rfl, hT, rfl, hl, r⟩
  · exact ⟨d, Hs2, hd, Fn.refl sm cu, Rl.mono e d x r⟩
  · exact ⟨_, upd Hs2 T (.tup vs), hd, Fn.new sm cu hT, rl_tup.mpr ⟨T, vs, rfl, .inl (.inl upd_same), hl, RlL.mono (e.trans (same_new (sm.free hT))) ds vs r⟩⟩
def tI (g : Ga) (E : XK) (hid : List Nat) (m : PM (List D)) : TI := fun σ H R => ∃ st c Hs, Sl g hid Hs st σ ∧ Same Hs H ∧ CupAt g.pc Hs H c ∧ Post g E Hs H (m st c) fun items _ Hs' H' => items.length ≤ sizeLine → ∀ J, WalkD g Hs' J items → R J H'
abbrev DI (X : Cx) (g : Ga) (E : XK) (hid : List Nat) (tg iter : Expr) (m : PM (List D)) : Prop := PI X tg iter (tI g E hid m)
theorem PI_imp {X : Cx} {tg iter : Expr} {t t' : TI} (h : PI X tg iter t) (m : ∀ σ H R, t' σ H R → t σ H R) : PI X tg iter t' := ⟨fun pins s σ H Q I q => h.run pins s σ H Q I (m σ H Q q)⟩
def itL (m : PM D) : PM (List D) := fun st c => (m st c).bind fun x c => match x with
  | .lst ds => .ok ds c
  | _ => .no
def itT (m : PM D) : PM (List D) := fun st c => (m st c).bind fun x c => match x with
  | .tup ds => .ok ds c
  | _ => .no
def itS (m : PM D) : PM (List D) := fun st c => (m st c).bind fun x c => match x with
  | .str z => .ok (z.cps.toList.map chS) c
  | _ => .no
def rgD (lo : Int) (n : Nat) : List D := (List.range n).map fun (i : Nat) => .int (lo + i)
def itR1 (m : PM D) : PM (List D) := fun st c => (m st c).bind fun x c => match x with
  | .int j => if j ≤ 1000000 ∧ -1000000 ≤ j then .ok (rgD 0 j.toNat) c else .no
  | _ => .no
def itR2 (m m' : PM D) : PM (List D) := fun st c => (m st c).bind fun x c => (m' st c).bind fun y c => match x, y with
  | .int i, .int j => if j ≤ 1000000 ∧ -1000000 ≤ j ∧ i ≤ 1000000 ∧ -1000000 ≤ i then .ok (rgD i (j - i).toNat) c else .no
  | _, _ => .no
def enD (i : Nat) : List D → List D
  | [] => []
  | d :: ds => .tup [.int (i : Nat), d] :: enD (i + 1) ds
def zpD : List D → List D → List D
  | d :: ds, e :: es => .tup [d, e] :: zpD ds es
  | _, _ => []
theorem enD_len : ∀ (ds : List D) (i : Nat), (enD i ds).length = ds.length
  | [], _ => rfl
  | d :: ds, i => by simp [enD, enD_len ds]
theorem enD_get : ∀ (ds : List D) (i j : Nat) (d : D), ds[j]? = some d → (enD i ds)[j]? = some (.tup [.int ((i + j : Nat) : Int), d])
  | [], _, _, _, e => by simp at e
  | x :: ds, i, 0, d, e => by simp at e; subst e; simp [enD]
  | x :: ds, i, j + 1, d, e => by
    have := enD_get ds (i + 1) j d (by simpa using e)
    simp only [enD, List.getElem?_cons_succ]
    rw [this]
    congr 5
    omega
theorem zpD_len : ∀ (ds es : List D), (zpD ds es).length = min ds.length es.length
  | [], es => by simp [zpD]
  | d :: ds, [] => by simp [zpD]
  | d :: ds, e :: es => by simp only [zpD, List.length_cons, zpD_len ds es]; omega
theorem zpD_get : ∀ (ds es : List D) (j : Nat) (d e : D), ds[j]? = some d → es[j]? = some e → (zpD ds es)[j]? = some (.tup [d, e])
  | [], _, _, _, _, h, _ => by simp at h
  | d :: ds, [], _, _, _, _, h => by simp at h
  | x :: ds, y :: es, 0, d, e, h, h' => by simp at h h'; subst h; subst h'; simp [zpD]
  | x :: ds, y :: es, j + 1, d, e, h, h' => by
    simp only [zpD, List.getElem?_cons_succ]
    exact zpD_get ds es j d e (by simpa using h) (by simpa using h')
def itE (m : PM (List D)) : PM (List D) := fun st c => (m st c).bind fun ds c => .ok (enD 0 ds) c
def itZ (m m' : PM (List D)) : PM (List D) := fun st c => (m st c).bind fun ds c => (m' st c).bind fun es c => .ok (zpD ds es) c
section
variable {X : Cx} {g : Ga} {E : XK} {hid : List Nat} {m m' : PM D} {tg e e2 : Expr} {p pos tpos : Pos} {elts : List Expr} {kk : Nat}
theorem di_list (he : DE X g E hid e m) (hK : X.K = g.K := by rfl) : DI X g E hid tg e (itL m) := by
  refine PI_imp (pi_list he) fun σ H R ⟨st, c, Hs, sl, sm, cu, p⟩ => ⟨st, c, Hs, sl, sm, cu, (Post.bind p).mono fun x c1 Hs1 H1 _ F1 q v1 r1 => ?_⟩
  cases x with
  | lst ds =>
    obtain ⟨a, vs, rfl, hs, hl, hr⟩ := rl_lst.mp r1
    rw [hK]
    refine ⟨a, rfl, ⟨vs, .inl (.inl (F1.sm _ _ hs))⟩, q Hs1 H1 (Fn.refl F1.sm F1.cu) hl _ ?_⟩
    have w := walk_list (K := g.K) (a := a) (xs := vs)
    rw [hr.length] at w
    refine w.mono (fun H h => .inl (.inl (h _ _ hs))) fun i H x H' hi _ y => ?_
    obtain ⟨d, e1, e2⟩ := hr.getV y.2
    exact ⟨d, e1, .inl ⟨y.1, e2⟩⟩
  | _ => exact q.elim
theorem di_tup (he : DE X g E hid e m) (hK : X.K = g.K := by rfl) : DI X g E hid tg e (itT m) := by
  refine PI_imp (pi_tup he) fun σ H R ⟨st, c, Hs, sl, sm, cu, p⟩ => ⟨st, c, Hs, sl, sm, cu, (Post.bind p).mono fun x c1 Hs1 H1 _ F1 q v1 r1 => ?_⟩
  cases x with
  | tup ds =>
    obtain ⟨a, vs, rfl, hs, hl, hr⟩ := rl_tup.mp r1
    rw [hK]
    refine ⟨a, rfl, ⟨vs, seqT_mono F1.sm hs⟩, q Hs1 H1 (Fn.refl F1.sm F1.cu) hl _ ?_⟩
    have w := walk_tup (K := g.K) (a := a) (xs := vs)
    rw [hr.length] at w
    refine w.mono (fun H h => seqT_mono h hs) fun i H x H' hi _ y => ?_
    obtain ⟨d, e1, e2⟩ := hr.getV y.2
    exact ⟨d, e1, .inl ⟨y.1, e2⟩⟩
  | _ => exact q.elim
theorem di_str (he : DE X g E hid e m) : DI X g E hid tg e (itS m) := by
  refine PI_imp (pi_str he) fun σ H R ⟨st, c, Hs, sl, sm, cu, p⟩ => ⟨st, c, Hs, sl, sm, cu, (Post.bind p).mono fun x c1 Hs1 H1 _ F1 q v1 r1 => ?_⟩
  cases x with
  | str z =>
    obtain ⟨rfl, hz⟩ := rl_str.mp r1
    refine ⟨z, rfl, q Hs1 H1 (Fn.refl F1.sm F1.cu) (by rw [List.length_map, Array.length_toList]; exact txtOk_len hz) _ ?_⟩
    have w := walk_str (z := z)
    have e0 : (z.cps.toList.map chS).length = z.cps.size := by rw [List.length_map, Array.length_toList]
    rw [← e0] at w
    refine w.mono (fun H h => trivial) fun i H x H' hi _ y => ?_
    obtain ⟨rfl, k, hk, rfl⟩ := y
    have hk' : z.cps.toList[i]? = some k := by rw [Array.getElem?_toList]; exact hk
    exact ⟨chS k, by rw [List.getElem?_map, hk']; rfl, .inl ⟨rfl, rl_str.mpr ⟨rfl, txtOk_ch hz (List.mem_of_getElem? hk')⟩⟩⟩
  | _ => exact q.elim
theorem walk_rg {lo : Int} {n : Nat} {Hs : Hp} : WalkD g Hs (Itr lo n) (rgD lo n) := by
  have w := walk_range (lo := lo) (n := n)
  have e0 : (rgD lo n).length = n := by simp [rgD]
  unfold WalkD
  rw [e0]
  refine w.mono (fun H h => trivial) fun i H x H' hi _ y => ?_
  obtain ⟨rfl, rfl⟩ := y
  exact ⟨.int (lo + i), by simp [rgD, hi], .inl ⟨rfl, rl_int.mpr rfl⟩⟩
theorem di_r1 (he : DE X g E hid e m) (hm : X.mg "range" = none) (hg : Gl X "range" := by rfl) (hs : starEach [e] X.env = [(false, eval e X.env)] := by rfl) : DI X g E hid tg (.Call (.Name "range" p) [e] [] pos) (itR1 m) := by
  refine PI_imp (pi_range1 hg hm (pa_cons he pa_nil hs) hs) fun σ H R ⟨st, c, Hs, sl, sm, cu, p⟩ => ⟨st, c, Hs, sl, sm, cu, (Post.bind p).mono fun x c1 Hs1 H1 _ F1 q v1 r1 => ?_⟩
  cases x with
  | int j =>
    dsimp only at q
    split at q
    · rename_i h
      refine ⟨j, by rw [rl_int.mp r1], by omega, by omega, q Hs1 H1 (Fn.refl F1.sm F1.cu) ?_ _ walk_rg⟩
      simp [rgD, sizeLine_eq]
      omega
    · exact q.elim
  | _ => exact q.elim
theorem di_r2 (he : DE X g E hid e m) (he2 : DE X g E hid e2 m') (hm : X.mg "range" = none) (hg : Gl X "range" := by rfl) (hs : starEach [e, e2] X.env = [(false, eval e X.env), (false, eval e2 X.env)] := by rfl) (hs2 : starEach [e2] X.env = [(false, eval e2 X.env)] := by rfl) : DI X g E hid tg (.Call (.Name "range" p) [e, e2] [] pos) (itR2 m m') := by
  refine PI_imp (pi_range2 hg hm (pa_cons he (pa_cons he2 pa_nil hs2) (by rw [hs, hs2])) hs hs2) fun σ H R ⟨st, c, Hs, sl, sm, cu, p⟩ => ⟨st, c, Hs, sl, sm, cu, (Post.bind p).mono fun x c1 Hs1 H1 _ F1 q v1 r1 => ?_⟩
  refine ⟨st, c1, Hs1, sl.mono F1.ss, F1.sm, F1.cu, (Post.bind q).mono fun y c2 Hs2 H2 _ F2 q2 v2 r2 => ?_⟩
  cases x with
  | int i =>
    cases y with
    | int j =>
      dsimp only at q2
      split at q2
      · rename_i h
        refine ⟨i, j, by rw [rl_int.mp r1, rl_int.mp r2], by omega, q2 Hs2 H2 (Fn.refl F2.sm F2.cu) ?_ _ walk_rg⟩
        simp [rgD, sizeLine_eq]
        omega
      · exact q2.elim
    | _ => exact q2.elim
  | _ => cases y <;> exact q2.elim
theorem di_enL (he : DE X g E hid e m) (hm : X.mg "enumerate" = none) (hK : X.K = g.K := by rfl) (hg : Gl X "enumerate" := by rfl) (hs : starEach [e] X.env = [(false, eval e X.env)] := by rfl) :
    DI X g E hid (.Tuple elts kk tpos) (.Call (.Name "enumerate" p) [e] [] pos) (itE (itL m)) := by
  refine PI_imp (pi_enum hg hm (pa_cons he pa_nil hs) hs) fun σ H R ⟨st, c, Hs, sl, sm, cu, p⟩ => ⟨st, c, Hs, sl, sm, cu, (Post.bind (Post.bind p)).mono fun x c1 Hs1 H1 _ F1 q v1 r1 => ?_⟩
  cases x with
  | lst ds =>
    obtain ⟨a, vs, rfl, hs, hl, hr⟩ := rl_lst.mp r1
    rw [hK]
    have q' := q Hs1 H1 (Fn.refl F1.sm F1.cu)
    refine ⟨a, vs, rfl, .inl (.inl (F1.sm _ _ hs)), q' Hs1 H1 (Fn.refl F1.sm F1.cu) (by rw [enD_len]; exact hl) _ ?_⟩
    have w := walk_enum (K := g.K) (a := a) (xs := vs)
    rw [hr.length, ← enD_len ds 0] at w
    refine w.mono (fun H h => .inl (.inl (h _ _ hs))) fun i H x H' hi _ y => ?_
    obtain ⟨T, x1, y1, rfl, hT, rfl, e1, e2⟩ := y
    cases e1
    obtain ⟨d, e3, e4⟩ := hr.getV e2
    refine ⟨_, enD_get ds 0 i d e3, .inr ⟨T, _, _, rfl, rfl, hT, rfl, by rw [sizeLine_eq]; simp, ?_⟩⟩
    exact rll_cons.mpr ⟨_, _, rfl, rl_int.mpr (by simp), rll_cons.mpr ⟨_, _, rfl, e4, rll_nil.mpr rfl⟩⟩
  | _ => exact q.elim
theorem di_zpL (he : DE X g E hid e m) (he2 : DE X g E hid e2 m') (hm : X.mg "zip" = none) (hK : X.K = g.K := by rfl) (hg : Gl X "zip" := by rfl)
    (hs : starEach [e, e2] X.env = (false, eval e X.env) :: starEach [e2] X.env := by rfl) (hpl : (backTo pos (starEach [e2] X.env)).any (·.1) = false := by rfl) (hs2 : starEach [e2] X.env = (false, eval e2 X.env) :: starEach [] X.env := by rfl) :
    DI X g E hid (.Tuple elts kk tpos) (.Call (.Name "zip" p) [e, e2] [] pos) (itZ (itL m) (itL m')) := by
  refine PI_imp (pi_zip hg hm (pa_cons he (pa_cons he2 pa_nil hs2) hs) hs hpl) fun σ H R ⟨st, c, Hs, sl, sm, cu, p⟩ => ⟨st, c, Hs, sl, sm, cu, (Post.bind (Post.bind p)).mono fun x c1 Hs1 H1 _ F1 q v1 r1 => ?_⟩
  cases x with
  | lst ds =>
    have q' := q Hs1 H1 (Fn.refl F1.sm F1.cu)
    refine ⟨st, c1, Hs1, sl.mono F1.ss, F1.sm, F1.cu, (Post.bind (Post.bind q')).mono fun y c2 Hs2 H2 _ F2 q2 v2 r2 => ?_⟩
    cases y with
    | lst es =>
      obtain ⟨a, vs, rfl, hs, hl, hr⟩ := rl_lst.mp (Rl.mono F2.ss _ _ r1)
      obtain ⟨b, us, rfl, hs', hl', hr'⟩ := rl_lst.mp r2
      rw [hK]
      have q3 := q2 Hs2 H2 (Fn.refl F2.sm F2.cu)
      refine ⟨a, b, vs, us, rfl, .inl (.inl (F2.sm _ _ hs)), .inl (.inl (F2.sm _ _ hs')), q3 Hs2 H2 (Fn.refl F2.sm F2.cu) (by rw [zpD_len]; omega) _ ?_⟩
      have w := walk_zip (K := g.K) (a := a) (b := b) (xs := vs) (ys := us) (n := min ds.length es.length) (by rw [hr.length, hr'.length])
      rw [← zpD_len ds es] at w
      refine w.mono (fun H h => ⟨.inl (.inl (h _ _ hs)), .inl (.inl (h _ _ hs'))⟩) fun i H x H' hi _ y => ?_
      obtain ⟨T, x1, y1, rfl, hT, rfl, e1, e2⟩ := y
      obtain ⟨d, e3, e4⟩ := hr.getV e1
      obtain ⟨d', e5, e6⟩ := hr'.getV e2
      refine ⟨_, zpD_get ds es i d d' e3 e5, .inr ⟨T, _, _, rfl, rfl, hT, rfl, by rw [sizeLine_eq]; simp, ?_⟩⟩
      exact rll_cons.mpr ⟨_, _, rfl, e4, rll_cons.mpr ⟨_, _, rfl, e6, rll_nil.mpr rfl⟩⟩
    | _ => exact q2.elim
  | _ => exact q.elim
end
end L2.G
set_option Elab.async false
set_option linter.all false
set_option maxRecDepth 100000
set_option maxHeartbeats 2000000
namespace L2.G
open PySem PySem.Spec PyProof.Rows L2H
/-! a thing of one's own: a list, an instance -/
def Own1 (g : Ga) (Hs H : Hp) (a : Addr) (d : D) : Prop := (∃ ds vs, d = .lst ds ∧ H a = some (.lst vs) ∧ ds.length ≤ sizeLine ∧ RlL g Hs ds vs) ∨
  ∃ C ns ds dx gs, d = .ins C ns ds ∧ C ∈ g.cs ∧ H a = some (.ins (g.cm C) dx gs) ∧ gs.map (·.1) = ns ∧ RlL g Hs ds (gs.map (·.2))
theorem Own1.at_ {g : Ga} {Hs H : Hp} {a : Addr} {d : D} (o : Own1 g Hs H a d) : ∃ u, H a = some u ∧ Plain u := by
  rcases o with ⟨_, _, _, h, _⟩ | ⟨_, _, _, _, _, _, _, h, _⟩
  · exact ⟨_, h, plain_lst _⟩
  · exact ⟨_, h, plain_ins _ _ _⟩
theorem Own1.mono {g : Ga} {Hs H Hs' H' : Hp} {a : Addr} {d : D} (o : Own1 g Hs H a d) (e : Same Hs Hs') (h : ∀ u, Plain u → H a = some u → H' a = some u) : Own1 g Hs' H' a d := by
  rcases o with ⟨ds, vs, h1, h2, h3, h4⟩ | ⟨C, ns, ds, dx, gs, h1, h2, h3, h4, h5⟩
  · exact .inl ⟨ds, vs, h1, h _ (plain_lst _) h2, h3, RlL.mono e ds vs h4⟩
  · exact .inr ⟨C, ns, ds, dx, gs, h1, h2, h _ (plain_ins _ _ _) h3, h4, RlL.mono e ds _ h5⟩
/-- known from now on -/
theorem Own1.rl {g : Ga} {Hs H : Hp} {a : Addr} {d : D} {u : HO} (o : Own1 g Hs H a d) (hu : H a = some u) (hn : Hs a = none) : Rl g (upd Hs a u) d (.ref a) := by
  rcases o with ⟨ds, vs, rfl, h2, h3, h4⟩ | ⟨C, ns, ds, dx, gs, rfl, h2, h3, h4, h5⟩
  · rw [h2] at hu
    cases hu
    exact rl_lst.mpr ⟨a, vs, rfl, upd_same, h3, RlL.mono (same_new hn) ds vs h4⟩
  · rw [h3] at hu
    cases hu
    exact rl_ins.mpr ⟨h2, a, dx, gs, rfl, upd_same, h4, RlL.mono (same_new hn) ds _ h5⟩
/-! a new thing, not yet known to anyone -/
def tEo (g : Ga) (E : XK) (hid : List Nat) (m : PM D) : TE := fun σ H Q => ∃ st c Hs, Sl g hid Hs st σ ∧ Same Hs H ∧ CupAt g.pc Hs H c ∧ Post g E Hs H (m st c) fun d _ Hs' H' =>
  ∀ p, Fr H p → Hs' p = none → Off g.pc p → Own1 g Hs' H' p d → Q (.ref p) H'
abbrev DEo (X : Cx) (g : Ga) (E : XK) (hid : List Nat) (e : Expr) (m : PM D) : Prop := PE X e (tEo g E hid m)
section
variable {X : Cx} {g : Ga} {E : XK} {hid : List Nat} {σ : St} {H : Hp} {Q : VK} {ma mb m : PM D} {a b e : Expr} {es : List Expr} {ms : List (PM D)} {pos : Pos}
theorem own_of : tE g E hid m σ H Q → tEo g E hid m σ H Q := by
  rintro ⟨st, c, Hs, sl, sm, cu, p⟩
  refine ⟨st, c, Hs, sl, sm, cu, ?_⟩
  cases e : m st c with
  | no => rw [e] at p; exact p
  | er x c' => rw [e] at p; exact p
  | ok d c' =>
    rw [e] at p
    rintro Hs' H' F q h1 h2 h3 h4
    obtain ⟨u, hu, hpl⟩ := h4.at_
    exact p (upd Hs' q u) H' (F.show_ h1 hu h2 h3 hpl.1) _ (h4.rl hu h2)
theorem d_own (h : DEo X g E hid e m) : DE X g E hid e m := PE_imp h fun σ H Q q => own_of q
theorem fresh_of {pc : Pc} {Hs H Hs1 H1 : Hp} {c1 : Cu} (F : Fn pc Hs H Hs1 H1 c1) {p : Addr} (np : H1 p = none) : Fr H p ∧ Off pc p := by
  have n := F.cu.ne np
  exact ⟨fun o t z => (by rw [F.bt p o n t z] at np; cases np), n⟩
theorem do_lst (h : DA X g E hid es (aD ms)) (hl : ms.length ≤ 1000 := by decide) : DEo X g E hid (.List es pos) (lstD ms) := by
  refine PE_imp (pe_lst h) fun σ H Q ⟨st, c, Hs, sl, sm, cu, p⟩ => ⟨st, c, Hs, sl, sm, cu, (Post.bind p).mono fun ds c1 Hs1 H1 e F1 q vs rs => ?_⟩
  have l1 := aD_len e
  have l2 := rs.length
  have l3 : ds.length ≤ sizeLine := by rw [sizeLine_eq]; omega
  exact ⟨by omega, fun p np => q Hs1 _ (Fn.hid F1.sm F1.cu np) p (fresh_of F1 np).1 (F1.sm.free np) (fresh_of F1 np).2 (.inl ⟨ds, vs, rfl, upd_same, l3, rs⟩)⟩
/-- xs * n, a new list -/
def repF : D → D → Option D
  | .lst a, .int k => if -(2 ^ 31) < k ∧ k < 2 ^ 31 ∧ a.length * k.toNat ≤ sizeLine then some (.lst (List.replicate k.toNat a).flatten) else none
  | _, _ => none
theorem do_rep (ha : DE X g E hid a ma) (hb : DE X g E hid b mb) : DEo X g E hid (.BinOp a .Mult b pos) (opD repF ma mb) := by
  refine PE_imp (pe_op op_rep ha hb) fun σ H Q ⟨st, c, Hs, sl, sm, cu, p⟩ => ⟨st, c, Hs, sl, sm, cu, (Post.bind p).mono fun x c1 Hs1 H1 _ F1 q v1 r1 => ?_⟩
  refine ⟨st, c1, Hs1, sl.mono F1.ss, F1.sm, F1.cu, (Post.bind q).mono fun y c2 Hs2 H2 _ F2 q2 v2 r2 => ?_⟩
  have F3 := F1.trans F2
  cases x with
  | lst ds =>
    cases y with
    | int k =>
      unfold repF at q2
      dsimp only at q2
      split at q2
      · rename_i h
        obtain ⟨p, vs, rfl, hp, h0, r⟩ := rl_lst.mp (Rl.mono F2.ss _ _ r1)
        have l1 := r.length
        refine ⟨p, k, vs, rfl, rl_int.mp r2, F2.sm _ _ hp, by omega, by omega, by rw [l1]; exact h.2.2, fun n hn => ?_⟩
        exact q2 Hs2 _ (Fn.hid F2.sm F2.cu hn) n (fresh_of F3 hn).1 (F2.sm.free hn) (fresh_of F3 hn).2 (.inl ⟨_, _, rfl, upd_same, by rw [len_rep]; exact h.2.2, flat_rep r _⟩)
      · exact q2.elim
    | _ => exact q2.elim
  | _ => cases y <;> exact q2.elim
/-- list(xs), a new list -/
theorem do_list {e : Expr} {x : Str} {p : Pos} (he : DE X g E hid e m) (hm : X.mg x = none) (hv : bootBuiltins x = some (.type "list")) (hK : X.K = g.K := by rfl) (hg : Gl X x := by rfl) (hn : x ≠ "__name__" := by decide) (hdb : (x == ("__debug__" : Str)) = false := by decide)
    (hs : starEach [e] X.env = (false, eval e X.env) :: starEach [] X.env := by rfl) (hpl : (backTo pos (starEach [] X.env)).any (·.1) = false := by rfl) : DEo X g E hid (.Call (.Name x p) [e] [] pos) (biD listF [m]) := by
  refine PE_imp (pe_callTy call_list_of hg hm hv (da_cons he da_nil hs) hn hdb hs hpl) fun σ H Q ⟨st, c, Hs, sl, sm, cu, p⟩ => ⟨st, c, Hs, sl, sm, cu, (Post.bind p).mono fun xs c1 Hs1 H1 _ F1 q vs rs => ?_⟩
  rw [hK]
  cases e1 : listF xs with
  | none => rw [e1] at q; exact q.elim
  | some d =>
    rw [e1] at q
    unfold listF at e1
    split at e1
    · cases e1
      obtain ⟨v, rfl, r⟩ := one_of rs
      obtain ⟨p, ws, rfl, hp, hl, rr⟩ := rl_lst.mp r
      exact ⟨p, ws, rfl, .inl (.inl (.inl (F1.sm _ _ hp))), fun n hn => q Hs1 _ (Fn.hid F1.sm F1.cu hn) n (fresh_of F1 hn).1 (F1.sm.free hn) (fresh_of F1 hn).2 (.inl ⟨_, _, rfl, upd_same, hl, rr⟩)⟩
    · cases e1
      obtain ⟨v, rfl, r⟩ := one_of rs
      obtain ⟨p, ws, rfl, hp, hl, rr⟩ := rl_tup.mp r
      exact ⟨p, ws, rfl, .inr (seqT_mono F1.sm hp), fun n hn => q Hs1 _ (Fn.hid F1.sm F1.cu hn) n (fresh_of F1 hn).1 (F1.sm.free hn) (fresh_of F1 hn).2 (.inl ⟨_, _, rfl, upd_same, hl, rr⟩)⟩
    · cases e1
end
/-! list comprehensions -/
def wipeD (st : PSt) : List Nat → PSt
  | [] => st
  | v :: vs => (wipeD st vs).set v none
abbrev EF : XK := E0
def nE {α : Type} (m : PM α) : PM α := fun st c => match m st c with
  | .er _ _ => .no
  | r => r
def yesT : PM Bool := fun _ c => .ok true c
def lcG (t : Tg) (ws : List Nat) (test : PM Bool) (elt : PM D) (st : PSt) : List D → Cu → R (List D)
  | [], c => .ok [] c
  | d :: items, c => match asgT t d (wipeD st ws) with
    | none => .no
    | some st2 => (nE test st2 c).bind fun b c => if b = true then (nE elt st2 c).bind fun y c => (lcG t ws test elt st items c).bind fun ys c => .ok (y :: ys) c else lcG t ws test elt st items c
def lcD (t : Tg) (ws : List Nat) (it : PM (List D)) (test : PM Bool) (elt : PM D) : PM D := fun st c => (it st c).bind fun items c => (lcG t ws test elt st items c).bind fun ds c => .ok (.lst ds) c
theorem wipe_get (σ : St) (i : Nat) : ∀ ws : List Nat, (wipe σ ws)[i]? = if i ∈ ws then (σ[i]?).map fun _ => none else σ[i]?
  | [] => by simp [wipe]
  | v :: vs => by
    unfold wipe
    by_cases h : v = i
    · subst h
      rw [if_pos (by simp)]
      by_cases hl : v < σ.length
      · rw [List.getElem?_set_self (by rw [wipe_length]; exact hl), List.getElem?_eq_getElem hl]
        rfl
      · rw [List.getElem?_eq_none (by rw [List.length_set, wipe_length]; omega), List.getElem?_eq_none (by omega)]
        rfl
    · rw [List.getElem?_set_ne h, wipe_get σ i vs]
      have : (i ∈ v :: vs) ↔ i ∈ vs := by simp [Ne.symm h]
      simp only [this]
theorem wipeD_length (st : PSt) : ∀ ws : List Nat, (wipeD st ws).length = st.length
  | [] => rfl
  | v :: vs => by unfold wipeD; rw [List.length_set, wipeD_length st vs]
theorem wipeD_get (σ : PSt) (i : Nat) : ∀ ws : List Nat, (wipeD σ ws)[i]? = if i ∈ ws then (σ[i]?).map fun _ => none else σ[i]?
  | [] => by simp [wipeD]
  | v :: vs => by
    unfold wipeD
    by_cases h : v = i
    · subst h
      rw [if_pos (by simp)]
      by_cases hl : v < σ.length
      · rw [List.getElem?_set_self (by rw [wipeD_length]; exact hl), List.getElem?_eq_getElem hl]
        rfl
      · rw [List.getElem?_eq_none (by rw [List.length_set, wipeD_length]; omega), List.getElem?_eq_none (by omega)]
        rfl
    · rw [List.getElem?_set_ne h, wipeD_get σ i vs]
      have : (i ∈ v :: vs) ↔ i ∈ vs := by simp [Ne.symm h]
      simp only [this]
theorem Sl.wipe {g : Ga} {hid : List Nat} {Hs : Hp} {st : PSt} {σ : St} (s : Sl g hid Hs st σ) (ws : List Nat) : Sl g hid Hs (wipeD st ws) (wipe σ ws) := by
  refine ⟨by rw [wipe_length, wipeD_length]; exact s.1, fun i d hi e => ?_⟩
  rw [wipeD_get] at e
  rw [wipe_get]
  by_cases h : i ∈ ws
  · rw [if_pos h] at e
    cases q : st[i]? with
    | none => rw [q] at e; cases e
    | some x => rw [q] at e; cases e
  · rw [if_neg h] at e ⊢
    exact s.2 i d hi e
theorem Sl.asg {g : Ga} {hid sl : List Nat} {Hs : Hp} {st st' : PSt} {σ σ' : St} (s : Sl g hid Hs st σ) (a : Asg g Hs sl st σ st' σ') : Sl g hid Hs st' σ' := by
  refine ⟨a.len, fun i d hi e => ?_⟩
  by_cases h : i ∈ sl
  · exact a.inn i h d e
  · rw [(a.out i h).2] at e
    rw [(a.out i h).1]
    exact s.2 i d hi e
theorem wipe_asg {g : Ga} {Hs : Hp} {ws sl : List Nat} {st st' : PSt} {σ σ' : St} (a : Asg g Hs sl st (wipe σ ws) st' σ') (hw : ∀ i ∈ sl, i ∈ ws) : wipe σ' ws = wipe σ ws := by
  apply List.ext_getElem?
  intro i
  rw [wipe_get, wipe_get]
  by_cases h : i ∈ ws
  · rw [if_pos h, if_pos h]
    have l := a.ln
    rw [wipe_length] at l
    by_cases hl : i < σ.length
    · rw [List.getElem?_eq_getElem hl, List.getElem?_eq_getElem (by omega)]
      rfl
    · rw [List.getElem?_eq_none (by omega), List.getElem?_eq_none (by omega)]
  · rw [if_neg h, if_neg h, (a.out i fun z => h (hw i z)).1, wipe_get, if_neg h]
theorem drop_cons {α : Type} {l : List α} {i : Nat} {d : α} (h : l[i]? = some d) : l.drop i = d :: l.drop (i + 1) := by
  obtain ⟨hi, e⟩ := List.getElem?_eq_some_iff.mp h
  rw [List.drop_eq_getElem_cons hi, e]
theorem post_nE {α : Type} {g : Ga} {Hs H : Hp} {m : PM α} {st : PSt} {c : Cu} {k : α → Cu → Hp → Hp → Prop} (h1 : nE m st c = .no → False) (h2 : ∀ x c', nE m st c = .er x c' → False)
    (h3 : ∀ a c', nE m st c = .ok a c' → ∀ Hs' H', Fn g.pc Hs H Hs' H' c' → k a c' Hs' H') : Post g EF Hs H (m st c) k := by
  unfold nE at h1 h3
  cases e : m st c with
  | no => rw [e] at h1; exact h1 rfl
  | er x c' => rw [e] at h1; exact (h1 rfl).elim
  | ok a c' => rw [e] at h3; exact h3 a c' rfl
theorem nE_er {α : Type} {m : PM α} {st : PSt} {c : Cu} {x : Xc} {c' : Cu} : nE m st c = .er x c' → False := by
  unfold nE
  split
  · intro h; cases h
  · rename_i r h
    intro z
    exact h x c' z
section
variable {X : Cx} {g : Ga} {E : XK} {hid ws : List Nat} {σ : St} {H : Hp} {Q : VK} {t : Tg} {it : PM (List D)} {test : PM Bool} {me : PM D}
theorem lc_of (hw : ∀ i ∈ tgS t, i ∈ ws) : tEo g E hid (lcD t ws it test me) σ H Q → tLc (tI g E hid it) (gOf g.K t) (tT g EF hid test) (tE g EF hid me) ws σ H Q := by
  rintro ⟨st, c, Hs, sl, sm, cu, p⟩
  refine ⟨st, c, Hs, sl, sm, cu, (Post.bind p).mono fun items c1 Hs1 H1 _ F1 q hlen J wJ L hL => ?_⟩
  have Lpc := F1.cu.ne hL
  have fr : Fr H L := fun o t z => by rw [F1.bt L o Lpc t z] at hL; cases hL
  refine lc_it wJ (fun i H' => ∃ (c' : Cu) (Hs' : Hp) (acc : List V) (ds : List D), Fn g.pc Hs1 H1 Hs' H' c' ∧ H' L = some (.lst acc) ∧ Hs' L = none ∧ RlL g Hs' ds acc ∧ ds.length ≤ i ∧
    Post g E Hs1 H1 ((lcG t ws test me st (items.drop i) c').bind fun ys c => .ok (.lst (ds ++ ys)) c) fun (d : D) _ (Hs' H' : Hp) => ∀ (p : Addr), Fr H p → Hs' p = none → Off g.pc p → Own1 g Hs' H' p d → Q (.ref p) H') ?_ ?_ ?_ ?_
  · exact ⟨c1, Hs1, [], [], Fn.hid F1.sm F1.cu hL, upd_same, F1.sm.free hL, rll_nil.mpr rfl, Nat.le_refl _, by rw [List.drop_zero]; exact q⟩
  · rintro i H' _ ⟨c', Hs', acc, ds, F, _⟩
    exact F.ss.trans F.sm
  · rintro i x H' H'' hi ⟨c', Hs', acc, ds, F, hLa, hLn, rl, hle, pp⟩ y
    obtain ⟨d, Hs3, hd, F3, rx⟩ := y.step F.ss F.sm F.cu
    rw [drop_cons hd] at pp
    unfold lcG at pp
    cases ea : asgT t d (wipeD st ws) with
    | none => rw [ea] at pp; exact pp.elim
    | some st2 =>
      rw [ea] at pp
      dsimp only at pp
      have sl3 : Sl g hid Hs3 (wipeD st ws) (wipe σ ws) := (((sl.mono F1.ss).mono F.ss).mono F3.ss).wipe ws
      refine asg_of F3.sm t d x _ st2 _ _ sl3.1 rx ea fun σ2 a => ⟨wipe_asg a hw, ?_⟩
      have sl4 := sl3.asg a
      refine ⟨st2, c', Hs3, sl4, F3.sm, F3.cu, post_nE (fun z => by rw [z] at pp; exact pp) (fun _ _ z => nE_er z) fun b c4 eb Hs4 H4 F4 => ?_⟩
      rw [eb, R.ok_bind] at pp
      have F34 := F3.trans F4
      have hL4 : H4 L = some (.lst acc) := F34.bt L _ Lpc (plain_lst _).1 hLa
      have hn4 : Hs4 L = none := F34.nw L _ (plain_lst _).1 hLa hLn
      cases b with
      | false =>
        rw [if_neg (by decide)] at pp ⊢
        exact ⟨c4, Hs4, acc, ds, F.trans F34, hL4, hn4, RlL.mono F34.ss _ _ rl, by omega, pp⟩
      | true =>
        rw [if_pos rfl] at pp ⊢
        refine ⟨st2, c4, Hs4, sl4.mono F4.ss, F4.sm, F4.cu, post_nE (fun z => by rw [z] at pp; exact pp) (fun _ _ z => nE_er z) fun y c5 ey Hs5 H5 F5 v rv => ?_⟩
        rw [ey, R.ok_bind] at pp
        have F35 := F34.trans F5
        have hL5 : H5 L = some (.lst acc) := F35.bt L _ Lpc (plain_lst _).1 hLa
        have hn5 : Hs5 L = none := F35.nw L _ (plain_lst _).1 hLa hLn
        have l1 := rl.length
        refine ⟨acc, hL5, by omega, c5, Hs5, acc ++ [v], ds ++ [y], (F.trans F35).mut (fr_none hL) hn5 Lpc hL5 (plain_lst _), upd_same, hn5, (RlL.mono F35.ss _ _ rl).append (rll_cons.mpr ⟨v, [], rfl, rv, rll_nil.mpr rfl⟩), by simp; omega, ?_⟩
        revert pp
        cases lcG t ws test me st (items.drop (i + 1)) c5 with
        | no => exact fun z => z
        | er x c => exact fun z => z
        | ok ys c =>
          intro pp
          simp only [R.ok_bind, List.append_assoc, List.cons_append, List.nil_append] at pp ⊢
          exact pp
  · rintro H' ⟨c', Hs', acc, ds, F, hLa, hLn, rl, hle, pp⟩
    rw [List.drop_length] at pp
    unfold lcG at pp
    rw [R.ok_bind, List.append_nil] at pp
    exact pp Hs' H' F L fr hLn Lpc (.inl ⟨ds, acc, rfl, hLa, by omega, rl⟩)
variable {elt tg iter : Expr} {ifs : List Expr} {scope : Scope} {own : List (Str × Nat)} {pos : Pos}
theorem do_lc (hc : X.calm = true) (hN : X.N.Nodup) (hi : DI X g E hid tg iter it) (ok : BlkOk X.N X.env.scope scope own)
    (hg : ∀ (s : Shared) (H : Hp) (C : Addr) (cl : List (Str × Addr)) (fp : List Addr), PG (X.blk s H scope (compEnvC scope cl C X.env) fp) tg (gOf g.K t))
    (ht : ∀ (s : Shared) (H : Hp) (C : Addr) (cl : List (Str × Addr)) (fp : List Addr), PTs (X.blk s H scope (compEnvC scope cl C X.env) fp) ifs (tT g EF hid test))
    (he : ∀ (s : Shared) (H : Hp) (C : Addr) (cl : List (Str × Addr)) (fp : List Addr), DE (X.blk s H scope (compEnvC scope cl C X.env) fp) g EF hid elt me) (hw : ∀ i ∈ tgS t, i ∈ own.map (·.2) := by decide)
    (hs : ∀ x, foldedSetIterable iter X.env x = pure x := by intro _; rfl) : DEo X g E hid (.ListComp elt [⟨tg, iter, ifs, 0⟩] scope pos) (lcD t (own.map (·.2)) it test me) :=
  PE_imp (pe_lc hc hN hi ok hg ht he hs) fun σ H Q q => lc_of hw q
theorem dts_nil {X : Cx} : PTs X [] (tT g EF hid yesT) := ⟨fun pins s σ H Q I ⟨st, c, Hs, sl, sm, cu, p⟩ => pts_nil.run pins s σ H Q I (p Hs H (Fn.refl sm cu))⟩
theorem dts_one {X : Cx} {c : Expr} {t : PM Bool} (h : DT X g EF hid c t) : PTs X [c] (tT g EF hid t) := pts_one h
end
end L2.G
set_option Elab.async false
set_option linter.all false
set_option maxRecDepth 100000
set_option maxHeartbeats 2000000
namespace L2.G
open PySem PySem.Spec PyProof.Rows L2H
/-! statements by data -/
inductive Fl where
  | nx (st : PSt)
  | rt (d : D)
structure SiS (g : Ga) (fx : List (Nat × V)) (Hs0 H0 : Hp) (ow : List Nat) (Hs H : Hp) (c : Cu) (st : PSt) (σ : St) : Prop where
  fn : Fn g.pc Hs0 H0 Hs H c
  sl : Sl g ow Hs st σ
  own : ∀ i ∈ ow, ∀ d, st[i]? = some (some d) → ∃ a, σ[i]? = some (some (.ref a)) ∧ Hs a = none ∧ Fr H0 a ∧ Off g.pc a ∧ Own1 g Hs H a d
  dis : ∀ i ∈ ow, ∀ j ∈ ow, i ≠ j → ∀ d e a b, st[i]? = some (some d) → st[j]? = some (some e) → σ[i]? = some (some (.ref a)) → σ[j]? = some (some (.ref b)) → a ≠ b
  fix : ∀ i ∈ ow, ∀ v, (i, v) ∈ fx → σ[i]? = some (some v)
section
variable {g : Ga} {fx : List (Nat × V)} {Hs0 H0 Hs H Hs1 H1 Hs2 H2 : Hp} {ow ow' ow1 : List Nat} {c c1 : Cu} {st : PSt} {σ : St}
open Classical in
/-- what was one's own may become known -/
theorem SiS.weak (s : SiS g fx Hs0 H0 ow Hs H c st σ) (hw : ∀ i ∈ ow', i ∈ ow) : ∃ Hs1, Same Hs Hs1 ∧ SiS g fx Hs0 H0 ow' Hs1 H c st σ := by
  let fz : Addr → Prop := fun b => ∃ i ∈ ow, i ∉ ow' ∧ (∃ d, st[i]? = some (some d)) ∧ σ[i]? = some (some (.ref b))
  let Hs1 : Hp := fun b => if Hs b = none ∧ fz b then H b else Hs b
  have h1 : ∀ b, Hs b = none → fz b → Hs1 b = H b := fun b n f => if_pos ⟨n, f⟩
  have h2 : ∀ b, ¬ fz b → Hs1 b = Hs b := fun b n => if_neg fun z => n z.2
  have h3 : ∀ b o, Hs b = some o → Hs1 b = some o := fun b o e => by
    show (if Hs b = none ∧ fz b then H b else Hs b) = some o
    rw [if_neg (fun z => by rw [e] at z; cases z.1)]
    exact e
  have free : ∀ b, fz b → Hs b = none ∧ Fr H0 b ∧ Off g.pc b := fun b ⟨i, hi, _, ⟨d, hd⟩, hv⟩ => by
    obtain ⟨a, e1, e2, e3, e4, _⟩ := s.own i hi d hd
    rw [hv] at e1
    cases e1
    exact ⟨e2, e3, e4⟩
  refine ⟨Hs1, h3, ⟨⟨s.fn.ss.trans h3, s.fn.bt, fun b o t e n => ?_, fun b o e => ?_, ?_⟩, ⟨s.sl.1, fun i d hi e => ?_⟩, fun i hi d hd => ?_, fun i hi j hj => s.dis i (hw i hi) j (hw j hj), fun i hi => s.fix i (hw i hi)⟩⟩
  · by_cases hf : fz b
    · exact absurd e ((free b hf).2.1 o t)
    · rw [h2 b hf]
      exact s.fn.nw b o t e n
  · by_cases hf : fz b
    · rw [h1 b (free b hf).1 hf] at e
      exact e
    · rw [h2 b hf] at e
      exact s.fn.sm b o e
  · refine s.fn.cu.hs (fun b nb e => ?_) fun b ps e => ?_
    · rw [h2 b fun hf => nb (free b hf).2.2]
      exact e
    · by_cases hf : fz b
      · rw [h1 b (free b hf).1 hf] at e
        obtain ⟨i, hi, _, ⟨d, hd⟩, hv⟩ := hf
        obtain ⟨a, e1, _, _, _, e5⟩ := s.own i hi d hd
        rw [hv] at e1
        cases e1
        obtain ⟨u, hu, pl⟩ := e5.at_
        rw [hu] at e
        exact pl.1 ps (Option.some.inj e)
      · rw [h2 b hf] at e
        exact s.fn.cu.nt b ps e
  · by_cases hi2 : i ∈ ow
    · obtain ⟨a, e1, e2, e3, e4, e5⟩ := s.own i hi2 d e
      have hf : fz a := ⟨i, hi2, hi, ⟨_, e⟩, e1⟩
      obtain ⟨u, hu, _⟩ := e5.at_
      refine ⟨.ref a, e1, Rl.mono (H := upd Hs a u) (fun b o hb => ?_) d _ (e5.rl hu e2)⟩
      by_cases z : b = a
      · rw [z, upd_same] at hb
        rw [z, h1 a e2 hf, hu, ← hb]
      · rw [upd_ne z] at hb
        exact h3 b o hb
    · obtain ⟨v, e1, e2⟩ := s.sl.2 i d hi2 e
      exact ⟨v, e1, Rl.mono h3 d v e2⟩
  · obtain ⟨a, e1, e2, e3, e4, e5⟩ := s.own i (hw i hi) d hd
    refine ⟨a, e1, ?_, e3, e4, e5.mono h3 fun _ _ z => z⟩
    rw [h2 a ?_]
    · exact e2
    · rintro ⟨j, hj, hj2, ⟨d', hd'⟩, hv⟩
      exact s.dis i (hw i hi) j hj (fun z => hj2 (z ▸ hi)) _ _ a a hd hd' e1 hv rfl
/-- behind an expression whose value holds nothing -/
theorem SiS.back (s : SiS g fx Hs0 H0 ow Hs H c st σ) (e : Same Hs Hs1) (F : Fn g.pc Hs1 H Hs2 H2 c1) : SiS g fx Hs0 H0 ow Hs H2 c1 st σ := by
  refine ⟨⟨s.fn.ss, fun b o n t h => F.bt b o n t (s.fn.bt b o n t h), s.fn.nw, e.trans (F.ss.trans F.sm), ?_⟩, s.sl, fun i hi d hd => ?_, s.dis, s.fix⟩
  · exact F.cu.hs (fun b nb h => (e.trans F.ss).free h) s.fn.cu.nt
  · obtain ⟨a, e1, e2, e3, e4, e5⟩ := s.own i hi d hd
    exact ⟨a, e1, e2, e3, e4, e5.mono (Same.refl _) fun u pu hu => F.bt a u e4 pu.1 hu⟩
/-- behind any expression -/
theorem SiS.on (s : SiS g fx Hs0 H0 ow Hs H c st σ) (F : Fn g.pc Hs H Hs2 H2 c1) : SiS g fx Hs0 H0 ow Hs2 H2 c1 st σ := by
  refine ⟨s.fn.trans F, s.sl.mono F.ss, fun i hi d hd => ?_, s.dis, s.fix⟩
  obtain ⟨a, e1, e2, e3, e4, e5⟩ := s.own i hi d hd
  obtain ⟨u, hu, pu⟩ := e5.at_
  exact ⟨a, e1, F.nw a u pu.1 hu e2, e3, e4, e5.mono F.ss fun v pv hv => F.bt a v e4 pv.1 hv⟩
theorem SiS.asg {sl : List Nat} {st' : PSt} {σ' : St} (s : SiS g fx Hs0 H0 ow Hs H c st σ) (a : Asg g Hs sl st σ st' σ') (hs : ∀ i ∈ sl, i ∉ ow) : SiS g fx Hs0 H0 ow Hs H c st' σ' := by
  have out : ∀ i ∈ ow, σ'[i]? = σ[i]? ∧ st'[i]? = st[i]? := fun i hi => a.out i fun z => hs i z hi
  refine ⟨s.fn, s.sl.asg a, fun i hi d hd => ?_, fun i hi j hj ne d e a' b h1 h2 h3 h4 => ?_, fun i hi v hv => by rw [(out i hi).1]; exact s.fix i hi v hv⟩
  · rw [(out i hi).2] at hd
    rw [(out i hi).1]
    exact s.own i hi d hd
  · rw [(out i hi).2] at h1
    rw [(out j hj).2] at h2
    rw [(out i hi).1] at h3
    rw [(out j hj).1] at h4
    exact s.dis i hi j hj ne d e a' b h1 h2 h3 h4
/-- a new list of one's own in slot i -/
theorem SiS.take {i : Nat} {p : Addr} {d0 : D} (s : SiS g fx Hs0 H0 ow Hs H c st σ) (hi : i ∉ ow) (hfx : ∀ v, (i, v) ∉ fx) (F : Fn g.pc Hs H Hs2 H2 c1) (hp : Fr H p) (hp2 : Hs2 p = none) (hc : Off g.pc p) (h2 : Own1 g Hs2 H2 p d0) :
    SiS g fx Hs0 H0 (i :: ow) Hs2 H2 c1 (st.set i (some d0)) (σ.set i (some (.ref p))) := by
  have s2 := s.on F
  have h0 : Fr H0 p := fun o t z => hp o t (s.fn.bt p o hc t z)
  have ne : ∀ j ∈ ow, i ≠ j := fun j hj z => hi (z ▸ hj)
  have apart : ∀ j ∈ ow, ∀ d a, st[j]? = some (some d) → σ[j]? = some (some (.ref a)) → a ≠ p := by
    rintro j hj d a hd ha rfl
    obtain ⟨b, e1, _, _, _, e5⟩ := s.own j hj d hd
    rw [ha] at e1
    cases e1
    obtain ⟨u, hu, pu⟩ := e5.at_
    exact hp u pu.1 hu
  have at_i : ∀ d, (st.set i (some d0))[i]? = some (some d) → d = d0 ∧ i < st.length := fun d e => by
    have hl : i < st.length := by
      have := (List.getElem?_eq_some_iff.mp e).1
      rwa [List.length_set] at this
    rw [List.getElem?_set_self hl] at e
    cases e
    exact ⟨rfl, hl⟩
  refine ⟨s2.fn, ⟨by rw [List.length_set, List.length_set]; exact s.sl.1, fun j d hj e => ?_⟩, fun j hj d hd => ?_, fun j hj k hk jk d e a b h1 h2 h3 h4 => ?_, fun j hj v hv => ?_⟩
  · rw [List.mem_cons, not_or] at hj
    rw [List.getElem?_set_ne (Ne.symm hj.1)] at e ⊢
    exact s2.sl.2 j d hj.2 e
  · rcases List.mem_cons.mp hj with rfl | hj
    · obtain ⟨rfl, hl2⟩ := at_i d hd
      exact ⟨p, by rw [List.getElem?_set_self (by rw [s.sl.1]; exact hl2)], hp2, h0, hc, h2⟩
    · rw [List.getElem?_set_ne (ne j hj)] at hd ⊢
      exact s2.own j hj d hd
  · rcases List.mem_cons.mp hj with zj | hj2
    · rcases List.mem_cons.mp hk with zk | hk2
      · exact absurd (zj.trans zk.symm) jk
      · rw [List.getElem?_set_ne (ne k hk2)] at h2 h4
        rw [zj] at h1 h3
        obtain ⟨_, hl2⟩ := at_i d h1
        rw [List.getElem?_set_self (by rw [s.sl.1]; exact hl2)] at h3
        cases h3
        exact fun z => apart k hk2 e b h2 h4 z.symm
    · rcases List.mem_cons.mp hk with zk | hk2
      · rw [List.getElem?_set_ne (ne j hj2)] at h1 h3
        rw [zk] at h2 h4
        obtain ⟨_, hl2⟩ := at_i e h2
        rw [List.getElem?_set_self (by rw [s.sl.1]; exact hl2)] at h4
        cases h4
        exact apart j hj2 d a h1 h3
      · rw [List.getElem?_set_ne (ne j hj2)] at h1 h3
        rw [List.getElem?_set_ne (ne k hk2)] at h2 h4
        exact s.dis j hj2 k hk2 jk d e a b h1 h2 h3 h4
  · rcases List.mem_cons.mp hj with zj | hj2
    · rw [zj] at hv
      exact absurd hv (hfx v)
    · rw [List.getElem?_set_ne (ne j hj2)]
      exact s.fix j hj2 v hv
/-- one's own thing changes -/
theorem SiS.chg0 {i : Nat} {p : Addr} {d0 d1 : D} {u1 : HO} (s : SiS g fx Hs0 H0 ow Hs H c st σ) (hi : i ∈ ow) (hd : st[i]? = some (some d0)) (hp : σ[i]? = some (some (.ref p))) (hu : Own1 g Hs (upd H p u1) p d1) :
    SiS g fx Hs0 H0 ow Hs (upd H p u1) c (st.set i (some d1)) σ := by
  obtain ⟨a, e1, e2, e3, e4, e5⟩ := s.own i hi _ hd
  rw [hp] at e1
  cases e1
  have il := (List.getElem?_eq_some_iff.mp hd).1
  obtain ⟨u0, hu0, pl0⟩ := e5.at_
  have F := s.fn.mut (o := u1) e3 e2 e4 hu0 pl0
  refine ⟨F, ⟨by rw [List.length_set]; exact s.sl.1, fun j d hj e => ?_⟩, fun j hj d hd2 => ?_, fun j hj k hk jk d e a b h1 h2 h3 h4 => ?_, s.fix⟩
  · have : i ≠ j := fun z => hj (z ▸ hi)
    rw [List.getElem?_set_ne this] at e
    exact s.sl.2 j d hj e
  · by_cases h : i = j
    · subst h
      rw [List.getElem?_set_self il] at hd2
      cases hd2
      exact ⟨p, hp, e2, e3, e4, hu⟩
    · rw [List.getElem?_set_ne h] at hd2
      obtain ⟨a, f1, f2, f3, f4, f5⟩ := s.own j hj d hd2
      refine ⟨a, f1, f2, f3, f4, f5.mono (Same.refl _) fun v _ hv => ?_⟩
      rw [upd_ne (s.dis j hj i hi (Ne.symm h) _ _ a p hd2 hd f1 hp)]
      exact hv
  · have old : ∀ j : Nat, (∃ d, (st.set i (some d1))[j]? = some (some d)) → ∃ d, st[j]? = some (some d) := by
      rintro j ⟨d, e⟩
      by_cases h : i = j
      · subst h
        exact ⟨_, hd⟩
      · rw [List.getElem?_set_ne h] at e
        exact ⟨d, e⟩
    obtain ⟨d', h1⟩ := old j ⟨d, h1⟩
    obtain ⟨e', h2⟩ := old k ⟨e, h2⟩
    exact s.dis j hj k hk jk d' e' a b h1 h2 h3 h4
theorem SiS.chg {i : Nat} {p : Addr} {ds ds' : List D} {vs' : List V} (s : SiS g fx Hs0 H0 ow Hs H c st σ) (hi : i ∈ ow) (hd : st[i]? = some (some (.lst ds))) (hp : σ[i]? = some (some (.ref p))) (hl : ds'.length ≤ sizeLine) (r : RlL g Hs ds' vs') :
    SiS g fx Hs0 H0 ow Hs (upd H p (.lst vs')) c (st.set i (some (.lst ds'))) σ := s.chg0 hi hd hp (.inl ⟨ds', vs', rfl, upd_same, hl, r⟩)
/-- one's own list -/
theorem SiS.lst {i : Nat} {ds : List D} (s : SiS g fx Hs0 H0 ow Hs H c st σ) (hi : i ∈ ow) (hd : st[i]? = some (some (.lst ds))) : ∃ a vs, σ[i]? = some (some (.ref a)) ∧ H a = some (.lst vs) ∧ ds.length ≤ sizeLine ∧ RlL g Hs ds vs := by
  obtain ⟨a, e1, _, _, _, e5⟩ := s.own i hi _ hd
  rcases e5 with ⟨ds1, vs, ed, h2, h3, h4⟩ | ⟨C, ns, ds1, dx, gs, ed, _⟩
  · cases ed
    exact ⟨a, vs, e1, h2, h3, h4⟩
  · cases ed
end
end L2.G
set_option Elab.async false
set_option linter.all false
set_option maxRecDepth 100000
set_option maxHeartbeats 2000000
namespace L2.G
open PySem PySem.Spec PyProof.Rows L2H
def PostS (g : Ga) (E : XK) (fx : List (Nat × V)) (Hs0 H0 : Hp) (ow : List Nat) (D : Ends) (r : R Fl) : Prop := match r with
  | .no => False
  | .ok (.nx st') c' => ∀ σ' Hs' H', SiS g fx Hs0 H0 ow Hs' H' c' st' σ' → D.nx σ' H'
  | .ok (.rt d) c' => ∀ v Hs' H', Fn g.pc Hs0 H0 Hs' H' c' → Rl g Hs' d v → D.rt v H'
  | .er x c' => ∀ cls dx Hs' H', Fn g.pc Hs0 H0 Hs' H' c' → Xr g Hs' x cls dx → E cls dx H'
def tS (g : Ga) (E : XK) (fx : List (Nat × V)) (Hs0 H0 : Hp) (ow ow' : List Nat) (f : PM Fl) : TS := fun D σ H => ∃ st c Hs, SiS g fx Hs0 H0 ow Hs H c st σ ∧ PostS g E fx Hs0 H0 ow' D (f st c)
abbrev DS (X : Cx) (g : Ga) (E : XK) (fx : List (Nat × V)) (Hs0 H0 : Hp) (ow ow' : List Nat) (s : Stmt) (f : PM Fl) : Prop := PS X s (tS g E fx Hs0 H0 ow ow' f)
abbrev DB (X : Cx) (g : Ga) (E : XK) (fx : List (Nat × V)) (Hs0 H0 : Hp) (ow ow' : List Nat) (b : List Stmt) (f : PM Fl) : Prop := PSs X b (tS g E fx Hs0 H0 ow ow' f)
theorem PS_imp {X : Cx} {s : Stmt} {t t' : TS} (h : PS X s t) (m : ∀ D σ H, t' D σ H → t D σ H) : PS X s t' := ⟨fun pins s σ H D I q => h.run pins s σ H D I (m D σ H q)⟩
theorem PSs_imp {X : Cx} {s : List Stmt} {t t' : TS} (h : PSs X s t) (m : ∀ D σ H, t' D σ H → t D σ H) : PSs X s t' := ⟨fun pins s σ H D I q => h.run pins s σ H D I (m D σ H q)⟩
/-! the statements -/
def setS (i : Nat) (m : PM D) : PM Fl := fun st c => (m st c).bind fun d c => .ok (.nx (st.set i (some d))) c
def asgS (t : Tg) (m : PM D) : PM Fl := fun st c => (m st c).bind fun d c => (ofO (asgT t d st) c).bind fun st' c => .ok (.nx st') c
def exS (m : PM D) : PM Fl := fun st c => (m st c).bind fun _ c => .ok (.nx st) c
def retS (m : PM D) : PM Fl := fun st c => (m st c).bind fun d c => .ok (.rt d) c
def passS : PM Fl := fun st c => .ok (.nx st) c
def ifS (t : PM Bool) (f f' : PM Fl) : PM Fl := fun st c => (t st c).bind fun b c => if b = true then f st c else f' st c
def seqS (f f' : PM Fl) : PM Fl := fun st c => (f st c).bind fun fl c => match fl with
  | .nx st' => f' st' c
  | .rt d => .ok (.rt d) c
def loopS (t : Tg) (f : PM Fl) : List D → PSt → Cu → R Fl
  | [], st, c => .ok (.nx st) c
  | d :: ds, st, c => (ofO (asgT t d st) c).bind fun st1 c => (f st1 c).bind fun fl c => match fl with
    | .nx st' => loopS t f ds st' c
    | .rt d => .ok (.rt d) c
def forS (t : Tg) (it : PM (List D)) (f : PM Fl) : PM Fl := fun st c => (it st c).bind fun items c => loopS t f items st c
def whS (t : PM Bool) (f : PM Fl) : Nat → PM Fl
  | 0 => fun _ _ => .no
  | n + 1 => fun st c => (t st c).bind fun b c => if b = true then (f st c).bind fun fl c => match fl with
      | .nx st' => whS t f n st' c
      | .rt d => .ok (.rt d) c
    else .ok (.nx st) c
def appS (i : Nat) (m : PM D) : PM Fl := fun st c => match st[i]? with
  | some (some (.lst ds)) => (m st c).bind fun d c => if ds.length < sizeLine then .ok (.nx (st.set i (some (.lst (ds ++ [d]))))) c else .no
  | _ => .no
def scD (d : D) : Bool := match d with
  | .non => true
  | .bl _ => true
  | .int _ => true
  | .str _ => true
  | _ => false
def scalD (m : PM D) : PM D := fun st c => (m st c).bind fun d c => if scD d = true then .ok d c else .no
def putF1 (i : Nat) (k : D) (d : D) (st : PSt) : Option PSt := match st[i]?, k with
  | some (some (.lst ds)), .int j => (ixN ds.length j).map fun n => st.set i (some (.lst (ds.set n d)))
  | _, _ => none
/-- x[k] = e -/
def setIS (i : Nat) (mk me : PM D) : PM Fl := fun st c => match st[i]? with
  | some (some (.lst _)) => (me st c).bind fun d c => (scalD mk st c).bind fun k c => (ofO (putF1 i k d st) c).bind fun st' c => .ok (.nx st') c
  | _ => .no
/-- x[k] = e, e a scalar -/
def setISs (i : Nat) (mk me : PM D) : PM Fl := setIS i mk (scalD me)
def ixL (ds : List D) : D → Option D
  | .int j => if 0 ≤ j then ds[j.toNat]? else none
  | _ => none
/-- x[k] op= e, scalars, k from the left -/
def augIS (i : Nat) (f : D → D → Option D) (mk me : PM D) : PM Fl := fun st c => match st[i]? with
  | some (some (.lst ds)) => (scalD mk st c).bind fun k c => (ofO (ixL ds k) c).bind fun x c => if scD x = true then (scalD me st c).bind fun y c => (ofO (f x y) c).bind fun z c => (ofO (putF1 i k z st) c).bind fun st' c => .ok (.nx st') c else .no
  | _ => .no
def augS (i : Nat) (f : D → D → Option D) (m : PM D) : PM Fl := fun st c => match st[i]? with
  | some (some x) => (m st c).bind fun y c => (ofO (f x y) c).bind fun z c => .ok (.nx (st.set i (some z))) c
  | _ => .no
def raS (cls : Str) (ns : List Str) (ms : List (PM D)) : PM Fl := fun st c => (aD ms st c).bind fun ds c => .er ⟨cls, ns, ds⟩ c
def parS (i j : Nat) (ms : List (PM D)) : PM Fl := fun st c => (aD ms st c).bind fun ds c => match ds with
  | [x, y] => .ok (.nx ((st.set i (some x)).set j (some y))) c
  | _ => .no
section
variable {X : Cx} {g : Ga} {E : XK} {fx : List (Nat × V)} {Hs0 H0 : Hp} {ow ow' ow1 ow2 hid : List Nat} {m mk me : PM D} {s : Stmt} {b : List Stmt} {f f' f1 f2 : PM Fl} {i j : Nat} {pos : Pos} {e : Expr}
/-- an expression's reading out of a statement's state -/
theorem SiS.toE {st : PSt} {σ : St} {Hs H : Hp} {c : Cu} {Q : VK} (s : SiS g fx Hs0 H0 ow Hs H c st σ) (q : Post g E Hs H (m st c) fun d _ Hs' H' => ∀ v, Rl g Hs' d v → Q v H') : tE g E ow m σ H Q := ⟨st, c, Hs, s.sl, s.fn.sm, s.fn.cu, q⟩
theorem ps_er {β : Type} {Hs H : Hp} {c : Cu} {st : PSt} {σ : St} {D : Ends} {r : R β} {k : β → Cu → R Fl} {K : β → Cu → Hp → Hp → Prop} (s : SiS g fx Hs0 H0 ow Hs H c st σ) (p : PostS g E fx Hs0 H0 ow' D (r.bind k))
    (h : ∀ a c1 Hs1 H1, r = .ok a c1 → Fn g.pc Hs H Hs1 H1 c1 → PostS g E fx Hs0 H0 ow' D (k a c1) → K a c1 Hs1 H1) : Post g E Hs H r K := by
  cases r with
  | no => exact p
  | er x c' => exact fun cls dx Hs' H' F x => p cls dx Hs' H' (s.fn.trans F) x
  | ok a c' => exact fun Hs' H' F => h a c' Hs' H' rfl F p
theorem s_set (h : PS X s (tAsg (tE g E ow1 m) (gName i))) (hw : ∀ k ∈ ow1, k ∈ ow := by decide) (hi : i ∉ ow1 := by decide) : DS X g E fx Hs0 H0 ow ow1 s (setS i m) := by
  refine PS_imp h fun D σ H ⟨st, c, Hs, s, p⟩ => ?_
  obtain ⟨Hs1, e1, s1⟩ := s.weak hw
  refine s1.toE (ps_er s1 p fun d c2 Hs2 H2 _ F q v r => ?_)
  exact q _ Hs2 H2 ((s1.on F).asg (asg_nm s1.sl.1 r) (by simpa using hi))
/-- a scalar: what is one's own stays so -/
theorem s_setS (h : PS X s (tAsg (tE g E ow1 m) (gName i))) (hw : ∀ k ∈ ow1, k ∈ ow := by decide) (hi : i ∉ ow := by decide) : DS X g E fx Hs0 H0 ow ow s (setS i (scalD m)) := by
  refine PS_imp h fun D σ H ⟨st, c, Hs, s, p⟩ => ?_
  obtain ⟨Hs1, e1, s1⟩ := s.weak hw
  unfold setS scalD at p
  cases em : m st c with
  | no => rw [em] at p; exact p.elim
  | er x c' =>
    rw [em] at p
    exact s1.toE (by rw [em]; exact fun cls dx Hs' H' F x => p cls dx Hs' H' (s1.fn.trans F) x)
  | ok d c2 =>
    rw [em, R.ok_bind] at p
    by_cases hsc : scD d = true
    · rw [if_pos hsc, R.ok_bind] at p
      refine s1.toE (by
        rw [em]
        refine fun Hs2 H2 F v r => p _ Hs H2 ((s.back e1 F).asg (asg_nm s.sl.1 ?_) (by simpa using hi))
        cases d with
        | non => exact rl_non.mpr (rl_non.mp r)
        | bl b => exact rl_bl.mpr (rl_bl.mp r)
        | int b => exact rl_int.mpr (rl_int.mp r)
        | str b => exact rl_str.mpr (rl_str.mp r)
        | _ => cases hsc)
    · rw [if_neg hsc] at p
      exact p.elim
/-- a new list, from now on one's own -/
theorem s_setO (h : PS X s (tAsg (tEo g E ow1 m) (gName i))) (hw : ∀ k ∈ ow1, k ∈ ow := by decide) (hi : i ∉ ow1 := by decide) (hfx : ∀ v, (i, v) ∉ fx := by simp) : DS X g E fx Hs0 H0 ow (i :: ow1) s (setS i m) := by
  refine PS_imp h fun D σ H ⟨st, c, Hs, s, p⟩ => ?_
  obtain ⟨Hs1, e1, s1⟩ := s.weak hw
  refine ⟨st, c, Hs1, s1.sl, s1.fn.sm, s1.fn.cu, ps_er s1 p fun d c2 Hs2 H2 _ F q a h1 h2 h3 h4 => ?_⟩
  exact q _ Hs2 H2 (s1.take hi hfx F h1 h2 h3 h4)
theorem s_asg {t : Tg} (h : PS X s (tAsg (tE g E ow1 m) (gOf g.K t))) (hw : ∀ k ∈ ow1, k ∈ ow := by decide) (hi : ∀ k ∈ tgS t, k ∉ ow1 := by decide) : DS X g E fx Hs0 H0 ow ow1 s (asgS t m) := by
  refine PS_imp h fun D σ H ⟨st, c, Hs, s, p⟩ => ?_
  obtain ⟨Hs1, e1, s1⟩ := s.weak hw
  refine s1.toE (ps_er s1 p fun d c2 Hs2 H2 _ F q v r => ?_)
  cases ea : asgT t d st with
  | none => rw [ea] at q; exact q.elim
  | some st' =>
    rw [ea] at q
    exact asg_of F.sm t d v st st' σ _ s1.sl.1 r ea fun σ' a => q σ' Hs2 H2 ((s1.on F).asg a hi)
theorem s_ex (h : DE X g E ow1 e m) (hw : ∀ k ∈ ow1, k ∈ ow := by decide) (hs : swapsWith e none pos.line X.env = pure false := by rfl) : DS X g E fx Hs0 H0 ow ow (.Expr e pos) (exS m) := by
  refine PS_imp (ps_expr h hs) fun D σ H ⟨st, c, Hs, s, p⟩ => ?_
  obtain ⟨Hs1, e1, s1⟩ := s.weak hw
  exact s1.toE (ps_er s1 p fun d c2 Hs2 H2 _ F q v r => q _ Hs H2 (s.back e1 F))
theorem s_ret (h : DE X g E ow1 e m) (hw : ∀ k ∈ ow1, k ∈ ow := by decide) : DS X g E fx Hs0 H0 ow ow' (.Return (some e) pos) (retS m) := by
  refine PS_imp (ps_ret h) fun D σ H ⟨st, c, Hs, s, p⟩ => ?_
  obtain ⟨Hs1, e1, s1⟩ := s.weak hw
  exact s1.toE (ps_er s1 p fun d c2 Hs2 H2 _ F q v r => q v Hs2 H2 (s1.fn.trans F) r)
theorem s_pass : DS X g E fx Hs0 H0 ow ow (.Pass pos) passS := PS_imp ps_pass fun D σ H ⟨st, c, Hs, s, p⟩ => p σ Hs H s
theorem s_if {t : PM Bool} {tst : Expr} {b1 b2 : List Stmt} (ht : DT X g E ow1 tst t) (h1 : DB X g E fx Hs0 H0 ow ow' b1 f1) (h2 : DB X g E fx Hs0 H0 ow ow' b2 f2) (hw : ∀ k ∈ ow1, k ∈ ow := by decide) : DS X g E fx Hs0 H0 ow ow' (.If tst b1 b2 pos) (ifS t f1 f2) := by
  refine PS_imp (ps_if ht h1 h2) fun D σ H ⟨st, c, Hs, s, p⟩ => ?_
  obtain ⟨Hs1, e1, s1⟩ := s.weak hw
  refine ⟨st, c, Hs1, s1.sl, s1.fn.sm, s1.fn.cu, ps_er s1 p fun b c2 Hs2 H2 _ F q => ?_⟩
  cases b with
  | true =>
    rw [if_pos rfl] at q ⊢
    exact ⟨st, c2, Hs, s.back e1 F, q⟩
  | false =>
    rw [if_neg (by decide)] at q ⊢
    exact ⟨st, c2, Hs, s.back e1 F, q⟩
theorem PostS.weak {D : Ends} {r : R Fl} (hw : ∀ k ∈ ow', k ∈ ow) (p : PostS g E fx Hs0 H0 ow' D r) : PostS g E fx Hs0 H0 ow D r := by
  cases r with
  | no => exact p
  | er x c => exact p
  | ok fl c =>
    cases fl with
    | nx st =>
      intro σ' Hs' H' s
      obtain ⟨Hs1, _, s1⟩ := s.weak hw
      exact p σ' Hs1 H' s1
    | rt d => exact p
theorem b_weak (h : DB X g E fx Hs0 H0 ow ow1 b f) (hw : ∀ k ∈ ow', k ∈ ow1 := by decide) : DB X g E fx Hs0 H0 ow ow' b f := PSs_imp h fun D σ H ⟨st, c, Hs, s, p⟩ => ⟨st, c, Hs, s, p.weak hw⟩
theorem b_nil : DB X g E fx Hs0 H0 ow ow [] passS := PSs_imp pss_nil fun D σ H ⟨st, c, Hs, s, p⟩ => p σ Hs H s
theorem b_one (h : DS X g E fx Hs0 H0 ow ow' s f) : DB X g E fx Hs0 H0 ow ow' [s] f := pss_one h
theorem seq_of {D : Ends} {st : PSt} {c : Cu} (p : PostS g E fx Hs0 H0 ow' D (seqS f f' st c)) : PostS g E fx Hs0 H0 ow1 { D with nx := fun σ H => tS g E fx Hs0 H0 ow1 ow' f' D σ H } (f st c) := by
  unfold seqS at p
  cases ef : f st c with
  | no => rw [ef] at p; exact p
  | er x c' => rw [ef] at p; exact p
  | ok fl c' =>
    rw [ef, R.ok_bind] at p
    cases fl with
    | nx st' => exact fun σ' Hs' H' s => ⟨st', c', Hs', s, p⟩
    | rt d => exact p
theorem b_cons {s2 : Stmt} (h : DS X g E fx Hs0 H0 ow ow1 s f) (h2 : DB X g E fx Hs0 H0 ow1 ow' (s2 :: b) f') : DB X g E fx Hs0 H0 ow ow' (s :: s2 :: b) (seqS f f') :=
  PSs_imp (pss_cons h h2) fun D σ H ⟨st, c, Hs, s, p⟩ => ⟨st, c, Hs, s, seq_of p⟩
theorem SiS.re {st : PSt} {σ : St} {Hs H : Hp} {c : Cu} (s : SiS g fx Hs0 H0 ow Hs H c st σ) : SiS g fx Hs H0 ow Hs H c st σ := ⟨⟨Same.refl _, s.fn.bt, fun _ _ _ _ n => n, s.fn.sm, s.fn.cu⟩, s.sl, s.own, s.dis, s.fix⟩
theorem Fn.un {pc : Pc} {A0 B0 A1 B1 A2 B2 : Hp} {c1 c2 : Cu} (a : Fn pc A0 B0 A1 B1 c1) (b : Fn pc A1 B0 A2 B2 c2) : Fn pc A0 B0 A2 B2 c2 := ⟨a.ss.trans b.ss, b.bt, fun x o t e n => b.nw x o t e (a.nw x o t e n), b.sm, b.cu⟩
theorem SiS.un {st st' : PSt} {σ σ' : St} {Hs H Hs' H' : Hp} {c c' : Cu} {ow' : List Nat} (a : SiS g fx Hs0 H0 ow Hs H c st σ) (b : SiS g fx Hs H0 ow' Hs' H' c' st' σ') : SiS g fx Hs0 H0 ow' Hs' H' c' st' σ' := ⟨a.fn.un b.fn, b.sl, b.own, b.dis, b.fix⟩
theorem PSs_ex {α : Type} {b : List Stmt} {t : α → TS} (h : ∀ a, PSs X b (t a)) : PSs X b (fun D σ H => ∃ a, t a D σ H) := ⟨fun pins s σ H D I ⟨a, q⟩ => (h a).run pins s σ H D I q⟩
theorem s_for {t : Tg} {it : PM (List D)} {tg iter : Expr} (hp : PassesOwn (model X.prog X.w) X.A X.env X.xe) (hc : X.calm = true) (hi : DI X g E ow1 tg iter it) (hg : PG X tg (gOf g.K t)) (hb : ∀ Hs0, DB X g E fx Hs0 H0 ow1 ow1 b f)
    (hw : ∀ k ∈ ow1, k ∈ ow := by decide) (ht : ∀ k ∈ tgS t, k ∉ ow1 := by decide) (hs : ∀ x, foldedSetIterable iter X.env x = pure x := by intro _; rfl) : DS X g E fx Hs0 H0 ow ow1 (.For tg iter b [] pos) (forS t it f) := by
  refine PS_imp (ps_for hp hc hi hg (PSs_ex hb) hs) fun D σ H ⟨st, c, Hs, s, p⟩ => ?_
  obtain ⟨Hs1, e1, s1⟩ := s.weak hw
  refine ⟨st, c, Hs1, s1.sl, s1.fn.sm, s1.fn.cu, ps_er s1 p fun items c2 Hs2 H2 _ F q hlen J wJ => ?_⟩
  have s2 := s1.on F
  refine for_it (g := gOf g.K t) (tb := fun D σ H => ∃ a, tS g E fx a H0 ow1 ow1 f D σ H) (D := D) wJ (fun i σ' H' => ∃ st' c' Hs', SiS g fx Hs0 H0 ow1 Hs' H' c' st' σ' ∧ Same Hs2 Hs' ∧ PostS g E fx Hs0 H0 ow1 D (loopS t f (items.drop i) st' c')) ⟨st, c2, Hs2, s2, Same.refl _, by rw [List.drop_zero]; exact q⟩ ?_ ?_ ?_
  · rintro i σ' H' _ ⟨st', c', Hs', s', e', _⟩
    exact e'.trans s'.fn.sm
  · rintro i x σ' H' H'' hi ⟨st', c', Hs', s', e', pp⟩ y
    obtain ⟨d, Hs3, hd, F3, rx⟩ := y.step e' s'.fn.sm s'.fn.cu
    rw [drop_cons hd] at pp
    unfold loopS at pp
    have s3 := s'.on F3
    cases ea : asgT t d st' with
    | none => rw [ea] at pp; exact pp.elim
    | some st2 =>
      rw [ea, ofO_some, R.ok_bind] at pp
      refine asg_of F3.sm t d x st' st2 σ' _ s'.sl.1 rx ea fun σ2 a => ⟨Hs3, st2, c', Hs3, (s3.asg a ht).re, ?_⟩
      cases ef : f st2 c' with
      | no => rw [ef] at pp; exact pp
      | er z c4 => rw [ef] at pp; exact fun cls dx Hs' H' F x => pp cls dx Hs' H' (s3.fn.un F) x
      | ok fl c4 =>
        rw [ef, R.ok_bind] at pp
        cases fl with
        | nx st4 =>
          intro σ4 Hs4 H4 s4
          exact ⟨st4, c4, Hs4, s3.un s4, e'.trans (F3.ss.trans s4.fn.ss), pp⟩
        | rt d => exact fun v Hs' H' F r => pp v Hs' H' (s3.fn.un F) r
  · rintro σ' H' ⟨st', c', Hs', s', _, pp⟩
    rw [List.drop_length] at pp
    exact pp σ' Hs' H' s'
end
end L2.G
set_option Elab.async false
set_option linter.all false
set_option maxRecDepth 100000
set_option maxHeartbeats 2000000
namespace L2.G
open PySem PySem.Spec PyProof.Rows L2H
section
variable {X : Cx} {g : Ga} {E : XK} {fx : List (Nat × V)} {Hs0 H0 : Hp} {ow ow' ow1 ow2 hid : List Nat} {m mk me : PM D} {s : Stmt} {b : List Stmt} {f f' f1 f2 : PM Fl} {i j : Nat} {pos : Pos} {e : Expr}
/-- x.append(e) -/
theorem s_app (h : PS X s (tDrop (tBM X.K "list" rAppend (tVar i) (tCons (tE g E ow1 m) tNil)))) (hi : i ∈ ow1 := by decide) (hw : ∀ k ∈ ow1, k ∈ ow := by decide) : DS X g E fx Hs0 H0 ow ow1 s (appS i m) := by
  refine PS_imp h fun D σ H ⟨st, c, Hs, s, p⟩ => ?_
  obtain ⟨Hs1, e1, s1⟩ := s.weak hw
  unfold appS at p
  split at p
  · rename_i ds hd
    obtain ⟨a, vs, ea, e5, e6, e7⟩ := s1.lst hi hd
    refine ⟨.ref a, ea, .inl ⟨rfl, vs, .inl (.inl e5)⟩, s1.toE (ps_er s1 p fun d c2 Hs2 H2 _ F q v r => ?_)⟩
    have s2 := s1.on F
    split at q
    · rename_i hl
      obtain ⟨a', vs', ea', f5, f6, f7⟩ := s2.lst hi hd
      rw [ea] at ea'
      cases ea'
      have l1 := f7.length
      refine ⟨a, vs', v, rfl, rfl, f5, by omega, q σ Hs2 _ (s2.chg hi hd ea (by simp; omega) (f7.append (rll_cons.mpr ⟨v, [], rfl, r, rll_nil.mpr rfl⟩)))⟩
    · exact q.elim
  · exact p.elim
theorem put_of {st st' : PSt} {σ : St} {Hs H : Hp} {c : Cu} {k d : D} {kv v : V} {Q : Hp → Prop} {a : Addr} (s : SiS g fx Hs0 H0 ow Hs H c st σ) (hi : i ∈ ow) (ha : σ[i]? = some (some (.ref a))) (rk : Rl g Hs k kv) (rd : Rl g Hs d v) (e : putF1 i k d st = some st')
    (q : ∀ H', SiS g fx Hs0 H0 ow Hs H' c st' σ → Q H') : cSet (.ref a) kv v H Q := by
  unfold putF1 at e
  split at e
  · rename_i ds j hd
    obtain ⟨n, hn, rfl⟩ := Option.map_eq_some_iff.mp e
    obtain ⟨a', vs, ea, f5, f6, f7⟩ := s.lst hi hd
    rw [ha] at ea
    cases ea
    rw [rl_int.mp rk]
    unfold cSet
    dsimp only
    rw [f5]
    dsimp only
    rw [f7.length, hn]
    dsimp only
    exact q _ (s.chg hi hd ha (by rw [List.length_set]; exact f6) (f7.set n rd))
  · cases e
theorem sc_mono {Hs Hs' : Hp} {k : D} {kv : V} (hsc : scD k = true) (rk : Rl g Hs k kv) : Rl g Hs' k kv := by
  cases k with
  | non => exact rl_non.mpr (rl_non.mp rk)
  | bl b => exact rl_bl.mpr (rl_bl.mp rk)
  | int b => exact rl_int.mpr (rl_int.mp rk)
  | str b => exact rl_str.mpr (rl_str.mp rk)
  | _ => cases hsc
theorem slot_of {st : PSt} {σ : St} {Hs H : Hp} {c : Cu} {ds : List D} (s : SiS g fx Hs0 H0 ow Hs H c st σ) (hi : i ∈ ow) (hd : st[i]? = some (some (.lst ds))) : ∃ a, σ[i]? = some (some (.ref a)) := by
  obtain ⟨a', vs, ea, _⟩ := s.lst hi hd
  exact ⟨a', ea⟩
/-- a scalar expression between, the state as it was -/
theorem scal_of {st : PSt} {σ : St} {Hs H : Hp} {c : Cu} {Dn : Ends} {ow3 : List Nat} {k : D → Cu → R Fl} {Q : VK} (s : SiS g fx Hs0 H0 ow Hs H c st σ) (hw : ∀ k ∈ ow1, k ∈ ow) (p : PostS g E fx Hs0 H0 ow3 Dn ((scalD m st c).bind k))
    (h : ∀ d c1 H1 v, scD d = true → SiS g fx Hs0 H0 ow Hs H1 c1 st σ → (∀ b o, Off g.pc b → Nt o → H b = some o → H1 b = some o) → Rl g Hs d v → PostS g E fx Hs0 H0 ow3 Dn (k d c1) → Q v H1) : tE g E ow1 m σ H Q := by
  obtain ⟨Hs1, e1, s1⟩ := s.weak hw
  refine s1.toE ?_
  unfold scalD at p
  cases ek : m st c with
  | no => rw [ek] at p; exact p.elim
  | er x c' => rw [ek] at p; exact fun cls dx Hs' H' F x => p cls dx Hs' H' (s1.fn.trans F) x
  | ok d c' =>
    rw [ek, R.ok_bind] at p
    by_cases hsc : scD d = true
    · rw [if_pos hsc, R.ok_bind] at p
      exact fun Hs4 H4 F4 v r => h d c' H4 v hsc (s.back e1 F4) F4.bt (sc_mono hsc r) p
    · rw [if_neg hsc] at p
      exact p.elim
/-- x[k] = e -/
theorem s_setI (h : PS X s (tAsg (tE g E ow1 me) (gSub (tVar i) (tE g E ow2 mk) cSet))) (hi : i ∈ ow1 := by decide) (hw : ∀ k ∈ ow1, k ∈ ow := by decide) (hw2 : ∀ k ∈ ow2, k ∈ ow1 := by decide) : DS X g E fx Hs0 H0 ow ow1 s (setIS i mk me) := by
  refine PS_imp h fun D σ H ⟨st, c, Hs, s, p⟩ => ?_
  obtain ⟨Hs1, e1, s1⟩ := s.weak hw
  unfold setIS at p
  split at p
  · rename_i ds hd
    obtain ⟨a, ha⟩ := slot_of s1 hi hd
    refine s1.toE (ps_er s1 p fun d c2 Hs2 H2 _ F q v r => ?_)
    have s2 := s1.on F
    refine ⟨.ref a, ha, scal_of s2 hw2 q fun k c3 H3 kv hsc s3 _ rk q3 => ?_⟩
    cases ep : putF1 i k d st with
    | none => rw [ep] at q3; exact q3.elim
    | some st' =>
      rw [ep] at q3
      exact put_of s3 hi ha rk r ep fun H' s' => q3 σ Hs2 H' s'
  · exact p.elim
/-- x[k] = e, e a scalar -/
theorem s_setIs (h : PS X s (tAsg (tE g E ow1 me) (gSub (tVar i) (tE g E ow2 mk) cSet))) (hi : i ∈ ow := by decide) (hw : ∀ k ∈ ow1, k ∈ ow := by decide) (hw2 : ∀ k ∈ ow2, k ∈ ow := by decide) : DS X g E fx Hs0 H0 ow ow s (setISs i mk me) := by
  refine PS_imp h fun D σ H ⟨st, c, Hs, s, p⟩ => ?_
  unfold setISs setIS at p
  split at p
  · rename_i ds hd
    obtain ⟨a, ha⟩ := slot_of s hi hd
    refine scal_of s hw p fun d c2 H2 v hsd s2 _ r q => ⟨.ref a, ha, scal_of s2 hw2 q fun k c3 H3 kv hsc s3 _ rk q3 => ?_⟩
    cases ep : putF1 i k d st with
    | none => rw [ep] at q3; exact q3.elim
    | some st' =>
      rw [ep] at q3
      exact put_of s3 hi ha rk r ep fun H' s' => q3 σ Hs H' s'
  · exact p.elim
/-- x[k] of a list, from the left -/
def cGet : V → V → Hp → VK → Prop := fun o i H Q => ∃ (p : Addr) (xs : List V) (k : Int) (v : V), o = .ref p ∧ i = .int k ∧ H p = some (.lst xs) ∧ 0 ≤ k ∧ k < xs.length ∧ xs[k.toNat]? = some v ∧ Q v H
theorem get_c : PGet X cGet := by
  rintro pins s σ H o i ov iv Q I r1 r2 ⟨p, xs, k, v, rfl, rfl, hp, h0, h1, hv, q⟩
  cases (show ov = Value.ref p from r1)
  obtain ⟨t, rfl⟩ := r2
  obtain ⟨its, rv, pl, hz⟩ := I.list (Or.inl (Or.inl hp))
  obtain ⟨u, hu, ru⟩ := rv.get hv
  have hl := rv.length
  have hn := line63
  have hs := sizeLine_eq
  exact wpAny_getItem_list pl.isList h0 (by omega) (by simpa using hu) ⟨v, H, I, ru, q⟩
theorem ixN_nn {n : Nat} {k : Int} {j : Nat} (h : ixN n k = some j) (h0 : 0 ≤ k) : k < n ∧ j = k.toNat := by
  unfold ixN at h
  rw [if_pos h0] at h
  split at h
  · rename_i h1
    cases h
    exact ⟨h1, rfl⟩
  · cases h
/-- x[k] op= e, scalars, k from the left -/
theorem s_augI {op : Operator} {fo : D → D → Option D} (ho : OpD X g (inplaceOp op) fo) (h : ∀ r, OpR X (inplaceOp op) r → PS X s (tAugS (tVar i) (tE g E ow1 mk) (tE g E ow2 me) cGet r cSet)) (hi : i ∈ ow := by decide) (hw : ∀ k ∈ ow1, k ∈ ow := by decide) (hw2 : ∀ k ∈ ow2, k ∈ ow := by decide) : DS X g E fx Hs0 H0 ow ow s (augIS i fo mk me) := by
  obtain ⟨r, ho, hr⟩ := ho
  refine PS_imp (h r ho) fun D σ H ⟨st, c, Hs, s, p⟩ => ?_
  unfold augIS at p
  split at p
  · rename_i ds hd
    obtain ⟨a, ha⟩ := slot_of s hi hd
    refine ⟨.ref a, ha, scal_of s hw p fun k c2 H2 kv hsc s2 _ rk q => ?_⟩
    obtain ⟨a', vs, ea, f5, f6, f7⟩ := s2.lst hi hd
    rw [ha] at ea
    cases ea
    cases ex : ixL ds k with
    | none => rw [ex] at q; exact q.elim
    | some x =>
      rw [ex, ofO_some, R.ok_bind] at q
      by_cases hsx : scD x = true
      · rw [if_pos hsx] at q
        cases k <;> simp only [ixL, Option.ite_none_right_eq_some, reduceCtorEq] at ex
        rename_i j
        obtain ⟨h0, ex2⟩ := ex
        have h1 := (List.getElem?_eq_some_iff.mp ex2).1
        obtain ⟨xv, e1, rx⟩ := f7.get ex2
        have l1 := f7.length
        refine ⟨a, vs, j, xv, rfl, rl_int.mp rk, f5, h0, by omega, e1, scal_of s2 hw2 q fun y c3 H3 yv hsy s3 _ ry q3 => ?_⟩
        cases ef : fo x y with
        | none => rw [ef] at q3; exact q3.elim
        | some z =>
          rw [ef, ofO_some, R.ok_bind] at q3
          cases ep : putF1 i (.int j) z st with
          | none => rw [ep] at q3; exact q3.elim
          | some st' =>
            rw [ep] at q3
            refine hr Hs H3 c3 x y xv yv z _ s3.fn.sm s3.fn.cu rx ry ef fun Hs4 H4 zv F4 rz => ?_
            exact put_of (s3.on F4) hi ha (rl_int.mpr (rl_int.mp rk)) rz ep fun H' s' => q3 σ Hs4 H' s'
      · rw [if_neg hsx] at q
        exact q.elim
  · exact p.elim
/-- name op= e -/
theorem s_aug {op : Operator} {fo : D → D → Option D} (ho : OpD X g (inplaceOp op) fo) (h : ∀ r, OpR X (inplaceOp op) r → PS X s (tAug i (tE g E ow1 m) r)) (hw : ∀ k ∈ ow1, k ∈ ow := by decide) (hi : i ∉ ow := by decide) : DS X g E fx Hs0 H0 ow ow1 s (augS i fo m) := by
  obtain ⟨r, ho, hr⟩ := ho
  refine PS_imp (h r ho) fun D σ H ⟨st, c, Hs, s, p⟩ => ?_
  obtain ⟨Hs1, e1, s1⟩ := s.weak hw
  unfold augS at p
  split at p
  · rename_i x hd
    have hi1 : i ∉ ow1 := fun z => hi (hw i z)
    obtain ⟨xv, hx, rx⟩ := s1.sl.2 i x hi1 hd
    refine ⟨xv, hx, s1.toE (ps_er s1 p fun y c2 Hs2 H2 _ F q yv ry => ?_)⟩
    cases ef : fo x y with
    | none => rw [ef] at q; exact q.elim
    | some z =>
      rw [ef, ofO_some, R.ok_bind] at q
      refine hr Hs2 H2 c2 x y xv yv z _ F.sm F.cu (Rl.mono F.ss x xv rx) ry ef fun Hs4 H4 zv F4 rz => ?_
      exact q _ Hs4 H4 ((s1.on (F.trans F4)).asg (asg_nm s1.sl.1 rz) (by simpa using hi1))
  · exact p.elim
/-- a, b = x, y -/
theorem s_par {ms : List (PM D)} (h : PS X s (tPar i j (tA g E ow1 (aD ms)))) (hw : ∀ k ∈ ow1, k ∈ ow := by decide) (hi : i ∉ ow1 := by decide) (hj : j ∉ ow1 := by decide) : DS X g E fx Hs0 H0 ow ow1 s (parS i j ms) := by
  refine PS_imp h fun D σ H ⟨st, c, Hs, s, p⟩ => ?_
  obtain ⟨Hs1, e1, s1⟩ := s.weak hw
  refine ⟨st, c, Hs1, s1.sl, s1.fn.sm, s1.fn.cu, ps_er s1 p fun ds c2 Hs2 H2 _ F q vs rs => ?_⟩
  match ds, rs, q with
  | [x, y], rs, q =>
    obtain ⟨v, u, rfl, r1, r2⟩ := two_of rs
    refine ⟨v, u, rfl, q _ Hs2 H2 (((s1.on F).asg (asg_nm s1.sl.1 r1) (by simpa using hi)).asg (asg_nm (by rw [List.length_set, List.length_set]; exact s1.sl.1) r2) (by simpa using hj))⟩
  | [], rs, q => exact q.elim
  | [_], rs, q => exact q.elim
  | _ :: _ :: _ :: _, rs, q => exact q.elim
theorem s_wh {t : PM Bool} {tst : Expr} (n : Nat) (hp : PassesOwn (model X.prog X.w) X.A X.env X.xe) (ht : DT X g E ow1 tst t) (hb : DB X g E fx Hs0 H0 ow ow b f) (hw : ∀ k ∈ ow1, k ∈ ow := by decide) : DS X g E fx Hs0 H0 ow ow (.While tst b [] pos) (whS t f n) := by
  refine PS_imp (ps_while hp ht hb) fun D σ H ⟨st, c, Hs, s, p⟩ => ?_
  refine ⟨fun k σ' H' => ∃ st' c' Hs', SiS g fx Hs0 H0 ow Hs' H' c' st' σ' ∧ PostS g E fx Hs0 H0 ow D (whS t f k st' c'), ⟨n, st, c, Hs, s, p⟩, ?_⟩
  rintro k σ' H' ⟨st', c', Hs', s', p'⟩
  cases k with
  | zero => exact p'.elim
  | succ k =>
    obtain ⟨Hs1, e1, s1⟩ := s'.weak hw
    refine ⟨st', c', Hs1, s1.sl, s1.fn.sm, s1.fn.cu, ps_er s1 p' fun b c2 Hs2 H2 _ F q => ?_⟩
    have s2 := s'.back e1 F
    cases b with
    | false =>
      rw [if_neg (by decide)] at q
      show if false = true then _ else _
      rw [if_neg (by decide)]
      exact q σ' Hs' H2 s2
    | true =>
      rw [if_pos rfl] at q
      show if true = true then _ else _
      rw [if_pos rfl]
      refine ⟨fun σ3 H3 => ∃ st3 c3 Hs3, SiS g fx Hs0 H0 ow Hs3 H3 c3 st3 σ3 ∧ PostS g E fx Hs0 H0 ow D (whS t f k st3 c3), fun σ3 H3 h3 => ⟨k, Nat.lt_succ_self k, h3⟩, st', c2, Hs', s2, ?_⟩
      cases ef : f st' c2 with
      | no => rw [ef] at q; exact q
      | er x c4 => rw [ef] at q; exact q
      | ok fl c4 =>
        rw [ef, R.ok_bind] at q
        cases fl with
        | nx st4 => exact fun σ4 Hs4 H4 s4 => ⟨st4, c4, Hs4, s4, q⟩
        | rt d => exact q
/-- raise C(e), the error's one field -/
theorem s_ra {C : Addr} {cls fld : Str} {ms : List (PM D)} (h : PS X s (fun _ σ H => tErr C fld (tA g E ow1 (aD ms)) σ H fun cls d H' => E cls d H')) (hC : g.cm cls = C) (hms : ms.length = 1 := by rfl) (hw : ∀ k ∈ ow1, k ∈ ow := by decide) : DS X g E fx Hs0 H0 ow ow' s (raS cls [fld] ms) := by
  refine PS_imp h fun D σ H ⟨st, c, Hs, s, p⟩ => ?_
  obtain ⟨Hs1, e1, s1⟩ := s.weak hw
  refine ⟨st, c, Hs1, s1.sl, s1.fn.sm, s1.fn.cu, ps_er s1 p fun ds c2 Hs2 H2 e F q vs rs => ?_⟩
  have hl := aD_len e
  rw [hms] at hl
  match ds, hl, rs, q with
  | [x], _, rs, q =>
    obtain ⟨v, rfl, r⟩ := one_of rs
    refine ⟨v, rfl, fun d hd => q _ _ (upd Hs2 d (.xd [(fld, v)])) _ (s1.fn.trans (F.trans (Fn.new F.sm F.cu hd))) ⟨by rw [hC], d, _, rfl, upd_same, rfl, ?_⟩⟩
    exact rll_cons.mpr ⟨v, [], rfl, Rl.mono (same_new (F.sm.free hd)) x v r, rll_nil.mpr rfl⟩
end
end L2.G
set_option Elab.async false
set_option linter.all false
set_option maxRecDepth 100000
set_option maxHeartbeats 2000000
namespace L2.G
open PySem PySem.Spec PyProof.Rows L2H
/-! defs by data -/
abbrev Fd := List D → Cu → R D
def fnD (k n : Nat) (f : PM Fl) : Fd := fun ds c => if ds.length = k then (f (ds.map some ++ List.replicate (n - k) none) c).bind fun fl c => match fl with
    | .rt d => .ok d c
    | .nx _ => .ok .non c
  else .no
/-- a def that lets no error out -/
def noE (m : Fd) : Fd := fun ds c => match m ds c with
  | .er _ _ => .no
  | r => r
def NoEr (m : Fd) : Prop := ∀ ds c x c', m ds c ≠ .er x c'
theorem noE_no (m : Fd) : NoEr (noE m) := by
  intro ds c x c' h
  unfold noE at h
  split at h
  · cases h
  · rename_i r hr
    exact hr x c' h
def spD (K : PySem.W.Frag) (cm : Str → Addr) (cs : List Str) (m : Fd) : Sp := fun vs H Q E => ∃ (pc : Pc) (Hs : Hp) (ds : List D) (c : Cu), Same Hs H ∧ CupAt pc Hs H c ∧ RlL ⟨K, cm, cs, pc⟩ Hs ds vs ∧ Post ⟨K, cm, cs, pc⟩ E Hs H (m ds c) fun d _ Hs' H' => ∀ v, Rl ⟨K, cm, cs, pc⟩ Hs' d v → Q v H'
/-- the same for a def of the law: the tables are told -/
def spL (K : PySem.W.Frag) (cm : Str → Addr) (cs : List Str) (T : List (Addr × Str)) (m : Fd) : Sp := fun vs H Q E => ∃ (cup : Option Addr) (Hs : Hp) (ds : List D) (c : Cu), Same Hs H ∧ CupAt ⟨cup, T⟩ Hs H c ∧ RlL ⟨K, cm, cs, ⟨cup, T⟩⟩ Hs ds vs ∧ Post ⟨K, cm, cs, ⟨cup, T⟩⟩ E Hs H (m ds c) fun d _ Hs' H' => ∀ v, Rl ⟨K, cm, cs, ⟨cup, T⟩⟩ Hs' d v → Q v H'
theorem spL_spD {K : PySem.W.Frag} {cm : Str → Addr} {cs : List Str} {T : List (Addr × Str)} {m : Fd} : ∀ vs H Q E, spL K cm cs T m vs H Q E → spD K cm cs m vs H Q E := fun vs H Q E ⟨cup, Hs, ds, c, h⟩ => ⟨⟨cup, T⟩, Hs, ds, c, h⟩
theorem spD_len {K : PySem.W.Frag} {cm : Str → Addr} {cs : List Str} {k n : Nat} {f : PM Fl} : ∀ vs H Q E, spD K cm cs (fnD k n f) vs H Q E → vs.length = k := by
  rintro vs H Q E ⟨pc, Hs, ds, c, _, _, r, p⟩
  rw [r.length]
  unfold fnD at p
  by_cases h : ds.length = k
  · exact h
  · rw [if_neg h] at p
    exact p.elim
theorem spD_lenN {K : PySem.W.Frag} {cm : Str → Addr} {cs : List Str} {k n : Nat} {f : PM Fl} : ∀ vs H Q E, spD K cm cs (noE (fnD k n f)) vs H Q E → vs.length = k := by
  rintro vs H Q E ⟨pc, Hs, ds, c, _, _, r, p⟩
  rw [r.length]
  unfold noE fnD at p
  by_cases h : ds.length = k
  · exact h
  · rw [if_neg h] at p
    exact p.elim
theorem start_len {N : List Str} {vs : List V} : (start N vs).length = vs.length + (N.length - vs.length) := by
  unfold start
  rw [List.length_append, List.length_map, List.length_replicate]
theorem sis_start {g : Ga} {Hs H : Hp} {c : Cu} {ds : List D} {vs : List V} {N : List Str} {k : Nat} (sm : Same Hs H) (cu : CupAt g.pc Hs H c) (r : RlL g Hs ds vs) (hk : ds.length = k) : SiS g [] Hs H [] Hs H c (ds.map some ++ List.replicate (N.length - k) none) (start N vs) := by
  have l := r.length
  refine ⟨Fn.refl sm cu, ⟨?_, fun i d _ e => ?_⟩, fun i hi => absurd hi (by simp), fun i hi => absurd hi (by simp), fun i hi => absurd hi (by simp)⟩
  · rw [start_len, List.length_append, List.length_map, List.length_replicate, l, hk]
  · by_cases hi : i < ds.length
    · rw [List.getElem?_append_left (by rw [List.length_map]; exact hi), List.getElem?_map] at e
      cases hd : ds[i]? with
      | none => rw [hd] at e; cases e
      | some d' =>
        rw [hd] at e
        cases e
        obtain ⟨v, h1, h2⟩ := r.get hd
        refine ⟨v, ?_, h2⟩
        unfold start
        rw [List.getElem?_append_left (by rw [List.length_map]; omega), List.getElem?_map, h1]
        rfl
    · rw [List.getElem?_append_right (by rw [List.length_map]; omega)] at e
      have := List.mem_of_getElem? e
      rw [List.mem_replicate] at this
      cases this.2
theorem post_fn {g : Ga} {E : XK} {Hs H : Hp} {Q : VK} {r : R Fl} {ow : List Nat} (p : Post g E Hs H (r.bind fun fl c => match fl with
    | .rt d => .ok d c
    | .nx _ => .ok .non c) fun d _ Hs' H' => ∀ v, Rl g Hs' d v → Q v H') : PostS g E [] Hs H ow { nx := fun _ H' => Q .non H', rt := Q } r := by
  cases r with
  | no => exact p
  | er x c => exact p
  | ok fl c =>
    cases fl with
    | nx st => exact fun σ' Hs' H' s => p Hs' H' s.fn .non (rl_non.mpr rfl)
    | rt d => exact fun v Hs' H' F r => p Hs' H' F v r
section
variable {P : Program} {w : World} {K : PySem.W.Frag} {mg : Str → Option Value} {base : Heap} {k : Nat} {f : Addr} {fd : FuncData} {ps N : List Str} {cm : Str → Addr} {cs : List Str} {ow : List Nat} {fb : PM Fl} {x qual : Str} {st : Stmt}
/-- a def of the program -/
theorem _root_.L2.Fun.okD (F : Fun K x qual st f fd) (S : FnScope N ps (defScope st))
    (hb : ∀ (cdv : Value) (A : Around) (outer : List Env) (s : Shared) (H Hs : Hp) (E : XK) (pc : Pc), Room k (A.deeper (envOfC qual (defScope st) s.heap.objs.size f cdv)) →
      DB (cxOf (CN P w) P w K mg base N qual (defScope st) f cdv A outer s H E) ⟨K, cm, cs, pc⟩ E [] Hs H [] ow (defBody st) fb) : FnOk P w K mg base (CN P w) (k + 1) f fd ps (spD K cm cs (fnD ps.length N.length fb)) := by
  refine F.okN S spD_len fun cdv A outer s H vs Q E hr h => ?_
  obtain ⟨pc, Hs, ds, c, sm, cu, r, p⟩ := h
  unfold fnD at p
  by_cases hl : ds.length = ps.length
  · rw [if_pos hl] at p
    exact ⟨_, hb cdv A outer s H Hs E pc hr, _, c, Hs, sis_start sm cu r hl, post_fn p⟩
  · rw [if_neg hl] at p
    exact p.elim
/-- a def by its body, its code told -/
theorem _root_.L2.Fun.okGC {sp : Sp} {cdv : Value} (F : Fun K x qual st f fd) (hc : fd.code = cdv) (S : FnScope N ps (defScope st)) (len : ∀ vs H Q E, sp vs H Q E → vs.length = ps.length)
    (hbody : ∀ (A : Around) (outer : List Env) (s : Shared) (H : Hp) (vs : List V) (Q : VK) (E : XK), Quiet (A.deeper (envOfC qual (defScope st) s.heap.objs.size f cdv)) → Room k (A.deeper (envOfC qual (defScope st) s.heap.objs.size f cdv)) → sp vs H Q E →
      ∃ t, PSs (cxOf CX0 P w K mg base N qual (defScope st) f cdv A outer s H E).nox (defBody st) t ∧ t { nx := fun _ H' => Q .non H', rt := Q } (start N vs) H) : FnOkG P w K mg base CX0 (k + 1) f fd ps sp := by
  obtain ⟨oc, od, kV, doc, pm, an, cdv', ct, osl, e, lk, hcd⟩ := F.ex
  subst e
  have e : cdv' = cdv := hc
  subst e
  refine fn_ofG lk hcd S len fun A outer s H vs Q E qt hr hs => ?_
  obtain ⟨t, h, q⟩ := hbody A outer s H vs Q E qt hr hs
  exact ⟨t, h.nox, q⟩
theorem spL_lenN {K : PySem.W.Frag} {cm : Str → Addr} {cs : List Str} {T : List (Addr × Str)} {k n : Nat} {f : PM Fl} : ∀ vs H Q E, spL K cm cs T (noE (fnD k n f)) vs H Q E → vs.length = k := fun vs H Q E h => spD_lenN vs H Q E (spL_spD vs H Q E h)
/-- a def of the law -/
theorem _root_.L2.Fun.okL {T : List (Addr × Str)} {cdv : Value} (F : Fun K x qual st f fd) (hc : fd.code = cdv) (S : FnScope N ps (defScope st))
    (hb : ∀ (A : Around) (outer : List Env) (s : Shared) (H Hs : Hp) (E : XK) (cup : Option Addr), Quiet (A.deeper (envOfC qual (defScope st) s.heap.objs.size f cdv)) → Room k (A.deeper (envOfC qual (defScope st) s.heap.objs.size f cdv)) →
      DB (cxOf CX0 P w K mg base N qual (defScope st) f cdv A outer s H E).nox ⟨K, cm, cs, ⟨cup, T⟩⟩ EF [] Hs H [] ow (defBody st) fb) : FnOkG P w K mg base CX0 (k + 1) f fd ps (spL K cm cs T (noE (fnD ps.length N.length fb))) := by
  refine F.okGC hc S spL_lenN fun A outer s H vs Q E qt hr h => ?_
  obtain ⟨cup, Hs, ds, c, sm, cu, r, p⟩ := h
  unfold noE fnD at p
  by_cases hl : ds.length = ps.length
  · rw [if_pos hl] at p
    refine ⟨_, hb A outer s H Hs E cup qt hr, _, c, Hs, sis_start (g := ⟨K, cm, cs, ⟨cup, T⟩⟩) sm cu r hl, post_fn ?_⟩
    revert p
    cases (fb (ds.map some ++ List.replicate (N.length - ps.length) none) c).bind fun fl c => match fl with
      | .rt d => R.ok d c
      | .nx _ => .ok .non c with
    | no => exact fun z => z
    | ok d c => exact fun z => z
    | er x c => exact fun z => z.elim
  · rw [if_neg hl] at p
    exact p.elim
end
section
variable {X : Cx} {g : Ga} {E : XK} {hid : List Nat} {ms : List (PM D)} {mo : PM D} {m : Fd} {x name C : Str} {k j : Nat} {p pos apos : Pos} {e o : Expr} {es : List Expr}
theorem call_of {H : Hp} {Hs : Hp} {c : Cu} {ds : List D} {vs : List V} {Q : VK} (sm : Same Hs H) (cu : CupAt g.pc Hs H c) (r : RlL g Hs ds vs) (p : Post g E Hs H (m ds c) fun d _ Hs' H' => ∀ v, Rl g Hs' d v → Q v H') : spD g.K g.cm g.cs m vs H Q E := ⟨g.pc, Hs, ds, c, sm, cu, r, p⟩
/-- f(e, ..), f of the program -/
theorem d_ca (c : CalN X.prog X.w X.K X.mg X.base k x (spD g.K g.cm g.cs m)) (hx : Passes (CN X.prog X.w) X E) (hr : Room j X.A) (hk : k ≤ j) (hg : Gl X x) (ha : DA X g E hid (e :: es) (aD ms))
    (hdb : (x == ("__debug__" : Str)) = false := by decide) (he : starEach (e :: es) X.env = (false, eval e X.env) :: starEach es X.env := by rfl) (hpl : (backTo pos (starEach es X.env)).any (·.1) = false := by rfl) :
    DE X g E hid (.Call (.Name x p) (e :: es) [] pos) (caD m ms) :=
  PE_imp (pe_cN c hx hr hk hg ha hdb he hpl) fun σ H Q ⟨st, c, Hs, sl, sm, cu, p⟩ => ⟨st, c, Hs, sl, sm, cu, (Post.bind p).mono fun ds c1 Hs1 H1 _ F1 q vs rs => by
    show spD g.K g.cm g.cs m (vs ++ []) H1 Q E
    rw [List.append_nil]
    exact call_of F1.sm F1.cu rs q⟩
/-- f(e, ..), f of the law -/
theorem d_cl (c : CalG X.prog X.w X.K X.mg X.base k x (spL g.K g.cm g.cs g.pc.tabs m)) (hm : NoEr m) (qt : Quiet X.A) (hr : Room j X.A) (hk : k ≤ j) (hg : Gl X x) (ha : DA X g E hid (e :: es) (aD ms))
    (hdb : (x == ("__debug__" : Str)) = false := by decide) (he : starEach (e :: es) X.env = (false, eval e X.env) :: starEach es X.env := by rfl) (hpl : (backTo pos (starEach es X.env)).any (·.1) = false := by rfl) :
    DE X g E hid (.Call (.Name x p) (e :: es) [] pos) (caD m ms) := by
  refine PE_imp (pe_cG c qt hr hk hg ha hdb he hpl) fun σ H Q ⟨st, c, Hs, sl, sm, cu, p⟩ => ⟨st, c, Hs, sl, sm, cu, (Post.bind p).mono fun ds c1 Hs1 H1 _ F1 q vs rs => ?_⟩
  show spL g.K g.cm g.cs g.pc.tabs m (vs ++ []) H1 Q E0
  rw [List.append_nil]
  refine ⟨g.pc.cup, Hs1, ds, c1, F1.sm, F1.cu, rs, ?_⟩
  cases er : m ds c1 with
  | no => rw [er] at q; exact q
  | ok d c => rw [er] at q; exact q
  | er y c => exact absurd er (hm ds c1 y c)
/-! methods, properties, fields -/
def meD (C name : Str) (m : Fd) (mo : PM D) (ms : List (PM D)) : PM D := fun st c => (mo st c).bind fun o c => match o with
  | .ins C' ns _ => if C' = C ∧ name ∉ ns then (aD ms st c).bind fun xs c => m (o :: xs) c else .no
  | _ => .no
def prD (C : Str) (m : Fd) (mo : PM D) : PM D := fun st c => (mo st c).bind fun o c => match o with
  | .ins C' _ _ => if C' = C then m [o] c else .no
  | _ => .no
def fldF (C f : Str) : D → Option D
  | .ins C' ns ds => if C' = C then (ns.zip ds).lookup f else none
  | _ => none
theorem lookup_of {g : Ga} {Hs : Hp} {name : Str} : ∀ {gs : List (Str × V)} {ns : List Str} {ds : List D}, gs.map (·.1) = ns → RlL g Hs ds (gs.map (·.2)) →
    (name ∉ ns → gs.lookup name = none) ∧ ∀ d, (ns.zip ds).lookup name = some d → ∃ v, gs.lookup name = some v ∧ Rl g Hs d v
  | [], ns, ds, h, r => by
    subst h
    exact ⟨fun _ => rfl, fun d e => by simp at e⟩
  | (n, v) :: gs, ns, ds, h, r => by
    subst h
    cases ds with
    | nil =>
      have := r.length
      simp at this
    | cons d ds =>
      obtain ⟨v', r', e, h1, h2⟩ := rll_cons.mp r
      simp only [List.map_cons, List.cons.injEq] at e
      obtain ⟨rfl, rfl⟩ := e
      obtain ⟨i1, i2⟩ := lookup_of (name := name) rfl h2
      constructor
      · intro hn
        simp only [List.map_cons, List.mem_cons, not_or] at hn
        rw [List.lookup_cons]
        have : (name == n) = false := by simpa using hn.1
        rw [this]
        exact i1 hn.2
      · intro d' e
        rw [List.map_cons, List.zip_cons_cons, List.lookup_cons] at e
        rw [List.lookup_cons]
        by_cases z : name = n
        · subst z
          simp only [beq_self_eq_true, cond_true] at e ⊢
          cases e
          exact ⟨v, rfl, h1⟩
        · have : (name == n) = false := by simpa using z
          rw [this] at e ⊢
          exact i2 d' e
structure PrpN (P : Program) (w : World) (K : PySem.W.Frag) (mg : Str → Option Value) (base : Heap) (k : Nat) (C : Addr) (m : Str) (sp : Sp) : Prop where
  ex : ∃ (p f : Addr) (fd : FuncData) (ps : List Str), Cls K C ∧ PropOf K C m p f ∧ FnOk P w K mg base (CN P w) k f fd ps sp ∧ Binds K fd ps []
/-- o.m(e, ..) -/
theorem d_me {pl : Sem Bool} (c : MetN X.prog X.w X.K X.mg X.base k (g.cm C) name (spD g.K g.cm g.cs m)) (hx : Passes (CN X.prog X.w) X E) (hr : Room j X.A) (hk : k ≤ j) (ho : DE X g E hid o mo) (ha : DA X g E hid (e :: es) (aD ms))
    (hst : starEach (e :: es) X.env = (false, eval e X.env) :: starEach es X.env := by rfl) (hpl : (backTo pos (starEach es X.env)).any (·.1) = false := by rfl)
    (ht : eval (.Call (.Attribute o name apos) (e :: es) [] pos) X.env = (do
      let ov ← eval o X.env
      standAt apos.atName
      let (f, first) ← holding [ov] (getMethod ov name pl)
      callWith pos f first (backTo pos (starEach (e :: es) X.env)) (backToKw pos (keywordEach [] X.env))) := by rfl) :
    DE X g E hid (.Call (.Attribute o name apos) (e :: es) [] pos) (meD C name m mo ms) := by
  refine PE_imp (pe_mtN (pl := pl) c hx hr hk ho ha hst hpl ht) fun σ H Q ⟨st, c, Hs, sl, sm, cu, p⟩ => ⟨st, c, Hs, sl, sm, cu, (Post.bind p).mono fun x c1 Hs1 H1 _ F1 q v1 r1 => ?_⟩
  cases x with
  | ins C' ns ds =>
    dsimp only at q
    split at q
    · rename_i h
      obtain ⟨rfl, hn⟩ := h
      obtain ⟨hC, a, dx, gs, rfl, ha, h1, h2⟩ := rl_ins.mp r1
      refine ⟨a, dx, gs, rfl, F1.sm _ _ ha, (lookup_of h1 h2).1 hn, st, c1, Hs1, sl.mono F1.ss, F1.sm, F1.cu, (Post.bind q).mono fun xs c2 Hs2 H2 _ F2 q2 vs rs => ?_⟩
      show spD g.K g.cm g.cs m (_ :: (vs ++ [])) H2 Q E
      rw [List.append_nil]
      exact call_of F2.sm F2.cu (rll_cons.mpr ⟨_, _, rfl, Rl.mono F2.ss _ _ r1, rs⟩) q2
    · exact q.elim
  | _ => exact q.elim
/-- o.f, f a property -/
theorem d_pr (c : PrpN X.prog X.w X.K X.mg X.base k (g.cm C) name (spD g.K g.cm g.cs (noE m))) (hr : Room j X.A) (hk : k + 1 ≤ j) (ho : DE X g E hid o mo) (hab : attributeBase o name X.env (eval o X.env) = eval o X.env := by rfl) :
    DE X g E hid (.Attribute o name pos) (prD C (noE m) mo) := by
  obtain ⟨p, f, fd, ps, cl, hp, F, b⟩ := c.ex
  refine PE_imp (pe_prop ho cl hp F (hr.mono hk) b .nil (ps0 (X := X.nox)) hab) fun σ H Q ⟨st, c, Hs, sl, sm, cu, p⟩ => ⟨st, c, Hs, sl, sm, cu, (Post.bind p).mono fun x c1 Hs1 H1 _ F1 q v1 r1 => ?_⟩
  cases x with
  | ins C' ns ds =>
    dsimp only at q
    split at q
    · rename_i h
      obtain ⟨hC, a, dx, gs, rfl, ha, h1, h2⟩ := rl_ins.mp r1
      rw [h] at ha
      refine ⟨a, dx, gs, rfl, F1.sm _ _ ha, call_of F1.sm F1.cu (rll_cons.mpr ⟨_, _, rfl, r1, rll_nil.mpr rfl⟩) ?_⟩
      cases er : noE m [D.ins C' ns ds] c1 with
      | no => rw [er] at q; exact q
      | ok d c => rw [er] at q; exact q
      | er y c => exact absurd er (noE_no m _ c1 y c)
    · exact q.elim
  | _ => exact q.elim
/-- o.f, a field -/
theorem d_fl (cl : Cls X.K (g.cm C)) (n : NoAttr X.K (g.cm C) name) (ho : DE X g E hid o mo) (hab : attributeBase o name X.env (eval o X.env) = eval o X.env := by rfl) : DE X g E hid (.Attribute o name pos) (unD (fldF C name) mo) := by
  refine PE_imp (pe_fld ho hab) fun σ H Q ⟨st, c, Hs, sl, sm, cu, p⟩ => ⟨st, c, Hs, sl, sm, cu, (Post.bind p).mono fun x c1 Hs1 H1 _ F1 q v1 r1 => ?_⟩
  cases x with
  | ins C' ns ds =>
    unfold fldF at q
    dsimp only at q
    split at q
    · rename_i h
      subst h
      obtain ⟨hC, a, dx, gs, rfl, ha, h1, h2⟩ := rl_ins.mp r1
      cases el : (ns.zip ds).lookup name with
      | none => rw [el] at q; exact q.elim
      | some d =>
        rw [el] at q
        obtain ⟨v, e1, e2⟩ := (lookup_of h1 h2).2 d el
        exact ⟨a, _, dx, gs, v, rfl, F1.sm _ _ ha, cl, n, e1, q Hs1 H1 (Fn.refl F1.sm F1.cu) v e2⟩
    · exact q.elim
  | _ => exact q.elim
end
end L2.G
set_option Elab.async false
set_option linter.all false
set_option maxRecDepth 100000
set_option maxHeartbeats 2000000
namespace L2.G
open PySem PySem.Spec PyProof.Rows L2H
def mulI : D → D → Option D
  | .int i, .int j => if (-(2 ^ 64) < i ∧ i < 2 ^ 64) ∨ (-(2 ^ 64) < j ∧ j < 2 ^ 64) then some (.int (i * j)) else none
  | _, _ => none
def addI : D → D → Option D
  | .int i, .int j => some (.int (i + j))
  | .str a, .str b => if a.length + b.length ≤ sizeLine then some (.str (a ++ b)) else none
  | _, _ => none
section
variable {X : Cx} {g : Ga} {E : XK} {hid ow ow' ow1 : List Nat} {fx : List (Nat × V)} {Hs0 H0 : Hp} {s : Stmt} {i : Nat} {pos : Pos}
theorem io_mul : OpD X g (inplaceOp .Mult) mulI := ⟨_, iop_mul, rd_int fun x y d e => by
  cases x <;> cases y <;> simp only [mulI, Option.ite_none_right_eq_some, Option.some.injEq, reduceCtorEq] at e
  exact ⟨_, _, rfl, rfl, e.1, e.2.symm⟩⟩
theorem io_add : OpD X g (inplaceOp .Add) addI := by
  refine ⟨_, iop_add.or iop_add_str, ?_⟩
  intro Hs H c x y v u d Q sm cu rx ry e q
  cases x with
  | int i =>
    cases y <;> simp only [addI, Option.some.injEq, reduceCtorEq] at e
    subst e
    exact .inl ⟨_, _, rl_int.mp rx, rl_int.mp ry, q Hs H _ (Fn.refl sm cu) (rl_int.mpr rfl)⟩
  | str a =>
    cases y <;> simp only [addI, Option.ite_none_right_eq_some, Option.some.injEq, reduceCtorEq] at e
    obtain ⟨h, rfl⟩ := e
    obtain ⟨rfl, h1⟩ := rl_str.mp rx
    obtain ⟨rfl, h2⟩ := rl_str.mp ry
    exact .inr ⟨_, _, rfl, rfl, h, q Hs H _ (Fn.refl sm cu) (rl_str.mpr ⟨rfl, txtOk_app h1 h2 h⟩)⟩
  | _ => simp [addI] at e
def neS : PM Fl := fun _ _ => .no
theorem s_never : DS X g E fx Hs0 H0 ow ow' s neS := PS_imp ps_never fun D σ H ⟨st, c, Hs, s, p⟩ => p
theorem s_retN : DS X g E fx Hs0 H0 ow ow' (.Return none pos) (retS (cD .non)) := PS_imp ps_retN fun D σ H ⟨st, c, Hs, s, p⟩ => p .non Hs H s.fn (rl_non.mpr rfl)
/-- name = [..] -/
theorem ps_lco {t : Tg} {ws : List Nat} {it : PM (List D)} {test : PM Bool} {me : PM D} (hw : ∀ i ∈ tgS t, i ∈ ws) (h : PS X s (tAsg (tLc (tI g E hid it) (gOf g.K t) (tT g EF hid test) (tE g EF hid me) ws) (gName i))) : PS X s (tAsg (tE g E hid (lcD t ws it test me)) (gName i)) :=
  PS_imp h fun D σ H q => lc_of hw (own_of q)
theorem ps_lcw {t : Tg} {ws : List Nat} {it : PM (List D)} {test : PM Bool} {me : PM D} (hw : ∀ i ∈ tgS t, i ∈ ws) (h : PS X s (tAsg (tLc (tI g E hid it) (gOf g.K t) (tT g EF hid test) (tE g EF hid me) ws) (gName i))) : PS X s (tAsg (tEo g E hid (lcD t ws it test me)) (gName i)) :=
  PS_imp h fun D σ H q => lc_of hw q
end
theorem owN {P : Program} {w : World} {K : PySem.W.Frag} {mg : Str → Option Value} {base : Heap} {N : List Str} {qual : Str} {sc : Scope} {f : Addr} {cdv : Value} {A : Around} {outer : List Env} {s : Shared} {H : Hp} {E : XK} :
    PassesOwn (model P w) (cxOf (CN P w) P w K mg base N qual sc f cdv A outer s H E).A (cxOf (CN P w) P w K mg base N qual sc f cdv A outer s H E).env (cxOf (CN P w) P w K mg base N qual sc f cdv A outer s H E).xe := passes_of rfl
theorem fnok_imp {P : Program} {w : World} {K : PySem.W.Frag} {mg : Str → Option Value} {base : Heap} {CX : CXT} {k : Nat} {f : Addr} {fd : FuncData} {ps : List Str} {sp sp' : Sp} (F : FnOk P w K mg base CX k f fd ps sp) (h : ∀ vs H Q E, sp' vs H Q E → sp vs H Q E) : FnOk P w K mg base CX k f fd ps sp' :=
  ⟨fun vs H Q E q => F.len vs H Q E (h vs H Q E q), fun A outer s H args us vs Q E hr e0 b r q => F.run A outer s H args us vs Q E hr e0 b r (h vs H Q E q)⟩
theorem spD_noE {K : PySem.W.Frag} {cm : Str → Addr} {cs : List Str} {m : Fd} : ∀ vs H Q E, spD K cm cs (noE m) vs H Q E → spD K cm cs m vs H Q E := by
  rintro vs H Q E ⟨pc, Hs, ds, c, h1, h2, h3, p⟩
  refine ⟨pc, Hs, ds, c, h1, h2, h3, ?_⟩
  unfold noE at p
  cases e : m ds c with
  | no => rw [e] at p; exact p
  | ok a c => rw [e] at p; exact p
  | er x c => rw [e] at p; exact p.elim
end L2.G
set_option Elab.async false
set_option linter.all false
set_option maxRecDepth 100000
set_option maxHeartbeats 2000000
namespace L2.G
open PySem PySem.Spec PyProof.Rows L2H
open Sem (wp)
/-! enumerate(v), zip(v, u) of anything that begins -/
set_option maxHeartbeats 4000000 in
theorem en1_new {v : Value} {ob : Obj} {HH : Heap → Prop} (B : Begins v ob HH) : Meets (Builtin.«enumerate.__new__» ⟨[.type "enumerate", v], []⟩) (fun _ Rs s0 => HH s0.heap ∧
    Rs (.ok (.ret (.ref (s0.heap.push ob).objs.size))) { s0 with heap := (s0.heap.push ob).push { cls := .type "enumerate", data := .fields #[.none, .bool false, .ref s0.heap.objs.size, rawInt 0, .none, .none] } }) :=
  .of_wp fun pr wo Ar Rs s0 hyp => by
    obtain ⟨hp0, g0, d0, tk0, os0⟩ := s0
    obtain ⟨hyp1, hyp⟩ := hyp
    have hsub := sub_enumerate
    have go1 : ∀ {A1 : Around} {E1 : Value → Shared → Prop} {Q1 : Value → Shared → Prop}, Q1 (.ref hp0.objs.size) ⟨hp0.push ob, g0, d0, tk0, os0⟩ → wpAny (model pr wo) A1 (pyIter v) Q1 E1 ⟨hp0, g0, d0, tk0, os0⟩ :=
      fun q => B.iter pr wo _ _ ⟨hp0, g0, d0, tk0, os0⟩ _ hyp1 q
    wp_walk using go1
    refine wpAny_stack_any fun stk => wpAny_pure ?_
    split
    · rename_i cc _ _ _ _ _
      rcases (cc == Value.type "enumerate") <;> (wp_walk using go1; exact ⟨_, rfl, hyp⟩)
    · wp_walk using go1
      exact ⟨_, rfl, hyp⟩
theorem en1_call {pr : Program} {wo : World} {Ar : Around} {E1 : Value → Shared → Prop} {s0 : Shared} {v : Value} {ob : Obj} {HH : Heap → Prop} {Q1 : Value → Shared → Prop} (B : Begins v ob HH) (hyp1 : HH s0.heap)
    (hyp : ∀ hp, IsEnum hp (s0.heap.objs.size + 1) s0.heap.objs.size 0 .none → hp.get? s0.heap.objs.size = some ob → hp.objs.size = s0.heap.objs.size + 2 → (∀ b o, s0.heap.get? b = some o → hp.get? b = some o) → Q1 (.ref (s0.heap.objs.size + 1)) { s0 with heap := hp }) :
    wpAny (model pr wo) Ar (call (.type "enumerate") [v]) Q1 E1 s0 := by
  refine callType_new F.called_enumerate (by decide) (F.typeCall_enumerate_1 _) (F.newCall_enumerate_1 _) (fun obj => F.args_object_init_2 obj _) F.entry_enumerate_new (en1_new B) ⟨hyp1, ?_⟩
  have size1 : (s0.heap.push ob).objs.size = s0.heap.objs.size + 1 := Heap.size_push ..
  show _ ∧ _
  rw [size1]
  have isE : IsEnum ((s0.heap.push ob).push { cls := .type "enumerate", data := .fields #[.none, .bool false, .ref s0.heap.objs.size, rawInt 0, .none, .none] }) (s0.heap.objs.size + 1) s0.heap.objs.size 0 .none := by
    have at1 := Heap.get?_push_size (s0.heap.push ob) (o := { cls := .type "enumerate", data := .fields #[.none, .bool false, .ref s0.heap.objs.size, rawInt 0, .none, .none] }) rfl
    rw [size1] at at1
    exact at1
  exact ⟨⟨_, isE, rfl⟩, hyp _ isE (Heap.get?_push_of_some _ (Heap.get?_push_size _ B.free)) (by rw [Heap.size_push, size1]) fun b o x => Heap.get?_push_of_some _ (Heap.get?_push_of_some _ x)⟩
/-- the iterator at it over the values xs, while G stands -/
structure Inr (K : PySem.W.Frag) (it : Addr) (G : Hp → Prop) (xs : List V) (tn : Nat → Heap → Prop) : Prop where
  obj : ∀ i h, tn i h → ∃ o, h.get? it = some o ∧ ∀ v, o.data ≠ .cell v
  keep : ∀ i h h', tn i h → (∀ o, h.get? it = some o → h'.get? it = some o) → tn i h'
  dr : ∀ (X : Cx) (pins : List (Addr × Obj)) (s : Shared) (σ : St) (H : Hp), Inv X pins σ H s → X.K = K → X.calm = true → G H → ∃ fp P St, Draws X.prog X.w X.A.in1 it fp xs.length P St ∧
    it ∈ fp ∧ (∀ b ∈ fp, b = it ∨ ∃ o, s.heap.get? b = some o ∧ o.cls = .type "tuple" ∧ (H b ≠ none ∨ ∃ o', X.K.lookup b = some o')) ∧ (∀ i, tn i s.heap → St i s.heap) ∧ (∀ i h, St i h → tn i h) ∧ ∀ i v, P i v → ∃ x, xs[i]? = some x ∧ RelV x v
/-- each with its number in a new pair -/
def ItE2 (G : Hp → Prop) (xs : List V) : It := ⟨fun i H => G H ∧ i < xs.length, fun i H v H' => ∃ T x, v = .ref T ∧ H T = none ∧ H' = upd H T (.tup [.int (i : Nat), x]) ∧ xs[i]? = some x, fun i H => G H ∧ i = xs.length⟩
theorem turn_en2 {P : Program} {w : World} {K : PySem.W.Frag} {elts : List Expr} {kk : Nat} {tpos : Pos} {G : Hp → Prop} {xs : List V} {tn : Nat → Heap → Prop} (en it : Addr) (R : Inr K it G xs tn) :
    Turn P w K (.Tuple elts kk tpos) (ItE2 G xs) [en, it] en (fun i h => (∃ old, IsEnum h en it ((i : Nat) : Int) old) ∧ tn i h ∧ en ≠ it) where
  mem := by simp
  obj := by
    rintro i h ⟨⟨old, he⟩, ti, _⟩ b hb
    rcases (show b = en ∨ b = it by simpa using hb) with z | z
    · refine ⟨_, by rw [z]; exact he, fun v q => ?_⟩
      cases q
    · rw [z]
      exact R.obj i h ti
  keep := by
    rintro i h h' ⟨⟨old, he⟩, ti, ne⟩ kp
    exact ⟨⟨old, kp en (by simp) _ he⟩, R.keep i h h' ti fun o q => kp it (by simp) o q, ne⟩
  item := by
    rintro X hP hw hK hc i pins s σ H E I hf ⟨⟨old, he⟩, ti, ne⟩ ⟨hG, hi⟩
    subst hP hw
    obtain ⟨fp, Pv, Sv, D, mem, out, to, back, val⟩ := R.dr X pins s σ H I hK hc hG
    have enf : en ∉ fp := fun z => by
      rcases out en z with z | ⟨o, ho, hcl, _⟩
      · exact ne z
      · rw [show s.heap.get? en = _ from he] at ho
        have e2 := congrArg Obj.cls (Option.some.inj ho)
        rw [hcl] at e2
        exact absurd e2 (by simp)
    have lt1 : en < s.heap.objs.size := Heap.lt_size he
    have lt2 : it < s.heap.objs.size := by
      obtain ⟨o, ho, _⟩ := R.obj i _ ti
      exact Heap.lt_size ho
    refine wpAny_pyNext_enum_itemD D he (to i ti) hi ne enf fun u h1 tk hu out1 st1 at1 sz1 kp1 => ?_
    obtain ⟨x, hx, rx⟩ := val i u hu
    refine ⟨_, rfl, wpAny_letOwnedTupleGo_enum (s := { s with heap := h1, toks := tk + 1 }) out1 fun h2 he2 sb => ?_⟩
    have at2 : h2.get? s.heap.objs.size = some { cls := .type "tuple", data := .seq #[.int i tk, u] } := (sb.2 _ (Nat.ne_of_gt lt1)).trans at1
    have nw : ObjOk X.prog X.w (upd H s.heap.objs.size (.tup [.int (i : Nat), x])) h2 s.heap.objs.size (.tup [.int (i : Nat), x]) :=
      ⟨by show 2 ≤ sizeLine; decide, [.int i tk, u], .cons ⟨_, rfl⟩ (.cons rx .nil), ⟨_, at2, rfl, _, rfl⟩⟩
    have J : Inv X pins σ (upd H s.heap.objs.size (.tup [.int (i : Nat), x])) { s with heap := h2, toks := tk + 1 } :=
      I.turnedNew (ch := [en, it]) (fun b o hb q => (sb.2 b (fun z => hb (by simp [z]))).trans (kp1 b o (fun z => hb (by simp [z])) (fun z => hb (by simp [z])) q)) hf (Nat.le_refl _) nw
    refine ⟨.ref s.heap.objs.size, _, J, rfl, ⟨_, x, rfl, I.hok.fresh (Nat.le_refl _), rfl, hx⟩, ⟨⟨u, ?_⟩, R.keep _ _ _ (back _ _ st1) fun o q => (sb.2 it (Ne.symm ne)).trans q, ne⟩, fun b hb => ?_⟩
    · have e1 : ((i + 1 : Nat) : Int) = (i : Int) + 1 := by omega
      rw [e1]
      exact he2
    · have hb2 : b < s.heap.objs.size := by
        rcases (show b = en ∨ b = it by simpa using hb) with z | z
        · rw [z]; exact lt1
        · rw [z]; exact lt2
      rw [upd_ne (Nat.ne_of_lt hb2)]
      exact (hf b hb).1
  done := by
    rintro X hP hw hK hc i pins s σ H E I hf ⟨⟨old, he⟩, ti, ne⟩ ⟨hG, rfl⟩
    subst hP hw
    obtain ⟨fp, Pv, Sv, D, mem, out, to, back, val⟩ := R.dr X pins s σ H I hK hc hG
    obtain ⟨f0, f1, f2, f3, f4, f5⟩ := hf it (by simp)
    exact wpAny_pyNext_enum_endD D he (to _ ti) fun h' eb => ⟨rfl, I.turned (t' := s.toks) (fun b o hb q => eb b o hb q) f0 f1 f3 f4 f5⟩
  self := fun A i s Q E st h => by
    obtain ⟨⟨_, he⟩, _⟩ := st
    exact wpAny_pyIter_enum he h
theorem walk_en2 {G : Hp → Prop} {xs : List V} : Walk (ItE2 G xs) xs.length G (YPair (fun i => some (.int (i : Nat))) (fun i => xs[i]?)) := by
  refine ⟨fun i H hi g => ⟨g, hi⟩, fun H g => ⟨g, rfl⟩, fun i H v H' _ g y => ?_⟩
  obtain ⟨T, x, h1, h2, h3, h4⟩ := y
  exact ⟨T, .int (i : Nat), x, h1, h2, h3, rfl, h4⟩
/-- a tuple -/
theorem inr_tup {K : PySem.W.Frag} {it a : Addr} {xs : List V} (ne : a ≠ it) : Inr K it (fun H => SqT K H a xs) xs (fun i h => h.IsTupleIter it a i) where
  obj := fun i h st => by
    obtain ⟨o, e, c, d⟩ := st
    exact ⟨o, e, fun v z => by rw [d] at z; cases z⟩
  keep := fun i h h' st k => st.at fun o e => k o e
  dr := fun X pins s σ H I hK hc g => by
    subst hK
    obtain ⟨its, rv, p, hz⟩ := I.tuple g
    have hl := rv.length
    have D := Draws.tuple (prog := X.prog) (w := X.w) (A := X.A.in1) (I.ok.hd hc) it a ne its.toArray
    rw [List.size_toArray, ← hl] at D
    refine ⟨[it, a], _, _, D, by simp, fun b hb => ?_, fun i ti => ⟨ti, p⟩, fun i h st => st.1, fun i v hv => ?_⟩
    · rcases (show b = it ∨ b = a by simpa using hb) with z | z
      · exact .inl z
      · obtain ⟨o, ho, hcl, _⟩ := p
        refine .inr ⟨o, by rw [z]; exact ho, hcl, ?_⟩
        rcases g with (g | ⟨o', g⟩) | ⟨o', _, _, g, _⟩
        · exact .inl (by rw [z, g]; simp)
        · exact .inl (by rw [z, g]; simp)
        · exact .inr ⟨o', by rw [z]; exact g⟩
    · have hv' : its[i]? = some v := by simpa using hv
      have hi := (List.getElem?_eq_some_iff.mp hv').1
      obtain ⟨u, hu, ru⟩ := rv.get (i := i) (x := xs[i]'(by omega)) (by simp [show i < xs.length by omega])
      rw [hv'] at hu
      cases hu
      exact ⟨_, by simp [show i < xs.length by omega], ru⟩
/-- a text -/
theorem inr_str {K : PySem.W.Frag} {it : Addr} {z : Str} {tk : Tok} : Inr K it (fun _ => True) (z.cps.toList.map fun c => V.str ⟨#[c]⟩) (fun i h => h.IsStrIter it (strIterType z) z tk i) where
  obj := fun i h st => by
    obtain ⟨o, e, c, d⟩ := st
    exact ⟨o, e, fun v z => by rw [d] at z; cases z⟩
  keep := fun i h h' st k => by
    obtain ⟨o, ho, r⟩ := st
    exact ⟨o, k o ho, r⟩
  dr := fun X pins s σ H I hK hc g => by
    have e0 : (z.cps.toList.map fun c => V.str ⟨#[c]⟩).length = z.cps.size := by rw [List.length_map, Array.length_toList]
    rw [e0]
    refine ⟨[it], _, _, Draws.text (prog := X.prog) (w := X.w) (A := X.A.in1) (I.ok.hd hc) it z tk, by simp, fun b hb => .inl (by simpa using hb), fun i ti => ti, fun i h st => st, fun i v hv => ?_⟩
    obtain ⟨c, u, hc, rfl⟩ := hv
    have hk' : z.cps.toList[i]? = some c := by rw [Array.getElem?_toList]; exact hc
    exact ⟨.str ⟨#[c]⟩, by rw [List.getElem?_map, hk']; rfl, ⟨u, rfl⟩⟩
/-- pairs of two walks -/
def ItZ2 (G : Hp → Prop) (xs ys : List V) : It := ⟨fun i H => G H ∧ i < xs.length ∧ i < ys.length, fun i H v H' => ∃ T x y, v = .ref T ∧ H T = none ∧ H' = upd H T (.tup [x, y]) ∧ xs[i]? = some x ∧ ys[i]? = some y, fun i H => G H ∧ i = min xs.length ys.length⟩
theorem turn_zp2 {P : Program} {w : World} {K : PySem.W.Frag} {elts : List Expr} {kk : Nat} {tpos : Pos} {xs ys : List V} {t1 t2 : Nat → Heap → Prop} {z TI TO i1 i2 : Addr}
    (R1 : Inr K i1 (fun _ => True) xs t1) (R2 : Inr K i2 (fun _ => True) ys t2) (S : ZipSep2 z TI TO i1 i2 [i1] [i2]) (f1 : ∀ (X : Cx) (pins : List (Addr × Obj)) (s : Shared) (σ : St) (H : Hp), Inv X pins σ H s → X.K = K → X.calm = true → ∃ Pv, Draws X.prog X.w X.A.in1 i1 [i1] xs.length Pv t1 ∧ ∀ i v, Pv i v → ∃ x, xs[i]? = some x ∧ RelV x v)
    (f2 : ∀ (X : Cx) (pins : List (Addr × Obj)) (s : Shared) (σ : St) (H : Hp), Inv X pins σ H s → X.K = K → X.calm = true → ∃ Pv, Draws X.prog X.w X.A.in1 i2 [i2] ys.length Pv t2 ∧ ∀ i v, Pv i v → ∃ x, ys[i]? = some x ∧ RelV x v) :
    Turn P w K (.Tuple elts kk tpos) (ItZ2 (fun _ => True) xs ys) [z, TI, TO, i1, i2] z (fun i h => IsZip h z TI TO .none ∧ IsTupOf2 h TI (.ref i1) (.ref i2) ∧ (∃ a1 a2, IsTupOf2 h TO a1 a2) ∧ t1 i h ∧ t2 i h) where
  mem := by simp
  obj := by
    rintro i h ⟨hz, hT, ⟨a1, a2, hO⟩, h1, h2⟩ b hb
    rcases (show b = z ∨ b = TI ∨ b = TO ∨ b = i1 ∨ b = i2 by simpa using hb) with q | q | q | q | q
    · refine ⟨_, by rw [q]; exact hz, fun v r => ?_⟩
      cases r
    · refine ⟨_, by rw [q]; exact hT, fun v r => ?_⟩
      cases r
    · refine ⟨_, by rw [q]; exact hO, fun v r => ?_⟩
      cases r
    · rw [q]; exact R1.obj i h h1
    · rw [q]; exact R2.obj i h h2
  keep := by
    rintro i h h' ⟨hz, hT, ⟨a1, a2, hO⟩, h1, h2⟩ kp
    exact ⟨kp z (by simp) _ hz, kp TI (by simp) _ hT, ⟨a1, a2, kp TO (by simp) _ hO⟩, R1.keep i h h' h1 fun o q => kp i1 (by simp) o q, R2.keep i h h' h2 fun o q => kp i2 (by simp) o q⟩
  item := by
    rintro X hP hw hK hc i pins s σ H E I hf ⟨hz, hT, ⟨a1, a2, hO⟩, h1, h2⟩ ⟨_, l1, l2⟩
    subst hP hw
    obtain ⟨P1, D1, v1⟩ := f1 X pins s σ H I hK hc
    obtain ⟨P2, D2, v2⟩ := f2 X pins s σ H I hK hc
    have zl : z < s.heap.objs.size := Heap.lt_size hz
    refine wpAny_pyNext_zipD2_item S D1 D2 hz hT hO h1 h2 l1 l2 fun u1 u2 hp tk p1 p2 z1 O1 n1 n2 at1 sz kp => ?_
    obtain ⟨x, hx, rx⟩ := v1 i u1 p1
    obtain ⟨y, hy, ry⟩ := v2 i u2 p2
    refine ⟨_, rfl, wpAny_letOwnedTupleGo_zip (s := { s with heap := hp, toks := tk }) z1 fun h3 z3 sb => ?_⟩
    have at3 : h3.get? s.heap.objs.size = some { cls := .type "tuple", data := .seq #[u1, u2] } := (sb.2 _ (Nat.ne_of_gt zl)).trans at1
    have nw : ObjOk X.prog X.w (upd H s.heap.objs.size (.tup [x, y])) h3 s.heap.objs.size (.tup [x, y]) :=
      ⟨by show 2 ≤ sizeLine; decide, [u1, u2], .cons rx (.cons ry .nil), ⟨_, at3, rfl, _, rfl⟩⟩
    have J : Inv X pins σ (upd H s.heap.objs.size (.tup [x, y])) { s with heap := h3, toks := tk } :=
      I.turnedNew (ch := [z, TI, TO, i1, i2]) (fun c o hb q => (sb.2 c (fun r => hb (by simp [r]))).trans (kp c o (fun r => hb (by simp [r])) (fun r => hb (by simp [r])) (fun r => hb (by simp [r])) (fun r => hb (by simp [r])) q)) hf (Nat.le_refl _) nw
    refine ⟨.ref s.heap.objs.size, _, J, rfl, ⟨_, x, y, rfl, I.hok.fresh (Nat.le_refl _), rfl, hx, hy⟩, ⟨z3, ?_, ⟨u1, u2, ?_⟩, ?_, ?_⟩, fun c hcm => ?_⟩
    · exact (sb.2 _ S.TIz).trans (kp _ _ S.TIz S.TITO S.TIi1 S.TIi2 hT)
    · exact (sb.2 _ S.TOz).trans O1
    · exact R1.keep _ _ _ n1 fun o q => (sb.2 _ (Ne.symm S.zi1)).trans q
    · exact R2.keep _ _ _ n2 fun o q => (sb.2 _ (Ne.symm S.zi2)).trans q
    · have hlt : c < s.heap.objs.size := by
        rcases (show c = z ∨ c = TI ∨ c = TO ∨ c = i1 ∨ c = i2 by simpa using hcm) with q | q | q | q | q
        · rw [q]; exact zl
        · rw [q]; exact Heap.lt_size hT
        · rw [q]; exact Heap.lt_size hO
        · rw [q]
          obtain ⟨o, e1, _⟩ := R1.obj i _ h1
          exact Heap.lt_size e1
        · rw [q]
          obtain ⟨o, e1, _⟩ := R2.obj i _ h2
          exact Heap.lt_size e1
      rw [upd_ne (Nat.ne_of_lt hlt)]
      exact (hf c hcm).1
  done := by
    rintro X hP hw hK hc i pins s σ H E I hf ⟨hz, hT, ⟨a1, a2, hO⟩, h1, h2⟩ ⟨_, rfl⟩
    subst hP hw
    obtain ⟨P1, D1, v1⟩ := f1 X pins s σ H I hK hc
    obtain ⟨P2, D2, v2⟩ := f2 X pins s σ H I hK hc
    exact wpAny_pyNext_zipD2_end S D1 D2 hz hT hO h1 h2 (by omega) (by omega) (by omega) fun hp tk kp => ⟨rfl, I.turnedL (t' := tk) (ch := [z, TI, TO, i1, i2]) (fun c o hb q =>
      kp c o (fun r => hb (by simp [r])) (fun r => hb (by simp [r])) (fun r => hb (by simp [r])) (fun r => hb (by simp [r])) q) hf⟩
  self := fun A i s Q E st h => wpAny_pyIter_zip st.1 h
theorem walk_zp2 {G : Hp → Prop} {xs ys : List V} : Walk (ItZ2 G xs ys) (min xs.length ys.length) G (YPair (fun i => xs[i]?) (fun i => ys[i]?)) := by
  refine ⟨fun i H hi g => ⟨g, by omega, by omega⟩, fun H g => ⟨g, rfl⟩, fun i H v H' _ g y => ?_⟩
  obtain ⟨T, x, y, h1, h2, h3, h4, h5⟩ := y
  exact ⟨T, x, y, h1, h2, h3, h4, h5⟩
end L2.G
set_option Elab.async false
set_option linter.all false
set_option maxRecDepth 100000
set_option maxHeartbeats 2000000
namespace L2.G
open PySem PySem.Spec PyProof.Rows L2H
section
variable {X : Cx} {g : Ga} {E : XK} {hid : List Nat} {m m' : PM D} {e e2 : Expr} {p pos tpos : Pos} {elts : List Expr} {kk : Nat} {ta : TA}
def iEnT (K : PySem.W.Frag) (ta : TA) : TI := fun σ H R => ta σ H fun vs H1 => ∃ a xs, vs = [.ref a] ∧ SqT K H1 a xs ∧ R (ItE2 (fun H => SqT K H a xs) xs) H1
def iEnS (ta : TA) : TI := fun σ H R => ta σ H fun vs H1 => ∃ z : Str, vs = [.str z] ∧ R (ItE2 (fun _ => True) (z.cps.toList.map fun c => V.str ⟨#[c]⟩)) H1
def iZpS (ta : TA) : TI := fun σ H R => ta σ H fun vs H1 => ∃ z y : Str, vs = [.str z, .str y] ∧ R (ItZ2 (fun _ => True) (z.cps.toList.map fun c => V.str ⟨#[c]⟩) (y.cps.toList.map fun c => V.str ⟨#[c]⟩)) H1
theorem pie_en {pins : List (Addr × Obj)} {σ : St} {H1 : Hp} {s1 : Shared} {R : It → Hp → Prop} {hp : Heap} {G : Hp → Prop} {xs : List V} {tn : Nat → Heap → Prop} (I1 : Inv X pins σ H1 s1) (Rn : Inr X.K s1.heap.objs.size G xs tn)
    (isE : IsEnum hp (s1.heap.objs.size + 1) s1.heap.objs.size 0 .none) (t0 : tn 0 hp) (kp : ∀ b o, s1.heap.get? b = some o → hp.get? b = some o) (q : R (ItE2 G xs) H1) : PIE X pins σ (.Tuple elts kk tpos) R (.ref (s1.heap.objs.size + 1)) { s1 with heap := hp } := by
  refine ⟨s1.heap.objs.size + 1, [s1.heap.objs.size + 1, s1.heap.objs.size], _, _, H1, rfl, I1.kept (t' := s1.toks) kp, turn_en2 _ _ Rn, ⟨⟨.none, isE⟩, t0, Nat.succ_ne_self _⟩, fun b hb => ?_, q⟩
  have hle : s1.heap.objs.size ≤ b := by
    rcases (show b = s1.heap.objs.size + 1 ∨ b = s1.heap.objs.size by simpa using hb) with z | z
    · rw [z]; exact Nat.le_succ _
    · rw [z]; exact Nat.le_refl _
  exact I1.fpOk hle (I1.hok.fresh hle)
theorem pi_enT (hg : Gl X "enumerate") (hm : X.mg "enumerate" = none) (ha : PA X [e] ta) (hs : starEach [e] X.env = [(false, eval e X.env)] := by rfl) : PI X (.Tuple elts kk tpos) (.Call (.Name "enumerate" p) [e] [] pos) (iEnT X.K ta) := by
  refine ⟨fun pins s σ H R I h => Call_ (ld_blt I hg hm boot_enumerate (PyProof.Rows.callWith_type1 (thn (ha.run pos pins s σ H _ I h) ?_) hs rfl))⟩
  rintro us s1 ⟨vs, H1, I1, r1, a, xs, rfl, hq, q⟩
  obtain ⟨u, rfl, ru⟩ := vals1 r1
  cases (show u = Value.ref a from ru)
  obtain ⟨its, rv, pt, hz⟩ := I1.tuple hq
  have ne : a ≠ s1.heap.objs.size := Nat.ne_of_lt pt.lt
  refine en1_call (begins_tuple a its.toArray) pt fun hp isE at0 sz kp => wpAny_pyIter_enum isE (pie_en I1 (inr_tup ne) isE ⟨_, at0, rfl, rfl⟩ kp q)
theorem pi_enS (hg : Gl X "enumerate") (hm : X.mg "enumerate" = none) (ha : PA X [e] ta) (hs : starEach [e] X.env = [(false, eval e X.env)] := by rfl) : PI X (.Tuple elts kk tpos) (.Call (.Name "enumerate" p) [e] [] pos) (iEnS ta) := by
  refine ⟨fun pins s σ H R I h => Call_ (ld_blt I hg hm boot_enumerate (PyProof.Rows.callWith_type1 (thn (ha.run pos pins s σ H _ I h) ?_) hs rfl))⟩
  rintro us s1 ⟨vs, H1, I1, r1, z, rfl, q⟩
  obtain ⟨u, rfl, tk, rfl⟩ := vals1 r1
  refine en1_call (begins_text z tk) trivial fun hp isE at0 sz kp => wpAny_pyIter_enum isE (pie_en I1 (inr_str (tk := tk)) isE ⟨_, at0, rfl, rfl⟩ kp q)
theorem dr_str {K : PySem.W.Frag} {it : Addr} {z : Str} {tk : Tok} (X : Cx) (pins : List (Addr × Obj)) (s : Shared) (σ : St) (H : Hp) (I : Inv X pins σ H s) (hK : X.K = K) (hc : X.calm = true) :
    ∃ Pv, Draws X.prog X.w X.A.in1 it [it] (z.cps.toList.map fun c => V.str ⟨#[c]⟩).length Pv (fun i h => h.IsStrIter it (strIterType z) z tk i) ∧ ∀ i v, Pv i v → ∃ x, (z.cps.toList.map fun c => V.str ⟨#[c]⟩)[i]? = some x ∧ RelV x v := by
  have e0 : (z.cps.toList.map fun c => V.str ⟨#[c]⟩).length = z.cps.size := by rw [List.length_map, Array.length_toList]
  rw [e0]
  refine ⟨_, Draws.text (prog := X.prog) (w := X.w) (A := X.A.in1) (I.ok.hd hc) it z tk, fun i v hv => ?_⟩
  obtain ⟨c, u, hc, rfl⟩ := hv
  have hk' : z.cps.toList[i]? = some c := by rw [Array.getElem?_toList]; exact hc
  exact ⟨.str ⟨#[c]⟩, by rw [List.getElem?_map, hk']; rfl, ⟨u, rfl⟩⟩
theorem pi_zpS (hg : Gl X "zip") (hm : X.mg "zip" = none) (ha : PA X [e, e2] ta) (hs : starEach [e, e2] X.env = (false, eval e X.env) :: starEach [e2] X.env := by rfl) (hpl : (backTo pos (starEach [e2] X.env)).any (·.1) = false := by rfl) :
    PI X (.Tuple elts kk tpos) (.Call (.Name "zip" p) [e, e2] [] pos) (iZpS ta) := by
  refine ⟨fun pins s σ H R I h => Call_ (ld_blt I hg hm PyProof.Rows.boot_zip (PyProof.Rows.callWith_type1 (thn (ha.run pos pins s σ H _ I h) ?_) hs hpl))⟩
  rintro us s1 ⟨vs, H1, I1, r1, z, y, rfl, q⟩
  obtain ⟨u1, u2, rfl, ⟨tk1, rfl⟩, ⟨tk2, rfl⟩⟩ := vals2 r1
  refine zip_begins2 (begins_text z tk1) (begins_text y tk2) trivial trivial fun hp hz hT hO at1 at2 sz kp => wpAny_pyIter_zip hz ?_
  have sep := zip_sep2 (N := s1.heap.objs.size) (fp1 := []) (fp2 := []) (by simp) (by simp)
  refine ⟨s1.heap.objs.size + 4, [s1.heap.objs.size + 4, s1.heap.objs.size + 2, s1.heap.objs.size + 3, s1.heap.objs.size, s1.heap.objs.size + 1], _, _, H1, rfl, I1.kept (t' := s1.toks) kp,
    turn_zp2 (inr_str (tk := tk1)) (inr_str (tk := tk2)) sep dr_str dr_str, ⟨hz, hT, ⟨_, _, hO⟩, ⟨_, at1, rfl, rfl⟩, ⟨_, at2, rfl, rfl⟩⟩, fun c hcm => ?_, q⟩
  have hle : s1.heap.objs.size ≤ c := by
    rcases (show c = s1.heap.objs.size + 4 ∨ c = s1.heap.objs.size + 2 ∨ c = s1.heap.objs.size + 3 ∨ c = s1.heap.objs.size ∨ c = s1.heap.objs.size + 1 by simpa using hcm) with z | z | z | z | z <;> rw [z]
    · exact Nat.le_add_right _ _
    · exact Nat.le_add_right _ _
    · exact Nat.le_add_right _ _
    · exact Nat.le_refl _
    · exact Nat.le_add_right _ _
  exact I1.fpOk hle (I1.hok.fresh hle)
theorem di_enT (he : DE X g E hid e m) (hm : X.mg "enumerate" = none) (hK : X.K = g.K := by rfl) (hg : Gl X "enumerate" := by rfl) (hs : starEach [e] X.env = [(false, eval e X.env)] := by rfl) :
    DI X g E hid (.Tuple elts kk tpos) (.Call (.Name "enumerate" p) [e] [] pos) (itE (itT m)) := by
  refine PI_imp (pi_enT hg hm (pa_cons he pa_nil hs) hs) fun σ H R ⟨st, c, Hs, sl, sm, cu, p⟩ => ⟨st, c, Hs, sl, sm, cu, (Post.bind (Post.bind p)).mono fun x c1 Hs1 H1 _ F1 q v1 r1 => ?_⟩
  cases x with
  | tup ds =>
    obtain ⟨a, vs, rfl, hs, hl, hr⟩ := rl_tup.mp r1
    rw [hK]
    have q' := q Hs1 H1 (Fn.refl F1.sm F1.cu)
    refine ⟨a, vs, rfl, seqT_mono F1.sm hs, q' Hs1 H1 (Fn.refl F1.sm F1.cu) (by rw [enD_len]; exact hl) _ ?_⟩
    have w := walk_en2 (G := fun H => SqT g.K H a vs) (xs := vs)
    rw [hr.length, ← enD_len ds 0] at w
    refine w.mono (fun H h => seqT_mono h hs) fun i H x H' hi _ y => ?_
    obtain ⟨T, x1, y1, rfl, hT, rfl, e1, e2⟩ := y
    cases e1
    obtain ⟨d, e3, e4⟩ := hr.getV e2
    refine ⟨_, enD_get ds 0 i d e3, .inr ⟨T, _, _, rfl, rfl, hT, rfl, by rw [sizeLine_eq]; simp, ?_⟩⟩
    exact rll_cons.mpr ⟨_, _, rfl, rl_int.mpr (by simp), rll_cons.mpr ⟨_, _, rfl, e4, rll_nil.mpr rfl⟩⟩
  | _ => exact q.elim
theorem strV_get {z : Str} {Hs : Hp} {i : Nat} {v : V} (hz : txtOk z = true) (e : (z.cps.toList.map fun c => V.str ⟨#[c]⟩)[i]? = some v) : ∃ d, (z.cps.toList.map chS)[i]? = some d ∧ Rl g Hs d v := by
  rw [List.getElem?_map] at e
  cases q : z.cps.toList[i]? with
  | none => rw [q] at e; cases e
  | some c =>
    rw [q] at e
    cases e
    exact ⟨chS c, by rw [List.getElem?_map, q]; rfl, rl_str.mpr ⟨rfl, txtOk_ch hz (List.mem_of_getElem? q)⟩⟩
theorem di_enS (he : DE X g E hid e m) (hm : X.mg "enumerate" = none) (hg : Gl X "enumerate" := by rfl) (hs : starEach [e] X.env = [(false, eval e X.env)] := by rfl) :
    DI X g E hid (.Tuple elts kk tpos) (.Call (.Name "enumerate" p) [e] [] pos) (itE (itS m)) := by
  refine PI_imp (pi_enS hg hm (pa_cons he pa_nil hs) hs) fun σ H R ⟨st, c, Hs, sl, sm, cu, p⟩ => ⟨st, c, Hs, sl, sm, cu, (Post.bind (Post.bind p)).mono fun x c1 Hs1 H1 _ F1 q v1 r1 => ?_⟩
  cases x with
  | str z =>
    obtain ⟨rfl, hz⟩ := rl_str.mp r1
    have q' := q Hs1 H1 (Fn.refl F1.sm F1.cu)
    refine ⟨z, rfl, q' Hs1 H1 (Fn.refl F1.sm F1.cu) (by rw [enD_len, List.length_map, Array.length_toList]; exact txtOk_len hz) _ ?_⟩
    have w := walk_en2 (G := fun _ => True) (xs := z.cps.toList.map fun c => V.str ⟨#[c]⟩)
    have e0 : (z.cps.toList.map fun c => V.str ⟨#[c]⟩).length = (enD 0 (z.cps.toList.map chS)).length := by rw [enD_len, List.length_map, List.length_map]
    rw [e0] at w
    refine w.mono (fun H h => trivial) fun i H x H' hi _ y => ?_
    obtain ⟨T, x1, y1, rfl, hT, rfl, e1, e2⟩ := y
    cases e1
    obtain ⟨d, e3, e4⟩ := strV_get (g := g) (Hs := Hs1) hz e2
    refine ⟨_, enD_get _ 0 i d e3, .inr ⟨T, _, _, rfl, rfl, hT, rfl, by rw [sizeLine_eq]; simp, ?_⟩⟩
    exact rll_cons.mpr ⟨_, _, rfl, rl_int.mpr (by simp), rll_cons.mpr ⟨_, _, rfl, e4, rll_nil.mpr rfl⟩⟩
  | _ => exact q.elim
theorem di_zpS (he : DE X g E hid e m) (he2 : DE X g E hid e2 m') (hm : X.mg "zip" = none) (hg : Gl X "zip" := by rfl)
    (hs : starEach [e, e2] X.env = (false, eval e X.env) :: starEach [e2] X.env := by rfl) (hpl : (backTo pos (starEach [e2] X.env)).any (·.1) = false := by rfl) (hs2 : starEach [e2] X.env = (false, eval e2 X.env) :: starEach [] X.env := by rfl) :
    DI X g E hid (.Tuple elts kk tpos) (.Call (.Name "zip" p) [e, e2] [] pos) (itZ (itS m) (itS m')) := by
  refine PI_imp (pi_zpS hg hm (pa_cons he (pa_cons he2 pa_nil hs2) hs) hs hpl) fun σ H R ⟨st, c, Hs, sl, sm, cu, p⟩ => ⟨st, c, Hs, sl, sm, cu, (Post.bind (Post.bind p)).mono fun x c1 Hs1 H1 _ F1 q v1 r1 => ?_⟩
  cases x with
  | str z =>
    have q' := q Hs1 H1 (Fn.refl F1.sm F1.cu)
    refine ⟨st, c1, Hs1, sl.mono F1.ss, F1.sm, F1.cu, (Post.bind (Post.bind q')).mono fun y c2 Hs2 H2 _ F2 q2 v2 r2 => ?_⟩
    cases y with
    | str y =>
      obtain ⟨rfl, hz⟩ := rl_str.mp r1
      obtain ⟨rfl, hy⟩ := rl_str.mp r2
      have q3 := q2 Hs2 H2 (Fn.refl F2.sm F2.cu)
      refine ⟨z, y, rfl, q3 Hs2 H2 (Fn.refl F2.sm F2.cu) (by rw [zpD_len, List.length_map, Array.length_toList]; have := txtOk_len hz; have e0 : z.length = z.cps.size := rfl; omega) _ ?_⟩
      have w := walk_zp2 (G := fun _ => True) (xs := z.cps.toList.map fun c => V.str ⟨#[c]⟩) (ys := y.cps.toList.map fun c => V.str ⟨#[c]⟩)
      have e0 : min (z.cps.toList.map fun c => V.str ⟨#[c]⟩).length (y.cps.toList.map fun c => V.str ⟨#[c]⟩).length = (zpD (z.cps.toList.map chS) (y.cps.toList.map chS)).length := by rw [zpD_len]; simp only [List.length_map]
      rw [e0] at w
      refine w.mono (fun H h => trivial) fun i H x H' hi _ y => ?_
      obtain ⟨T, x1, y1, rfl, hT, rfl, e1, e2⟩ := y
      obtain ⟨d, e3, e4⟩ := strV_get (g := g) (Hs := Hs2) hz e1
      obtain ⟨d', e5, e6⟩ := strV_get (g := g) (Hs := Hs2) hy e2
      refine ⟨_, zpD_get _ _ i d d' e3 e5, .inr ⟨T, _, _, rfl, rfl, hT, rfl, by rw [sizeLine_eq]; simp, ?_⟩⟩
      exact rll_cons.mpr ⟨_, _, rfl, e4, rll_cons.mpr ⟨_, _, rfl, e6, rll_nil.mpr rfl⟩⟩
    | _ => exact q2.elim
  | _ => exact q.elim
end
end L2.G
set_option Elab.async false
set_option linter.all false
set_option maxRecDepth 100000
set_option maxHeartbeats 2000000
namespace L2.G
open PySem PySem.Spec PyProof.Rows L2H
/-! instances: made, their fields stored -/
def putP {α : Type} (f : Str) (v : α) : List (Str × α) → List (Str × α)
  | [] => [(f, v)]
  | (g, x) :: r => if g = f then (g, v) :: r else (g, x) :: putP f v r
def putI (f : Str) (d : D) : D → D
  | .ins C ns ds => .ins C ((putP f d (ns.zip ds)).map (·.1)) ((putP f d (ns.zip ds)).map (·.2))
  | x => x
theorem put_rl {g : Ga} {Hs : Hp} {f : Str} {d : D} {v : V} (rd : Rl g Hs d v) : ∀ {gs : List (Str × V)} {ns : List Str} {ds : List D}, gs.map (·.1) = ns → RlL g Hs ds (gs.map (·.2)) →
    (putF f v gs).map (·.1) = (putP f d (ns.zip ds)).map (·.1) ∧ RlL g Hs ((putP f d (ns.zip ds)).map (·.2)) ((putF f v gs).map (·.2))
  | [], ns, ds, h, r => by
    subst h
    have e : ds = [] := List.length_eq_zero_iff.mp (by have := r.length; simpa using this.symm)
    subst e
    exact ⟨rfl, rll_cons.mpr ⟨v, [], rfl, rd, rll_nil.mpr rfl⟩⟩
  | (n, x) :: gs, ns, ds, h, r => by
    subst h
    cases ds with
    | nil =>
      have := r.length
      simp at this
    | cons d0 ds =>
      obtain ⟨x', r', e, h1, h2⟩ := rll_cons.mp r
      simp only [List.map_cons, List.cons.injEq] at e
      obtain ⟨rfl, rfl⟩ := e
      simp only [List.map_cons, List.zip_cons_cons]
      unfold putF putP
      by_cases z : n = f
      · rw [if_pos z, if_pos z]
        refine ⟨?_, rll_cons.mpr ⟨v, _, rfl, rd, ?_⟩⟩
        · simp only [List.map_cons]
          congr 1
          have l := h2.length
          clear h1 h2 r rd
          induction gs generalizing ds with
          | nil => simp
          | cons p gs ih =>
            cases ds with
            | nil => simp at l
            | cons d1 ds =>
              simp only [List.map_cons, List.zip_cons_cons]
              exact congrArg _ (ih ds (by simpa using l))
        · have l := h2.length
          have e : (List.map (fun x => x.2) ((gs.map (·.1)).zip ds)) = ds := by
            clear h1 h2 r rd
            induction gs generalizing ds with
            | nil =>
              have : ds = [] := List.length_eq_zero_iff.mp (by simpa using l.symm)
              rw [this]
              rfl
            | cons p gs ih =>
              cases ds with
              | nil => rfl
              | cons d1 ds => simp only [List.map_cons, List.zip_cons_cons]; rw [ih (ds := ds) (by simpa using l)]
          rw [e]
          exact h2
      · rw [if_neg z, if_neg z]
        obtain ⟨i1, i2⟩ := put_rl rd (f := f) rfl h2
        exact ⟨by simp only [List.map_cons]; rw [i1], rll_cons.mpr ⟨x, _, rfl, h1, i2⟩⟩
/-- x.f = e, x one's own instance -/
def fldS (C : Str) (i : Nat) (f : Str) (m : PM D) : PM Fl := fun st c => match st[i]? with
  | some (some (.ins C' ns ds)) => if C' = C ∧ ns.length < 1000 then (m st c).bind fun d c => .ok (.nx (st.set i (some (putI f d (.ins C' ns ds))))) c else .no
  | _ => .no
theorem s_fld {X : Cx} {g : Ga} {E : XK} {fx : List (Nat × V)} {Hs0 H0 : Hp} {ow ow1 : List Nat} {m : PM D} {s : Stmt} {i : Nat} {C f : Str} (cl : Cls X.K (g.cm C)) (n : NoAttr X.K (g.cm C) f) (h : PS X s (sFld X.K (tVar i) (tE g E ow1 m) f)) (hi : i ∈ ow1 := by decide) (hw : ∀ k ∈ ow1, k ∈ ow := by decide) :
    DS X g E fx Hs0 H0 ow ow1 s (fldS C i f m) := by
  refine PS_imp h fun D σ H ⟨st, c, Hs, s, p⟩ => ?_
  obtain ⟨Hs1, e1, s1⟩ := s.weak hw
  unfold fldS at p
  split at p
  · rename_i C' ns ds hd
    split at p
    · rename_i hC
      obtain ⟨rfl, hn⟩ := hC
      refine s1.toE (ps_er s1 p fun d c2 Hs2 H2 _ F q v r => ?_)
      have s2 := s1.on F
      obtain ⟨a, e2, e3, e4, e5, e6⟩ := s2.own i hi _ hd
      rcases e6 with ⟨ds1, vs, ed, _⟩ | ⟨C1, ns1, ds1, dx, gs, ed, hcs, ha, h1, h2⟩
      · cases ed
      · cases ed
        have l1 : gs.length = ns.length := by rw [← h1, List.length_map]
        refine ⟨.ref a, e2, a, _, dx, gs, rfl, ha, cl, n, by omega, q σ Hs2 _ (s2.chg0 hi hd e2 (.inr ⟨C', _, _, dx, _, rfl, hcs, upd_same, ?_, ?_⟩))⟩
        · exact (put_rl r h1 h2).1
        · exact (put_rl r h1 h2).2
    · exact p.elim
  · exact p.elim
/-- an __init__ by data -/
def inst0 (st : PSt) : Option D := match (st[0]? : Option (Option D)) with
  | some (some (.ins C ns es)) => some (.ins C ns es)
  | _ => none
theorem inst0_at {st : PSt} {d : D} (h : inst0 st = some d) : st[0]? = some (some d) := by
  unfold inst0 at h
  split at h
  · rename_i C ns es e
    cases h
    exact e
  · cases h
def inD (C : Str) (k n : Nat) (f : PM Fl) : Fd := fun ds c => if ds.length + 1 = k then (f (some (.ins C [] []) :: (ds.map some ++ List.replicate (n - k) none)) c).bind fun fl c => match fl with
    | .nx st => ofO (inst0 st) c
    | .rt _ => .no
  else .no
def spI (K : PySem.W.Frag) (cm : Str → Addr) (cs : List Str) (C : Str) (m : Fd) : Sp := fun vs H Q E => ∃ (pc : Pc) (Hs : Hp) (ds : List D) (c : Cu) (x dx : Addr) (us : List V),
  vs = .ref x :: us ∧ H x = some (.ins (cm C) dx []) ∧ Hs x = none ∧ Off pc x ∧ C ∈ cs ∧ Same Hs H ∧ CupAt pc Hs H c ∧ RlL ⟨K, cm, cs, pc⟩ Hs ds us ∧ match m ds c with
    | .no => False
    | .ok d c' => ∀ Hs' H', Fn pc Hs (del H x) Hs' H' c' → Hs' x = none → Own1 ⟨K, cm, cs, pc⟩ Hs' H' x d → Q .non H'
    | .er e c' => ∀ cls dx' Hs' H', Fn pc Hs (del H x) Hs' H' c' → Xr ⟨K, cm, cs, pc⟩ Hs' e cls dx' → E cls dx' H'
theorem same_del {Hs H : Hp} {x : Addr} (s : Same Hs H) (n : Hs x = none) : Same Hs (del H x) := fun b o e => by rw [del_ne (ne_of_none e n)]; exact s b o e
section
variable {P : Program} {w : World} {K : PySem.W.Frag} {mg : Str → Option Value} {base : Heap} {k : Nat} {f : Addr} {fd : FuncData} {ps N : List Str} {cm : Str → Addr} {cs : List Str} {ow : List Nat} {fb : PM Fl} {x qual C : Str} {params : Arguments} {body : List Stmt} {scope : Scope} {dvs : List V} {kws : List (Str × V)}
theorem okI (F : FunD K x qual params body scope dvs kws f fd) (S : FnScope N ps scope) (h0 : 0 ∈ ow)
    (hb : ∀ (cdv : Value) (A : Around) (outer : List Env) (s : Shared) (H H0 Hs : Hp) (E : XK) (pc : Pc) (fx : List (Nat × V)), Room k (A.deeper (envOfC qual scope s.heap.objs.size f cdv)) →
      DB (cxOf (CN P w) P w K mg base N qual scope f cdv A outer s H E) ⟨K, cm, cs, pc⟩ E fx Hs H0 [0] ow body fb) : FnOk P w K mg base (CN P w) (k + 1) f fd ps (spI K cm cs C (inD C ps.length N.length fb)) := by
  refine F.ok S ?_ fun cdv A outer s H vs Q E hr h => ?_
  · rintro vs H Q E ⟨pc, Hs, ds, c, x, dx, us, rfl, _, _, _, _, _, _, r, p⟩
    unfold inD at p
    by_cases hl : ds.length + 1 = ps.length
    · rw [List.length_cons, r.length]
      exact hl
    · rw [if_neg hl] at p
      exact p.elim
  · obtain ⟨pc, Hs, ds, c, x, dx, us, rfl, hx, hxs, hpc, hC, sm, cu, r, p⟩ := h
    unfold inD at p
    by_cases hl : ds.length + 1 = ps.length
    · rw [if_pos hl] at p
      have l := r.length
      have cu' : CupAt pc Hs (del H x) c := cu.del hpc hx (plain_ins _ _ _)
      have st0 : SiS ⟨K, cm, cs, pc⟩ [(0, .ref x)] Hs (del H x) [0] Hs H c (some (.ins C [] []) :: (ds.map some ++ List.replicate (N.length - ps.length) none)) (start N (.ref x :: us)) := by
        have s1 := sis_start (g := ⟨K, cm, cs, pc⟩) (N := N) (k := ps.length - 1) (ds := ds) (vs := us) sm cu r (by omega)
        refine ⟨⟨Same.refl _, fun b o n _ e => ?_, fun b o _ e n => n, sm, cu⟩, ⟨?_, fun i d hi e => ?_⟩, fun i hi d hd => ?_, fun i hi j hj ij => ?_, fun i hi v hv => ?_⟩
        · by_cases z : b = x
          · rw [z, del_same] at e; cases e
          · rw [del_ne z] at e; exact e
        · rw [start_len]
          simp only [List.length_cons, List.length_append, List.length_map, List.length_replicate, l]
          omega
        · cases i with
          | zero => exact absurd (by simp) hi
          | succ i =>
            rw [List.getElem?_cons_succ] at e
            have hi2 : i < ds.length := by
              by_cases h : i < ds.length
              · exact h
              · rw [List.getElem?_append_right (by rw [List.length_map]; omega)] at e
                have := List.mem_of_getElem? e
                rw [List.mem_replicate] at this
                cases this.2
            rw [List.getElem?_append_left (by rw [List.length_map]; exact hi2), List.getElem?_map] at e
            cases hd : ds[i]? with
            | none => rw [hd] at e; cases e
            | some d' =>
              rw [hd] at e
              cases e
              obtain ⟨v, h1, h2⟩ := r.get hd
              refine ⟨v, ?_, h2⟩
              show (some (V.ref x) :: (us.map some ++ _))[i + 1]? = _
              rw [List.getElem?_cons_succ, List.getElem?_append_left (by rw [List.length_map]; omega), List.getElem?_map, h1]
              rfl
        · have : i = 0 := by simpa using hi
          subst this
          cases (show some (some (D.ins C [] [])) = some (some d) from hd)
          exact ⟨x, rfl, hxs, fr_none del_same, hpc, .inr ⟨C, [], [], dx, [], rfl, hC, hx, rfl, rll_nil.mpr rfl⟩⟩
        · have h1 : i = 0 := by simpa using hi
          have h2 : j = 0 := by simpa using hj
          exact absurd (h1.trans h2.symm) ij
        · have e : (i, v) = (0, V.ref x) := by simpa using hv
          cases e
          rfl
      refine ⟨_, hb cdv A outer s H (del H x) Hs E pc [(0, .ref x)] hr, _, c, Hs, st0, ?_⟩
      revert p
      cases fb (some (.ins C [] []) :: (ds.map some ++ List.replicate (N.length - ps.length) none)) c with
      | no => exact fun z => z
      | er e c' => exact fun z => z
      | ok fl c' =>
        cases fl with
        | rt d => exact fun z => z.elim
        | nx st =>
          intro p σ' Hs' H' s'
          rw [R.ok_bind] at p
          dsimp only at p
          have fx0 := s'.fix 0 h0 (.ref x) (by simp)
          cases hi : inst0 st with
          | none => rw [hi] at p; exact p.elim
          | some d =>
            rw [hi] at p
            obtain ⟨a, e1, e2, e3, e4, e5⟩ := s'.own 0 h0 _ (inst0_at hi)
            rw [fx0] at e1
            cases e1
            exact p Hs' H' s'.fn e2 e5
    · rw [if_neg hl] at p
      exact p.elim
end
/-! C(..), a new instance -/
structure MakNK (P : Program) (w : World) (K : PySem.W.Frag) (mg : Str → Option Value) (base : Heap) (k : Nat) (x : Str) (C : Addr) (n : Nat) (ks : List Str) (gV : List V → List V → List V) (sp : Sp) : Prop where
  ex : ∃ (f : Addr) (fd : FuncData) (ps : List Str) (g : List Value → List Value → List Value), Mk K C f ∧ FnOk P w K mg base (CN P w) k f fd ps sp ∧ mg x = some (.ref C) ∧ KBn K fd ps (n + 1) ks g gV
/-- how the arguments are laid: by data and by values -/
def Lays (K : PySem.W.Frag) (cm : Str → Addr) (cs : List Str) (n m : Nat) (gD : List D → List D → List D) (gV : List V → List V → List V) : Prop := ∀ (pc : Pc) (Hs : Hp) (x : V) (ds zs : List D) (vs us : List V), ds.length = n → zs.length = m → RlL ⟨K, cm, cs, pc⟩ Hs ds vs → RlL ⟨K, cm, cs, pc⟩ Hs zs us → ∃ ws, gV (x :: vs) us = x :: ws ∧ RlL ⟨K, cm, cs, pc⟩ Hs (gD ds zs) ws
def mkD (m : Fd) (gD : List D → List D → List D) (ms zs : List (PM D)) : PM D := fun st c => (aD ms st c).bind fun ds c => (aD zs st c).bind fun es c => m (gD ds es) c
theorem PK_imp {X : Cx} {kws : List Keyword} {t t' : TA} (h : PK X kws t) (m : ∀ σ H Q, t' σ H Q → t σ H Q) : PK X kws t' := ⟨fun pos pins s σ H Q I q => h.run pos pins s σ H Q I (m σ H Q q)⟩
abbrev DK (X : Cx) (g : Ga) (E : XK) (hid : List Nat) (kws : List Keyword) (m : PM (List D)) : Prop := PK X kws (tA g E hid m)
section
variable {X : Cx} {g : Ga} {E : XK} {hid : List Nat} {ms zs : List (PM D)} {m : Fd} {ma : PM D} {x C : Str} {k j n : Nat} {p pos kpos : Pos} {e : Expr} {es : List Expr} {kws : List Keyword} {ks : List Str} {gV : List V → List V → List V} {gD : List D → List D → List D} {nm : Option Str}
theorem dk_nil : DK X g E hid [] (aD []) := PK_imp pk_nil fun σ H Q ⟨st, c, Hs, sl, sm, cu, p⟩ => p Hs H (Fn.refl sm cu) [] (rll_nil.mpr rfl)
theorem dk_cons (ha : DE X g E hid e ma) (hr : DK X g E hid kws (aD ms)) : DK X g E hid (⟨nm, e, kpos⟩ :: kws) (aD (ma :: ms)) := by
  refine PK_imp (pk_cons ha hr) fun σ H Q ⟨st, c, Hs, sl, sm, cu, p⟩ => ⟨st, c, Hs, sl, sm, cu, (Post.bind p).mono fun x c1 Hs1 H1 _ F1 q v1 r1 => ⟨st, c1, Hs1, sl.mono F1.ss, F1.sm, F1.cu, (Post.bind q).mono fun xs c2 Hs2 H2 _ F2 q2 vs rs => ?_⟩⟩
  exact q2 Hs2 H2 (Fn.refl F2.sm F2.cu) _ (rll_cons.mpr ⟨v1, vs, rfl, Rl.mono F2.ss x v1 r1, rs⟩)
theorem mk_of {st : PSt} {H Ha H1 : Hp} {Hs Hs1 : Hp} {c c1 : Cu} {ds : List D} {us : List V} {Q : VK} {x dx : Addr} (hC : C ∈ g.cs) (F : Fn g.pc Ha H Hs1 H1 c1) (r : RlL g Hs1 ds us) (q : Post g E Hs1 H1 (m ds c1) fun d _ Hs' H' => ∀ p, Fr H p → Hs' p = none → Off g.pc p → Own1 g Hs' H' p d → Q (.ref p) H')
    (nx : H1 x = none) (nd : H1 dx = none) (ne : dx ≠ x) : spI g.K g.cm g.cs C m (.ref x :: us) (upd (upd H1 dx (.own x)) x (.ins (g.cm C) dx [])) (fun v H2 => v = .non ∧ Q (.ref x) H2) E := by
  have xpc := F.cu.ne nx
  have dpc := F.cu.ne nd
  have Fd := Fn.hid (o := .own x) F.sm F.cu nd
  have nx1 : upd H1 dx (.own x) x = none := by rw [upd_ne (Ne.symm ne)]; exact nx
  have Fx := Fn.hid (o := .ins (g.cm C) dx []) Fd.sm Fd.cu nx1
  have ed : del (upd (upd H1 dx (.own x)) x (.ins (g.cm C) dx [])) x = upd H1 dx (.own x) := by
    funext b
    by_cases z : b = x
    · rw [z, del_same, nx1]
    · rw [del_ne z, upd_ne z]
  refine ⟨g.pc, Hs1, ds, c1, x, dx, us, rfl, upd_same, F.sm.free nx, xpc, hC, Fx.sm, Fx.cu, r, ?_⟩
  rw [ed]
  revert q
  cases m ds c1 with
  | no => exact fun z => z
  | ok d c' => exact fun z Hs' H' F' nx' o => ⟨rfl, z Hs' H' (Fd.trans F') x (fresh_of F nx).1 nx' xpc o⟩
  | er y c' => exact fun z cls dx' Hs' H' F' xr => z cls dx' Hs' H' (Fd.trans F') xr
/-- C(e, .., k = e, ..) -/
theorem do_mkK (hC : C ∈ g.cs) (c : MakNK X.prog X.w X.K X.mg X.base k x (g.cm C) n ks gV (spI g.K g.cm g.cs C m)) (L : Lays g.K g.cm g.cs n ks.length gD gV) (hx : Passes (CN X.prog X.w) X E) (hr : Room j X.A) (hk : k + 1 ≤ j) (hg : Gl X x) (ha : DA X g E hid (e :: es) (aD ms)) (hkw : DK X g E hid kws (aD zs)) (hn : ms.length = n := by rfl) (hz : zs.length = ks.length := by rfl)
    (hall : (backToKw pos (keywordEach kws X.env)).all (·.1.isSome) = true := by rfl) (hks : (backToKw pos (keywordEach kws X.env)).filterMap (·.1) = ks := by rfl) (hdb : (x == ("__debug__" : Str)) = false := by decide)
    (he : starEach (e :: es) X.env = (false, eval e X.env) :: starEach es X.env := by rfl) (hpl : ((backTo pos (starEach (e :: es) X.env)).any (·.1) || (backToKw pos (keywordEach kws X.env)).any (·.1.isNone)) = false := by rfl) :
    DEo X g E hid (.Call (.Name x p) (e :: es) kws pos) (mkD m gD ms zs) := by
  obtain ⟨f, fd, ps, gg, M, F, hm, b⟩ := c.ex
  refine PE_imp (pe_makeK M F (hr.mono hk) hg hm b hx ha hkw hall hks hdb he hpl) fun σ H Q ⟨st, c, Hs, sl, sm, cu, p⟩ => ⟨st, c, Hs, sl, sm, cu, (Post.bind p).mono fun ds c1 Hs1 H1 e1 F1 q vs rs => ⟨st, c1, Hs1, sl.mono F1.ss, F1.sm, F1.cu, (Post.bind q).mono fun xs c2 Hs2 H2 e2 F2 q2 us ru => ?_⟩⟩
  have l1 := aD_len e1
  have l2 := aD_len e2
  have rs2 := RlL.mono F2.ss ds vs rs
  refine ⟨by rw [rs.length, l1, hn], by rw [ru.length, l2, hz], fun x dx nx nd ne => ?_⟩
  obtain ⟨ws, ew, rw'⟩ := L g.pc Hs2 (.ref x) ds xs vs us (l1.trans hn) (l2.trans hz) rs2 ru
  rw [ew]
  exact mk_of (st := st) (c := c) (Hs := Hs) hC (F1.trans F2) rw' q2 nx nd ne
theorem do_mkK0 (hC : C ∈ g.cs) (c : MakNK X.prog X.w X.K X.mg X.base k x (g.cm C) 0 ks gV (spI g.K g.cm g.cs C m)) (L : Lays g.K g.cm g.cs 0 ks.length gD gV) (hx : Passes (CN X.prog X.w) X E) (hr : Room j X.A) (hk : k + 1 ≤ j) (hg : Gl X x) (hkw : DK X g E hid kws (aD zs)) (hz : zs.length = ks.length := by rfl)
    (hall : (backToKw pos (keywordEach kws X.env)).all (·.1.isSome) = true := by rfl) (hks : (backToKw pos (keywordEach kws X.env)).filterMap (·.1) = ks := by rfl) (hdb : (x == ("__debug__" : Str)) = false := by decide)
    (hpl : ((backTo pos (starEach [] X.env)).any (·.1) || (backToKw pos (keywordEach kws X.env)).any (·.1.isNone)) = false := by rfl) :
    DEo X g E hid (.Call (.Name x p) [] kws pos) (mkD m gD [] zs) := by
  obtain ⟨f, fd, ps, gg, M, F, hm, b⟩ := c.ex
  refine PE_imp (pe_makeK0 M F (hr.mono hk) hg hm b hx hkw hall hks hdb hpl) fun σ H Q ⟨st, c, Hs, sl, sm, cu, p⟩ => ⟨st, c, Hs, sl, sm, cu, (Post.bind (f := fun es c => m (gD [] es) c) p).mono fun xs c2 Hs2 H2 e2 F2 q2 us ru => ?_⟩
  have l2 := aD_len e2
  refine ⟨rfl, by rw [ru.length, l2, hz], fun x dx nx nd ne => ?_⟩
  obtain ⟨ws, ew, rw'⟩ := L g.pc Hs2 (.ref x) [] xs [] us rfl (l2.trans hz) (rll_nil.mpr rfl) ru
  rw [ew]
  exact mk_of (st := st) (c := c) (Hs := Hs) hC F2 rw' q2 nx nd ne
/-- C(e, ..) -/
structure MakND (P : Program) (w : World) (K : PySem.W.Frag) (mg : Str → Option Value) (base : Heap) (k : Nat) (x : Str) (C : Addr) (sp : Sp) (dvs : List V) : Prop where
  ex : ∃ (f : Addr) (fd : FuncData) (ps : List Str) (ds : List Value), Mk K C f ∧ FnOk P w K mg base (CN P w) k f fd ps sp ∧ mg x = some (.ref C) ∧ Binds K fd ps ds ∧ Vals dvs ds
theorem do_mk {dvs : List V} {dds : List D} (hC : C ∈ g.cs) (c : MakND X.prog X.w X.K X.mg X.base k x (g.cm C) (spI g.K g.cm g.cs C m) dvs) (L : ∀ Hs, RlL g Hs dds dvs) (hx : Passes (CN X.prog X.w) X E) (hr : Room j X.A) (hk : k + 1 ≤ j) (hg : Gl X x) (ha : DA X g E hid (e :: es) (aD ms))
    (hdb : (x == ("__debug__" : Str)) = false := by decide) (he : starEach (e :: es) X.env = (false, eval e X.env) :: starEach es X.env := by rfl) (hpl : (backTo pos (starEach es X.env)).any (·.1) = false := by rfl) :
    DEo X g E hid (.Call (.Name x p) (e :: es) [] pos) (mkD m (fun ds _ => ds ++ dds) ms []) := by
  obtain ⟨f, fd, ps, dd, M, F, hm, b, d⟩ := c.ex
  refine PE_imp (pe_make M F (hr.mono hk) hg hm b d hx ha hdb he hpl) fun σ H Q ⟨st, c, Hs, sl, sm, cu, p⟩ => ⟨st, c, Hs, sl, sm, cu, (Post.bind p).mono fun ds c1 Hs1 H1 e1 F1 q vs rs x dx nx nd ne => ?_⟩
  exact mk_of (st := st) (c := c) (Hs := Hs) hC F1 (rs.append (L Hs1)) q nx nd ne
end
end L2.G
set_option Elab.async false
set_option linter.all false
set_option maxRecDepth 100000
set_option maxHeartbeats 2000000
namespace L2.G
open PySem PySem.Spec PyProof.Rows L2H
/-! own special methods of instances, by data -/
section
variable {X : Cx} {CX : CXT} {pins : List (Addr × Obj)} {σ : St} {H : Hp} {s : Shared} {k : Nat} {f C : Addr} {fd : FuncData} {ps : List Str} {sp : Sp} {E : XK}
def rBoolI (C : Addr) (sp : Sp) (E : XK) : V → Hp → (Bool → Hp → Prop) → Prop := fun x H Q => ∃ a dx fs, x = .ref a ∧ H a = some (.ins C dx fs) ∧ sp [.ref a] H (fun v H' => ∃ b : Bool, v = .bl b ∧ Q b H') E
theorem tr_boolI (F : FnOk X.prog X.w X.K X.mg X.base CX k f fd ps sp) (hb : Binds X.K fd ps []) (hx : Passes CX X E) (hr : Room k X.A)
    (hs : PySem.W.findIn X.K (.ref C) "__bool__" = some (some (.ref f))) (hf : PySem.W.isFn X.K (.ref f) = true) : TruR X (rBoolI C sp E) := by
  intro pins s σ H x u Q I r h
  obtain ⟨a, dx, fs, rfl, ea, q⟩ := h
  cases (show u = Value.ref a from r)
  obtain ⟨od, J⟩ := inst_at I ea
  unfold truthy
  refine wpAny_bind (m := callSpecial? (.ref a) (Str.ofString "__bool__")) (PySem.W.special_fn I.kIn J hs (beq_iff_eq.mp hf) (thn (run_at F hb hx hr rfl I (vs := [.ref a]) (us := [.ref a]) (.cons rfl .nil) q) fun v s' hv => ?_))
  obtain ⟨z, H', I', rz, b, ez, q'⟩ := hv
  subst ez
  cases (show v = Value.bool b from rz)
  exact wpAny_pure ⟨H', I', q'⟩
end
structure SpcN (P : Program) (w : World) (K : PySem.W.Frag) (mg : Str → Option Value) (base : Heap) (k : Nat) (C : Addr) (nm : Str) (sp : Sp) : Prop where
  ex : ∃ (f : Addr) (fd : FuncData) (ps : List Str), PySem.W.findIn K (.ref C) nm = some (some (.ref f)) ∧ PySem.W.isFn K (.ref f) = true ∧ FnOk P w K mg base (CN P w) k f fd ps sp ∧ Binds K fd ps []
structure EqC (K : PySem.W.Frag) (C : Addr) : Prop where
  nf : ∀ t ∈ tyNs, PySem.W.notFirst K C (.type t) = true
  mro : PySem.W.mroIn K C (.type "object") = some true
  ne : PySem.W.findIn K (.ref C) "__ne__" = some (some (.builtin "object.__ne__"))
def mateD (C : Str) (y : D) : Bool := match y with
  | .ins C' _ _ => C' == C
  | d => (tyD d).isSome
def eqI (C : Str) (m : Fd) (neg : Bool) (ma mb : PM D) : PM D := fun st c => (ma st c).bind fun x c => (mb st c).bind fun y c => match x with
  | .ins C' _ _ => if C' = C ∧ mateD C y = true then (noE m [x, y] c).bind fun r c => match r with
      | .bl b => .ok (.bl (b != neg)) c
      | _ => .no
    else .no
  | _ => .no
def lenI (C : Str) (m : Fd) (mo : PM D) : PM D := fun st c => (mo st c).bind fun x c => match x with
  | .ins C' _ _ => if C' = C then (noE m [x] c).bind fun r c => match r with
      | .int n => if 0 ≤ n ∧ n < 2 ^ 63 then .ok (.int n) c else .no
      | _ => .no
    else .no
  | _ => .no
def txtI (C : Str) (m : Fd) (mo : PM D) : PM D := fun st c => (mo st c).bind fun x c => match x with
  | .ins C' _ _ => if C' = C then (noE m [x] c).bind fun r c => match r with
      | .str z => .ok (.str z) c
      | _ => .no
    else .no
  | _ => .no
def truI (C : Str) (m : Fd) (mo : PM D) : PM Bool := fun st c => (mo st c).bind fun x c => match x with
  | .ins C' _ _ => if C' = C then (noE m [x] c).bind fun r c => match r with
      | .bl b => .ok b c
      | _ => .no
    else .no
  | _ => .no
section
variable {X : Cx} {g : Ga} {E E' : XK} {hid : List Nat} {ma mb mo : PM D} {m : Fd} {C : Str} {k j : Nat} {p pos : Pos} {a b o : Expr}
theorem call0_of {H : Hp} {Hs : Hp} {c : Cu} {ds : List D} {vs : List V} {Q : VK} {k : D → Cu → Hp → Hp → Prop} (sm : Same Hs H) (cu : CupAt g.pc Hs H c) (r : RlL g Hs ds vs) (p : Post g E Hs H (noE m ds c) k) (h : ∀ d c' Hs' H', Fn g.pc Hs H Hs' H' c' → k d c' Hs' H' → ∀ v, Rl g Hs' d v → Q v H') : spD g.K g.cm g.cs (noE m) vs H Q E' := by
  refine ⟨g.pc, Hs, ds, c, sm, cu, r, ?_⟩
  cases er : noE m ds c with
  | no => rw [er] at p; exact p
  | ok d c' => rw [er] at p; exact fun Hs' H' F v rv => h d c' Hs' H' F (p Hs' H' F) v rv
  | er y c => exact absurd er (noE_no m _ _ y c)
theorem eq_of {σ : St} {H : Hp} {Q : VK} {neg : Bool} {gf : Bool → Bool} {K' : PySem.W.Frag} (hK : K' = g.K) (hgf : ∀ b, gf b = (b != neg)) (q0 : EqC g.K (g.cm C)) : tE g E hid (eqI C m neg ma mb) σ H Q → tOp (rEqI (g.cm C) (spD g.K g.cm g.cs (noE m)) E0 (NotSub K' (g.cm C)) gf) (tE g E hid ma) (tE g E hid mb) σ H Q := by
  subst hK
  rintro ⟨st, c, Hs, sl, sm, cu, p⟩
  refine ⟨st, c, Hs, sl, sm, cu, (Post.bind p).mono fun x c1 Hs1 H1 _ F1 q v1 r1 => ⟨st, c1, Hs1, sl.mono F1.ss, F1.sm, F1.cu, (Post.bind q).mono fun y c2 Hs2 H2 _ F2 q2 v2 r2 => ?_⟩⟩
  have r1' := Rl.mono F2.ss x v1 r1
  cases x with
  | ins C' ns ds =>
    dsimp only at q2
    split at q2
    · rename_i h
      obtain ⟨rfl, hy⟩ := h
      obtain ⟨hC, a, dx, gs, rfl, ha, h1, h2⟩ := rl_ins.mp r1'
      refine ⟨a, dx, gs, rfl, F2.sm _ _ ha, ?_, call0_of F2.sm F2.cu (rll_cons.mpr ⟨_, _, rfl, r1', rll_cons.mpr ⟨_, _, rfl, r2, rll_nil.mpr rfl⟩⟩) (Post.bind q2) fun d c' Hs' H' F z v rv => ?_⟩
      · unfold mateD at hy
        split at hy
        · obtain rfl := eq_of_beq hy
          obtain ⟨_, b, dx2, gs2, rfl, hb, _, _⟩ := rl_ins.mp r2
          exact .inl ⟨dx2, b, gs2, rfl, F2.sm _ _ hb⟩
        · obtain ⟨t, et⟩ := Option.isSome_iff_exists.mp hy
          obtain ⟨t1, t2⟩ := tyX_of F2.sm r2 et
          exact .inr ⟨_, t1, q0.nf t t2⟩
      · cases d with
        | bl b => exact ⟨b, rl_bl.mp rv, z Hs' H' (Fn.refl F.sm F.cu) _ (rl_bl.mpr (by rw [hgf b]))⟩
        | _ => exact z.elim
    · exact q2.elim
  | _ => exact q2.elim
theorem d_eqI (c : SpcN X.prog X.w X.K X.mg X.base k (g.cm C) "__eq__" (spD g.K g.cm g.cs (noE m))) (q0 : EqC g.K (g.cm C)) (hr : Room j X.A) (hk : k ≤ j) (ha : DE X g E hid a ma) (hb : DE X g E hid b mb) (hm : behindInMarks .Eq b = false) (hK : X.K = g.K := by rfl) : DE X g E hid (.Compare a [.Eq] [b] pos) (eqI C m false ma mb) := by
  obtain ⟨f, fd, ps, hs, hf, F, bd⟩ := c.ex
  refine PE_imp (pe_cmpR (op_eqI F bd ps0 (hr.mono hk) hs hf) ha hb hm) fun σ H Q q => eq_of hK (by intro b; cases b <;> rfl) q0 q
theorem d_neI (c : SpcN X.prog X.w X.K X.mg X.base k (g.cm C) "__eq__" (spD g.K g.cm g.cs (noE m))) (q0 : EqC g.K (g.cm C)) (hr : Room j X.A) (hk : k + 2 ≤ j) (ha : DE X g E hid a ma) (hb : DE X g E hid b mb) (hm : behindInMarks .NotEq b = false) (hK : X.K = g.K := by rfl) : DE X g E hid (.Compare a [.NotEq] [b] pos) (eqI C m true ma mb) := by
  obtain ⟨f, fd, ps, hs, hf, F, bd⟩ := c.ex
  refine PE_imp (pe_cmpR (op_neI F bd ps0 (hr.mono hk) (by rw [hK]; exact q0.mro) (by rw [hK]; exact q0.ne) hs hf) ha hb hm) fun σ H Q q => eq_of hK (by intro b; cases b <;> rfl) q0 q
theorem dt_eqI (c : SpcN X.prog X.w X.K X.mg X.base k (g.cm C) "__eq__" (spD g.K g.cm g.cs (noE m))) (q0 : EqC g.K (g.cm C)) (hr : Room j X.A) (hk : k ≤ j) (ha : DE X g E hid a ma) (hb : DE X g E hid b mb) (hm : behindInMarks .Eq b = false) (hK : X.K = g.K := by rfl) : DT X g E hid (.Compare a [.Eq] [b] pos) (tbD (eqI C m false ma mb)) := by
  obtain ⟨f, fd, ps, hs, hf, F, bd⟩ := c.ex
  refine PT_imp (pt_cmpR (op_eqI F bd ps0 (hr.mono hk) hs hf) ha hb hm) fun σ H Q q => eq_of hK (by intro b; cases b <;> rfl) q0 (tb_of q)
theorem dt_neI (c : SpcN X.prog X.w X.K X.mg X.base k (g.cm C) "__eq__" (spD g.K g.cm g.cs (noE m))) (q0 : EqC g.K (g.cm C)) (hr : Room j X.A) (hk : k + 2 ≤ j) (ha : DE X g E hid a ma) (hb : DE X g E hid b mb) (hm : behindInMarks .NotEq b = false) (hK : X.K = g.K := by rfl) : DT X g E hid (.Compare a [.NotEq] [b] pos) (tbD (eqI C m true ma mb)) := by
  obtain ⟨f, fd, ps, hs, hf, F, bd⟩ := c.ex
  refine PT_imp (pt_cmpR (op_neI F bd ps0 (hr.mono hk) (by rw [hK]; exact q0.mro) (by rw [hK]; exact q0.ne) hs hf) ha hb hm) fun σ H Q q => eq_of hK (by intro b; cases b <;> rfl) q0 (tb_of q)
/-- len(o) -/
theorem d_lenI (c : SpcN X.prog X.w X.K X.mg X.base k (g.cm C) "__len__" (spD g.K g.cm g.cs (noE m))) (hr : Room j X.A) (hk : k + 1 ≤ j) (hg : Gl X "len") (hm : X.mg "len" = none) (ho : DE X g E hid o mo)
    (hs : starEach [o] X.env = (false, eval o X.env) :: starEach [] X.env := by rfl) (hpl : (backTo pos (starEach [] X.env)).any (·.1) = false := by rfl) : DE X g E hid (.Call (.Name "len" p) [o] [] pos) (lenI C m mo) := by
  obtain ⟨f, fd, ps, hs', hf, F, bd⟩ := c.ex
  refine PE_imp (pe_callB (cr_lenI F bd ps0 (hr.mono hk) hs' hf) hg hm boot_len (pa_cons ho pa_nil hs) (by decide) (by decide) hs hpl) fun σ H Q ⟨st, c, Hs, sl, sm, cu, p⟩ => ⟨st, c, Hs, sl, sm, cu, (Post.bind p).mono fun x c1 Hs1 H1 _ F1 q v1 r1 => ?_⟩
  cases x with
  | ins C' ns ds =>
    dsimp only at q
    split at q
    · rename_i h
      subst h
      obtain ⟨hC, a, dx, gs, rfl, ha, h1, h2⟩ := rl_ins.mp r1
      refine ⟨a, dx, gs, rfl, F1.sm _ _ ha, call0_of F1.sm F1.cu (rll_cons.mpr ⟨_, _, rfl, r1, rll_nil.mpr rfl⟩) (Post.bind q) fun d c' Hs' H' F z v rv => ?_⟩
      cases d with
      | int n =>
        dsimp only at z
        split at z
        · rename_i hn
          exact ⟨n, rl_int.mp rv, hn.1, hn.2, z Hs' H' (Fn.refl F.sm F.cu) _ (rl_int.mpr rfl)⟩
        · exact z.elim
      | _ => exact z.elim
    · exact q.elim
  | _ => exact q.elim
/-- repr(o) -/
theorem d_reprI (c : SpcN X.prog X.w X.K X.mg X.base k (g.cm C) "__repr__" (spD g.K g.cm g.cs (noE m))) (hr : Room j X.A) (hk : k + 1 ≤ j) (hg : Gl X "repr") (hm : X.mg "repr" = none) (ho : DE X g E hid o mo)
    (hs : starEach [o] X.env = (false, eval o X.env) :: starEach [] X.env := by rfl) (hpl : (backTo pos (starEach [] X.env)).any (·.1) = false := by rfl) : DE X g E hid (.Call (.Name "repr" p) [o] [] pos) (txtI C m mo) := by
  obtain ⟨f, fd, ps, hs', hf, F, bd⟩ := c.ex
  refine PE_imp (pe_callB (cr_reprI F bd ps0 (hr.mono hk) hs' hf) hg hm boot_repr (pa_cons ho pa_nil hs) (by decide) (by decide) hs hpl) fun σ H Q ⟨st, c, Hs, sl, sm, cu, p⟩ => ⟨st, c, Hs, sl, sm, cu, (Post.bind p).mono fun x c1 Hs1 H1 _ F1 q v1 r1 => ?_⟩
  cases x with
  | ins C' ns ds =>
    dsimp only at q
    split at q
    · rename_i h
      subst h
      obtain ⟨hC, a, dx, gs, rfl, ha, h1, h2⟩ := rl_ins.mp r1
      refine ⟨a, dx, gs, rfl, F1.sm _ _ ha, call0_of F1.sm F1.cu (rll_cons.mpr ⟨_, _, rfl, r1, rll_nil.mpr rfl⟩) (Post.bind q) fun d c' Hs' H' F z v rv => ?_⟩
      cases d with
      | str n => exact ⟨n, (rl_str.mp rv).1, z Hs' H' (Fn.refl F.sm F.cu) _ (rl_str.mpr ⟨rfl, (rl_str.mp rv).2⟩)⟩
      | _ => exact z.elim
    · exact q.elim
  | _ => exact q.elim
/-- str(o) -/
theorem d_strI (c : SpcN X.prog X.w X.K X.mg X.base k (g.cm C) "__str__" (spD g.K g.cm g.cs (noE m))) (hr : Room j X.A) (hk : k + 2 ≤ j) (hg : Gl X "str") (hm : X.mg "str" = none) (ho : DE X g E hid o mo)
    (hs : starEach [o] X.env = (false, eval o X.env) :: starEach [] X.env := by rfl) (hpl : (backTo pos (starEach [] X.env)).any (·.1) = false := by rfl) : DE X g E hid (.Call (.Name "str" p) [o] [] pos) (txtI C m mo) := by
  obtain ⟨f, fd, ps, hs', hf, F, bd⟩ := c.ex
  refine PE_imp (pe_callTy (cr_strI F bd ps0 (hr.mono hk) hs' hf) hg hm boot_str (pa_cons ho pa_nil hs) (by decide) (by decide) hs hpl) fun σ H Q ⟨st, c, Hs, sl, sm, cu, p⟩ => ⟨st, c, Hs, sl, sm, cu, (Post.bind p).mono fun x c1 Hs1 H1 _ F1 q v1 r1 => ?_⟩
  cases x with
  | ins C' ns ds =>
    dsimp only at q
    split at q
    · rename_i h
      subst h
      obtain ⟨hC, a, dx, gs, rfl, ha, h1, h2⟩ := rl_ins.mp r1
      refine ⟨a, dx, gs, rfl, F1.sm _ _ ha, call0_of F1.sm F1.cu (rll_cons.mpr ⟨_, _, rfl, r1, rll_nil.mpr rfl⟩) (Post.bind q) fun d c' Hs' H' F z v rv => ?_⟩
      cases d with
      | str n => exact ⟨n, (rl_str.mp rv).1, z Hs' H' (Fn.refl F.sm F.cu) _ (rl_str.mpr ⟨rfl, (rl_str.mp rv).2⟩)⟩
      | _ => exact z.elim
    · exact q.elim
  | _ => exact q.elim
/-- the truth of o by __bool__ -/
theorem dt_truI (c : SpcN X.prog X.w X.K X.mg X.base k (g.cm C) "__bool__" (spD g.K g.cm g.cs (noE m))) (hr : Room j X.A) (hk : k ≤ j) (ho : DE X g E hid o mo) (he : ∀ whole, isTrue o X.env whole = (do let v ← whole; standAt o.pos; holding [v] (truthy v)) := by intro _; rfl) : DT X g E hid o (truI C m mo) := by
  obtain ⟨f, fd, ps, hs', hf, F, bd⟩ := c.ex
  refine PT_imp (pt_truthR ho (tr_boolI F bd ps0 (hr.mono hk) hs' hf) he) fun σ H Q ⟨st, c, Hs, sl, sm, cu, p⟩ => ⟨st, c, Hs, sl, sm, cu, (Post.bind p).mono fun x c1 Hs1 H1 _ F1 q v1 r1 => ?_⟩
  cases x with
  | ins C' ns ds =>
    dsimp only at q
    split at q
    · rename_i h
      subst h
      obtain ⟨hC, a, dx, gs, rfl, ha, h1, h2⟩ := rl_ins.mp r1
      refine ⟨a, dx, gs, rfl, F1.sm _ _ ha, call0_of F1.sm F1.cu (rll_cons.mpr ⟨_, _, rfl, r1, rll_nil.mpr rfl⟩) (Post.bind q) fun d c' Hs' H' F z v rv => ?_⟩
      cases d with
      | bl b => exact ⟨b, rl_bl.mp rv, z Hs' H' (Fn.refl F.sm F.cu)⟩
      | _ => exact z.elim
    · exact q.elim
  | _ => exact q.elim
end
end L2.G
set_option Elab.async false
set_option linter.all false
set_option maxRecDepth 100000
set_option maxHeartbeats 2000000
namespace L2.G
open PySem PySem.Spec PyProof.Rows L2H
/-! how arguments are laid: by position, by keyword, left out -/
inductive Src where
  | p (i : Nat) | k (i : Nat) | d (i : Nat)
def Src.at {α : Type} (vs ms zs : List α) : Src → Option α
  | .p i => vs[i]?
  | .k i => zs[i]?
  | .d i => ms[i]?
def layL {α : Type} (t : List Src) (vs ms zs : List α) : List α := t.filterMap (Src.at vs ms zs)
def layS {α : Type} (t : List Src) (vs ms zs : List α) : List α := match vs with
  | [] => []
  | x :: r => x :: layL t r ms zs
theorem paired_get {α β : Type} {R : α → β → Prop} : ∀ {xs : List α} {ys : List β}, Paired R xs ys → ∀ i : Nat, (xs[i]? = none ∧ ys[i]? = none) ∨ ∃ x y, xs[i]? = some x ∧ ys[i]? = some y ∧ R x y
  | _, _, .nil, i => .inl ⟨by simp, by simp⟩
  | _, _, .cons h r, 0 => .inr ⟨_, _, rfl, rfl, h⟩
  | _, _, .cons h r, i + 1 => by simpa using paired_get r i
theorem vals_at {vs ms zs : List V} {us mv ws : List Value} (h1 : Vals vs us) (h2 : Vals ms mv) (h3 : Vals zs ws) (s : Src) : (s.at vs ms zs = none ∧ s.at us mv ws = none) ∨ ∃ x y, s.at vs ms zs = some x ∧ s.at us mv ws = some y ∧ RelV x y := by
  cases s with
  | p i => exact paired_get h1 i
  | k i => exact paired_get h3 i
  | d i => exact paired_get h2 i
theorem vals_layL {vs ms zs : List V} {us mv ws : List Value} (h1 : Vals vs us) (h2 : Vals ms mv) (h3 : Vals zs ws) : ∀ t : List Src, Vals (layL t vs ms zs) (layL t us mv ws)
  | [] => .nil
  | s :: t => by
    have ih := vals_layL h1 h2 h3 t
    unfold layL at ih ⊢
    rcases vals_at h1 h2 h3 s with ⟨e1, e2⟩ | ⟨x, y, e1, e2, r⟩
    · rw [List.filterMap_cons_none e1, List.filterMap_cons_none e2]
      exact ih
    · rw [List.filterMap_cons_some e1, List.filterMap_cons_some e2]
      exact .cons r ih
theorem vals_layS {vs ms zs : List V} {us mv ws : List Value} (t : List Src) (h1 : Vals vs us) (h2 : Vals ms mv) (h3 : Vals zs ws) : Vals (layS t vs ms zs) (layS t us mv ws) := by
  cases h1 with
  | nil => exact .nil
  | cons h r => exact .cons h (vals_layL r h2 h3 t)
theorem rll_get {g : Ga} {Hs : Hp} {ds : List D} {vs : List V} (r : RlL g Hs ds vs) (i : Nat) : (ds[i]? = none ∧ vs[i]? = none) ∨ ∃ d v, ds[i]? = some d ∧ vs[i]? = some v ∧ Rl g Hs d v := by
  cases e : ds[i]? with
  | none =>
    refine .inl ⟨rfl, ?_⟩
    rw [List.getElem?_eq_none_iff] at e ⊢
    rw [r.length]
    exact e
  | some d =>
    obtain ⟨v, h1, h2⟩ := r.get e
    exact .inr ⟨d, v, rfl, h1, h2⟩
theorem rll_layL {g : Ga} {Hs : Hp} {ds es zs : List D} {vs ms us : List V} (h1 : RlL g Hs ds vs) (h2 : RlL g Hs es ms) (h3 : RlL g Hs zs us) : ∀ t : List Src, RlL g Hs (layL t ds es zs) (layL t vs ms us)
  | [] => rll_nil.mpr rfl
  | s :: t => by
    have ih := rll_layL h1 h2 h3 t
    have at_ : (s.at ds es zs = none ∧ s.at vs ms us = none) ∨ ∃ d v, s.at ds es zs = some d ∧ s.at vs ms us = some v ∧ Rl g Hs d v := by
      cases s with
      | p i => exact rll_get h1 i
      | k i => exact rll_get h3 i
      | d i => exact rll_get h2 i
    unfold layL at ih ⊢
    rcases at_ with ⟨e1, e2⟩ | ⟨x, y, e1, e2, r⟩
    · rw [List.filterMap_cons_none e1, List.filterMap_cons_none e2]
      exact ih
    · rw [List.filterMap_cons_some e1, List.filterMap_cons_some e2]
      exact rll_cons.mpr ⟨y, _, rfl, r, ih⟩
/-- defaults by data -/
def Dfl (K : PySem.W.Frag) (cm : Str → Addr) (cs : List Str) (dds : List D) (mz : List V) : Prop := ∀ (pc : Pc) (Hs : Hp), RlL ⟨K, cm, cs, pc⟩ Hs dds mz
theorem layS_lays {K : PySem.W.Frag} {cm : Str → Addr} {cs : List Str} {n m : Nat} {dds : List D} {mz : List V} (t : List Src) (h : Dfl K cm cs dds mz) : Lays K cm cs n m (fun ds zs => layL t ds dds zs) (fun vs zs => layS t vs mz zs) :=
  fun pc Hs x ds zs vs us _ _ r1 r2 => ⟨_, rfl, rll_layL r1 (h pc Hs) r2 t⟩
section
variable {K : PySem.W.Frag} {x qual : Str} {params : Arguments} {body : List Stmt} {scope : Scope} {dvs : List V} {kws : List (Str × V)} {f : Addr} {fd : FuncData} {ps : List Str}
/-- keyword-only defaults alone; ms: those that lack -/
theorem _root_.L2.FunD.kbindsT (F : FunD K x qual params body scope [] kws f fd) (n : Nat) (ks : List Str) (ms : List (Str × V)) (t : List Src) (hk : kws ≠ []) (hms : ∀ q ∈ ms, q ∈ kws)
    (h : ∀ (D : Addr) (doc pm : Value) (an : Option Addr) (cdv ct : Value) (us mv ws : List Value), us.length = n → mv.length = ms.length → ws.length = ks.length →
      KwChain D ((ms.map (·.1)).zip mv) (bindArgs (PySem.W.fnOf x qual params body scope .none (.ref D) doc pm an cdv ct) ⟨us, ks.zip ws⟩) (ps.zip (layS t us mv ws))) :
    ∃ mv : List Value, KBn K fd ps n ks (fun us ws => layS t us mv ws) (fun vs zs => layS t vs (ms.map (·.2)) zs) := by
  obtain ⟨oc, od, dV, kV, doc, pm, an, cdv, ct, osl, rfl, lk, hcd, hD, hK⟩ := F.ex
  rcases hD with ⟨_, rfl⟩ | ⟨e, _⟩
  · rcases hK with e | ⟨D, rfl, hq⟩
    · exact absurd e hk
    · obtain ⟨mv, hl, rk, hks⟩ := kwd_vals (ms := ms) fun q hm => hq q (hms q hm)
      exact ⟨mv, ⟨fun s us ws X l1 l2 => BindsTo.of_looks fun M => KwChain.looks X hks (h D doc pm an cdv ct us mv ws l1 hl l2), fun r1 r2 => vals_layS t r1 rk r2⟩⟩
  · exact absurd rfl e
/-- no defaults at all: every parameter by position or by keyword -/
theorem _root_.L2.FunD.kbindsN (F : FunD K x qual params body scope [] kws f fd) (n : Nat) (ks : List Str) (t : List Src)
    (h : ∀ (kV doc pm : Value) (an : Option Addr) (cdv ct : Value) (us ws : List Value), us.length = n → ws.length = ks.length →
      bindArgs (PySem.W.fnOf x qual params body scope .none kV doc pm an cdv ct) ⟨us, ks.zip ws⟩ = pure (ps.zip (layS t us [] ws))) :
    KBn K fd ps n ks (fun us ws => layS t us [] ws) (fun vs zs => layS t vs [] zs) := by
  obtain ⟨oc, od, dV, kV, doc, pm, an, cdv, ct, osl, rfl, lk, hcd, hD, hK⟩ := F.ex
  rcases hD with ⟨_, rfl⟩ | ⟨e, _⟩
  · exact ⟨fun s us ws X l1 l2 => .of_eq (h kV doc pm an cdv ct us ws l1 l2), fun r1 r2 => vals_layS t r1 .nil r2⟩
  · exact absurd rfl e
end
/-! o.m(k = e, ..) -/
def meKD (C name : Str) (m : Fd) (t : List Src) (mo : PM D) (zs : List (PM D)) : PM D := fun st c => (mo st c).bind fun o c => match o with
  | .ins C' ns _ => if C' = C ∧ name ∉ ns then (aD zs st c).bind fun es c => m (o :: layL t [] [] es) c else .no
  | _ => .no
section
variable {X : Cx} {g : Ga} {E : XK} {hid : List Nat} {zs : List (PM D)} {mo : PM D} {m : Fd} {name C : Str} {k j : Nat} {pos apos : Pos} {o : Expr} {kws : List Keyword} {ks : List Str} {t : List Src}
theorem d_meK {pl : Sem Bool} (c : MetKN X.prog X.w X.K X.mg X.base k (g.cm C) name ks (fun vs zs => layS t vs [] zs) (spD g.K g.cm g.cs m)) (hx : Passes (CN X.prog X.w) X E) (hr : Room j X.A) (hk : k ≤ j) (ho : DE X g E hid o mo) (hkw : DK X g E hid kws (aD zs)) (hz : zs.length = ks.length := by rfl)
    (hall : (backToKw pos (keywordEach kws X.env)).all (·.1.isSome) = true := by rfl) (hks : (backToKw pos (keywordEach kws X.env)).filterMap (·.1) = ks := by rfl)
    (hpl : ((backTo pos (starEach [] X.env)).any (·.1) || (backToKw pos (keywordEach kws X.env)).any (·.1.isNone)) = false := by rfl)
    (ht : eval (.Call (.Attribute o name apos) [] kws pos) X.env = (do
      let ov ← eval o X.env
      standAt apos.atName
      let (f, first) ← holding [ov] (getMethod ov name pl)
      callWith pos f first (backTo pos (starEach [] X.env)) (backToKw pos (keywordEach kws X.env))) := by rfl) :
    DE X g E hid (.Call (.Attribute o name apos) [] kws pos) (meKD C name m t mo zs) := by
  refine PE_imp (pe_mtKN (pl := pl) c hx hr hk ho hkw hall hks hpl ht) fun σ H Q ⟨st, c, Hs, sl, sm, cu, p⟩ => ⟨st, c, Hs, sl, sm, cu, (Post.bind p).mono fun x c1 Hs1 H1 _ F1 q v1 r1 => ?_⟩
  cases x with
  | ins C' ns ds =>
    dsimp only at q
    split at q
    · rename_i h
      obtain ⟨rfl, hn⟩ := h
      obtain ⟨hC, a, dx, gs, rfl, ha, h1, h2⟩ := rl_ins.mp r1
      refine ⟨a, dx, gs, rfl, F1.sm _ _ ha, (lookup_of h1 h2).1 hn, st, c1, Hs1, sl.mono F1.ss, F1.sm, F1.cu, (Post.bind q).mono fun xs c2 Hs2 H2 e2 F2 q2 vs rs => ⟨by rw [rs.length, aD_len e2, hz], ?_⟩⟩
      exact call_of F2.sm F2.cu (rll_cons.mpr ⟨_, _, rfl, Rl.mono F2.ss _ _ r1, rll_layL (rll_nil.mpr rfl) (rll_nil.mpr rfl) rs t⟩) q2
    · exact q.elim
  | _ => exact q.elim
end
end L2.G
set_option Elab.async false
set_option linter.all false
set_option maxRecDepth 100000
set_option maxHeartbeats 2000000
namespace L2.G
open PySem PySem.Spec PyProof.Rows L2H
/-! the draws of a law, by data -/
/-- one draw: what is drawn, and the state behind it -/
def sipF (a b n : Int) : Int × (Int × Int) :=
  if 0 < b then (b % n, ((a * 48271 + 11) % 2147483629, b / n)) else (((a * 48271 + 11) % 2147483629 / 1021) % n, ((a * 48271 + 11) % 2147483629, b))
def sipD : Fd := fun ds c => match ds with
  | [.cup, .int n] => match c with
    | some (a, b) => if 0 ≤ a ∧ a < 2147483629 ∧ 0 ≤ b ∧ 0 < n ∧ n < 1073741824 then .ok (.int (sipF a b n).1) (some (sipF a b n).2) else .no
    | none => .no
  | _ => .no
def spSipX : Sp := fun vs H Q _ => ∃ (p : Addr) (n a b : Int), vs = [.ref p, .int n] ∧ H p = some (.lst [.int a, .int b]) ∧ 0 ≤ a ∧ a < 2147483629 ∧ 0 ≤ b ∧ 0 < n ∧ n < 1073741824 ∧
  ∀ H' : Hp, H' p = some (.lst [.int (sipF a b n).2.1, .int (sipF a b n).2.2]) → (∀ c o, c ≠ p → H c = some o → H' c = some o) → Q (.int (sipF a b n).1) H'
theorem sip_sp {K : PySem.W.Frag} {cm : Str → Addr} {cs : List Str} : ∀ vs H Q E, spD K cm cs sipD vs H Q E → spSipX vs H Q E := by
  rintro vs H Q E ⟨pc, Hs, ds, c, sm, cu, r, p⟩
  unfold sipD at p
  split at p
  · rename_i n
    split at p
    · rename_i a b
      split at p
      · rename_i h
        obtain ⟨v, r', rfl, r1, r⟩ := rll_cons.mp r
        obtain ⟨u, r'', rfl, r2, r⟩ := rll_cons.mp r
        cases rll_nil.mp r
        obtain ⟨q, e, rfl⟩ := rl_cup.mp r1
        cases rl_int.mp r2
        have e' : pc.cup = some q := e
        obtain ⟨a', b', ec, hq⟩ := cu.on e'
        cases ec
        have nq : ¬ Off pc q := fun z => z.1 e'.symm
        refine ⟨q, n, a, b, rfl, hq, h.1, h.2.1, h.2.2.1, h.2.2.2.1, h.2.2.2.2, fun H' e1 e2 => ?_⟩
        refine p Hs H' ⟨Same.refl _, fun b o nb _ e => e2 b o (fun z => nq (z ▸ nb)) e, fun b o _ _ e => e, fun b o e => e2 b o (fun z => ?_) (sm b o e), ⟨?_, ?_, cu.th, cu.nt⟩⟩ _ (rl_int.mpr rfl)
        · rw [z, cu.off nq] at e
          cases e
        · show CupC pc.cup Hs H' _
          rw [e']
          exact ⟨cu.off nq, e1⟩
        · intro t ht
          obtain ⟨ps, h1, h2, h3⟩ := cu.tb t ht
          have keep : ∀ b o, H b = some o → (∀ xs, o ≠ .lst xs) → H' b = some o := fun b o e n => e2 b o (fun z => by rw [z, hq] at e; exact n _ (Option.some.inj e).symm) e
          refine ⟨ps, keep _ _ h1 (fun _ z => by cases z), h2, fun pos cv hc => ?_⟩
          obtain ⟨d, e3, e4⟩ := h3 pos cv hc
          exact ⟨d, e3, keep _ _ e4 (fun _ z => by cases z)⟩
      · exact p.elim
    · exact p.elim
  · exact p.elim
/-- behind a call with a new cup the cup is forgotten -/
theorem Fn.uncup {Hs H H0 Hs' H' : Hp} {p : Addr} {T : List (Addr × Str)} {c' : Cu} (F : Fn ⟨some p, T⟩ Hs H Hs' H' c') (s0 : Same H0 H) (n0 : H0 p = none) : Fn ⟨none, T⟩ Hs H0 Hs' H' none :=
  ⟨F.ss, fun b o ob t e => F.bt b o ⟨(fun z => by cases z; rw [n0] at e; cases e), ob.2⟩ t (s0 b o e), fun b o t e n => F.nw b o t (s0 b o e) n, F.sm, ⟨trivial, F.cu.tb, F.cu.th, F.cu.nt⟩⟩
open Classical in
/-- what is given with whatever cup: always True -/
noncomputable def cupD (m : Fd) (ms : List (PM D)) : PM D := fun st c => (aD ms st c).bind fun ds c => match ds with
  | [.scr ns, .int j] => if (ns.length ≤ 63 ∧ 0 ≤ j ∧ j ≤ 63) ∧ ∀ a b : Int, 0 ≤ a → a < 2147483629 → 0 ≤ b → ∃ c', m [.cup] (some (a, b)) = .ok (.bl true) c' then .ok (.bl true) c else .no
  | _ => .no
def spCupX (K : PySem.W.Frag) : Sp := fun vs H Q _ => ∃ (a : Addr) (ns : List Int) (j : Nat), vs = [.ref a, .int j] ∧ SqL K H a (ns.map V.int) ∧ ns.length ≤ 63 ∧ j ≤ 63 ∧ ∀ (p : Addr) (x y : Int) (H' : Hp), H p = none → Same H H' → H' p = some (.lst [.int x, .int y]) → 0 ≤ x → x < 2147483629 → 0 ≤ y → Q (.ref p) H'
theorem rll_ints {g : Ga} {Hs : Hp} : ∀ {ds : List D} {vs : List V}, RlL g Hs ds vs → (∀ d ∈ ds, ∃ i, d = .int i) → ∃ is : List Int, vs = is.map V.int ∧ is.length = ds.length
  | [], vs, r, _ => ⟨[], rll_nil.mp r, rfl⟩
  | d :: ds, vs, r, h => by
    obtain ⟨v, r', rfl, r1, r2⟩ := rll_cons.mp r
    obtain ⟨i, rfl⟩ := h d (by simp)
    cases rl_int.mp r1
    obtain ⟨is, rfl, l⟩ := rll_ints r2 fun x hx => h x (by simp [hx])
    exact ⟨i :: is, rfl, by simp [l]⟩
section
variable {X : Cx} {E : XK} {hid : List Nat} {ms : List (PM D)} {m : Fd} {x y : Str} {k k' j : Nat} {p p' pos pos' : Pos} {e1 e2 : Expr} {K : PySem.W.Frag} {cm : Str → Addr} {cs : List Str} {T : List (Addr × Str)}
theorem d_cup (cc : CalG X.prog X.w X.K X.mg X.base k y (spCupX K)) (cr : CalG X.prog X.w X.K X.mg X.base k' x (spL K cm cs T m)) (qt : Quiet X.A) (hr : Room j X.A) (hk : k ≤ j) (hk' : k' ≤ j) (hg : Gl X y) (hg' : Gl X x) (ha : DA X ⟨K, cm, cs, ⟨none, T⟩⟩ E hid [e1, e2] (aD ms))
    (hdb : (y == ("__debug__" : Str)) = false := by decide) (hdb' : (x == ("__debug__" : Str)) = false := by decide) (he : starEach [e1, e2] X.env = (false, eval e1 X.env) :: starEach [e2] X.env := by rfl) (hpl : (backTo pos' (starEach [e2] X.env)).any (·.1) = false := by rfl)
    (he' : starEach [.Call (.Name y p') [e1, e2] [] pos'] X.env = (false, eval (.Call (.Name y p') [e1, e2] [] pos') X.env) :: starEach [] X.env := by rfl) (hpl' : (backTo pos (starEach [] X.env)).any (·.1) = false := by rfl) :
    DE X ⟨K, cm, cs, ⟨none, T⟩⟩ E hid (.Call (.Name x p) [.Call (.Name y p') [e1, e2] [] pos'] [] pos) (cupD m ms) := by
  refine PE_imp (pe_cG cr qt hr hk' hg' (pa_cons (pe_cG cc qt hr hk hg ha hdb he hpl) pa_nil he') hdb' he' hpl') fun σ H Q ⟨st, c, Hs, sl, sm, cu, q⟩ => ⟨st, c, Hs, sl, sm, cu, (Post.bind q).mono fun ds c1 Hs1 H1 _ F1 q vs rs => ?_⟩
  split at q
  · rename_i ns i _
    split at q
    · rename_i h
      obtain ⟨⟨h1, h3, h4⟩, hm⟩ := h
      obtain ⟨v, r', rfl, r1, rs⟩ := rll_cons.mp rs
      obtain ⟨u, r'', rfl, r2, rs⟩ := rll_cons.mp rs
      cases rll_nil.mp rs
      cases rl_int.mp r2
      obtain ⟨a, rfl, ea⟩ := rl_scr.mp r1
      have ei : i = ((i.toNat : Nat) : Int) := by omega
      show spCupX K ([V.ref a, .int i] ++ []) H1 _ E0
      refine ⟨a, ns, i.toNat, by rw [← ei]; rfl, ?_, by omega, by omega, fun z b1 b2 H2 nz s12 ez b3 b4 b5 => ?_⟩
      · exact Evl.ex_l F1.sm ea
      · obtain ⟨c', em⟩ := hm b1 b2 b3 b4 b5
        show spL K cm cs T m [.ref z] H2 Q E0
        refine ⟨some z, Hs1, [.cup], some (b1, b2), F1.sm.trans s12, ⟨⟨F1.sm.free nz, ez⟩, F1.cu.tb.ext s12, F1.cu.th, F1.cu.nt⟩, rll_cons.mpr ⟨_, _, rfl, rl_cup.mpr ⟨z, rfl, rfl⟩, rll_nil.mpr rfl⟩, ?_⟩
        rw [em]
        intro Hs' H' F v rv
        cases rl_bl.mp rv
        have e0 : c1 = none := F1.cu.none_c rfl
        subst e0
        exact q Hs' H' (F.uncup s12 nz) _ (rl_bl.mpr rfl)
    · exact q.elim
  · exact q.elim
end
end L2.G
set_option Elab.async false
set_option linter.all false
set_option maxRecDepth 100000
set_option maxHeartbeats 2000000
namespace L2.G
open PySem PySem.Spec PyProof.Rows L2H
/-! C.m(..), m a static method of C -/
structure SMet (K : PySem.W.Frag) (C : Addr) (mc : Value) (m : Str) (p g : Addr) : Prop where
  rd : ClX.CRead K C mc
  at_ : PySem.W.findCls K (.ref C) mc m = some (.get (.builtin "staticmethod.__get__") (.ref p) .none (.ref C))
  rc : ∃ rest, PySem.W.recIn K p "staticmethod" = some (.ref g :: rest)
  kp : PySem.W.keepIn K (.ref g) = true
section
variable {X : Cx} {pins : List (Addr × Obj)} {σ : St} {H : Hp} {s : Shared} {C p g : Addr} {mc : Value} {m : Str} {A : Around} {E : Value → Shared → Prop}
theorem getmethsm_ok {pl : Sem Bool} {Q : Value × List Value → Shared → Prop} (I : Inv X pins σ H s) (k : SMet X.K C mc m p g) (h : ∀ s', Inv X pins σ H s' → Q (.ref g, []) s') : wpAny (model X.prog X.w) A (getMethod (.ref C) m pl) Q E s := by
  obtain ⟨rest, hp⟩ := k.rc
  exact PySem.W.method_cls I.kIn k.rd.ga (PySem.W.cls_bind I.kIn k.rd.rd k.at_ (wpAny_call (PySem.W.sm_get (s := { s with toks := s.toks + 1 }) I.kIn hp (PySem.W.handed_on rfl (h _ (I.tok _))))))
end
theorem kb_binds {K : PySem.W.Frag} {fd : FuncData} {ps : List Str} {n : Nat} (b : Binds K fd ps []) (hn : ps.length = n) : KBn K fd ps n [] (fun us _ => us) (fun vs _ => vs) :=
  ⟨fun s us ws X l1 l2 => by have := b s us X (by simp [l1, hn]); simpa using this, fun r1 _ => r1⟩
structure StaN (P : Program) (w : World) (K : PySem.W.Frag) (mg : Str → Option Value) (base : Heap) (k : Nat) (x : Str) (C : Addr) (m : Str) (n : Nat) (ks : List Str) (gV : List V → List V → List V) (sp : Sp) : Prop where
  ex : ∃ (mc : Value) (p f : Addr) (fd : FuncData) (ps : List Str) (g : List Value → List Value → List Value), SMet K C mc m p f ∧ FnOk P w K mg base (CN P w) k f fd ps sp ∧ mg x = some (.ref C) ∧ KBn K fd ps n ks g gV
section
variable {X : Cx} {k j n : Nat} {C : Addr} {sp : Sp} {E : XK} {x m : Str} {p pos apos : Pos} {e : Expr} {es : List Expr} {t tk : TA} {kws : List Keyword} {ks : List Str} {gV : List V → List V → List V}
theorem pe_sta {pl : Sem Bool} (c : StaN X.prog X.w X.K X.mg X.base k x C m n ks gV sp) (hx : Passes (CN X.prog X.w) X E) (hr : Room j X.A) (hk : k ≤ j) (hg : Gl X x) (ha : PA X (e :: es) t) (hkw : PK X kws tk) (hd : (x == ("__debug__" : Str)) = false := by decide)
    (hall : (backToKw pos (keywordEach kws X.env)).all (·.1.isSome) = true := by rfl) (hks : (backToKw pos (keywordEach kws X.env)).filterMap (·.1) = ks := by rfl)
    (he : starEach (e :: es) X.env = (false, eval e X.env) :: starEach es X.env := by rfl)
    (hpl : ((backTo pos (starEach (e :: es) X.env)).any (·.1) || (backToKw pos (keywordEach kws X.env)).any (·.1.isNone)) = false := by rfl)
    (ht : eval (.Call (.Attribute (.Name x p) m apos) (e :: es) kws pos) X.env = (do
      let ov ← eval (.Name x p) X.env
      standAt apos.atName
      let (f, first) ← holding [ov] (getMethod ov m pl)
      callWith pos f first (backTo pos (starEach (e :: es) X.env)) (backToKw pos (keywordEach kws X.env))) := by rfl) :
    PE X (.Call (.Attribute (.Name x p) m apos) (e :: es) kws pos) (tCallN n ks.length sp gV E t tk) := by
  obtain ⟨mc, p', f, fd, ps, g, sm, F, hm, b⟩ := c.ex
  refine ⟨fun pins s σ H Q I h => PySem.W.methodCall_KW (pl := pl) (thn ((pe_glob (pos := p) (v := .ref C) hg hm rfl hd).run pins s σ H (fun v H' => v = .ref C ∧ H' = H) I ⟨rfl, rfl⟩) ?_) ht⟩
  rintro u s1 ⟨y, H1, I1, rx, rfl, rfl⟩
  cases (show u = Value.ref C from rx)
  refine getmethsm_ok I1 sm fun s2 I2 => ?_
  refine PySem.W.callWith_KW (h₀ := X.base) I.ok.mod.kin sm.kp hall (thn (ha.run pos pins s2 σ H1 _ I2 h) fun us s3 ⟨vs, H3, I3, r, q⟩ => ?_) hpl he
  refine thn (hkw.run pos pins s3 σ H3 _ I3 q) fun ws s4 ⟨zs, H4, I4, rz, l1, l2, q4⟩ => ⟨I4.kIn, ?_⟩
  rw [hks]
  exact run_fnN F (hr.mono hk) b hx I4 r rz l1 l2 q4
theorem pe_staK {pl : Sem Bool} (c : StaN X.prog X.w X.K X.mg X.base k x C m 0 ks gV sp) (hx : Passes (CN X.prog X.w) X E) (hr : Room j X.A) (hk : k ≤ j) (hg : Gl X x) (hkw : PK X kws tk) (hd : (x == ("__debug__" : Str)) = false := by decide)
    (hall : (backToKw pos (keywordEach kws X.env)).all (·.1.isSome) = true := by rfl) (hks : (backToKw pos (keywordEach kws X.env)).filterMap (·.1) = ks := by rfl)
    (hpl : ((backTo pos (starEach [] X.env)).any (·.1) || (backToKw pos (keywordEach kws X.env)).any (·.1.isNone)) = false := by rfl)
    (ht : eval (.Call (.Attribute (.Name x p) m apos) [] kws pos) X.env = (do
      let ov ← eval (.Name x p) X.env
      standAt apos.atName
      let (f, first) ← holding [ov] (getMethod ov m pl)
      callWith pos f first (backTo pos (starEach [] X.env)) (backToKw pos (keywordEach kws X.env))) := by rfl) :
    PE X (.Call (.Attribute (.Name x p) m apos) [] kws pos) (tCallKE ks.length sp gV E tk) := by
  obtain ⟨mc, p', f, fd, ps, g, sm, F, hm, b⟩ := c.ex
  refine ⟨fun pins s σ H Q I h => PySem.W.methodCall_KW (pl := pl) (thn ((pe_glob (pos := p) (v := .ref C) hg hm rfl hd).run pins s σ H (fun v H' => v = .ref C ∧ H' = H) I ⟨rfl, rfl⟩) ?_) ht⟩
  rintro u s1 ⟨y, H1, I1, rx, rfl, rfl⟩
  cases (show u = Value.ref C from rx)
  refine getmethsm_ok I1 sm fun s2 I2 => ?_
  refine PySem.W.callWith_KW0 (h₀ := X.base) I.ok.mod.kin sm.kp hall (thn (hkw.run pos pins s2 σ H1 _ I2 h) ?_) hpl
  rintro ws s3 ⟨zs, H3, I3, rz, l2, q3⟩
  refine ⟨I3.kIn, ?_⟩
  rw [hks]
  exact run_fnN (vs := []) F (hr.mono hk) b hx I3 .nil rz rfl l2 q3
end
/-! by data -/
def staKD (m : Fd) (t : List Src) (zs : List (PM D)) : PM D := fun st c => (aD zs st c).bind fun es c => m (layL t [] [] es) c
section
variable {X : Cx} {g : Ga} {E : XK} {hid : List Nat} {ms zs : List (PM D)} {m : Fd} {x name C : Str} {k j n : Nat} {p pos apos : Pos} {e : Expr} {es : List Expr} {kws : List Keyword} {ks : List Str} {t : List Src}
theorem d_sta {pl : Sem Bool} (c : StaN X.prog X.w X.K X.mg X.base k x (g.cm C) name n [] (fun vs _ => vs) (spD g.K g.cm g.cs m)) (hx : Passes (CN X.prog X.w) X E) (hr : Room j X.A) (hk : k ≤ j) (hg : Gl X x) (ha : DA X g E hid (e :: es) (aD ms)) (hn : ms.length = n := by rfl) (hd : (x == ("__debug__" : Str)) = false := by decide)
    (he : starEach (e :: es) X.env = (false, eval e X.env) :: starEach es X.env := by rfl) (hpl : ((backTo pos (starEach (e :: es) X.env)).any (·.1) || (backToKw pos (keywordEach [] X.env)).any (·.1.isNone)) = false := by rfl)
    (hall : (backToKw pos (keywordEach [] X.env)).all (·.1.isSome) = true := by rfl) (hks : (backToKw pos (keywordEach [] X.env)).filterMap (·.1) = [] := by rfl)
    (ht : eval (.Call (.Attribute (.Name x p) name apos) (e :: es) [] pos) X.env = (do
      let ov ← eval (.Name x p) X.env
      standAt apos.atName
      let (f, first) ← holding [ov] (getMethod ov name pl)
      callWith pos f first (backTo pos (starEach (e :: es) X.env)) (backToKw pos (keywordEach [] X.env))) := by rfl) :
    DE X g E hid (.Call (.Attribute (.Name x p) name apos) (e :: es) [] pos) (caD m ms) := by
  refine PE_imp (pe_sta (pl := pl) c hx hr hk hg ha pk_nil hd hall hks he hpl ht) fun σ H Q ⟨st, c, Hs, sl, sm, cu, p⟩ => ⟨st, c, Hs, sl, sm, cu, (Post.bind p).mono fun ds c1 Hs1 H1 e1 F1 q vs rs => ?_⟩
  exact ⟨by rw [rs.length, aD_len e1, hn], rfl, call_of F1.sm F1.cu rs q⟩
theorem d_staK {pl : Sem Bool} (c : StaN X.prog X.w X.K X.mg X.base k x (g.cm C) name 0 ks (fun _ zs => layL t [] [] zs) (spD g.K g.cm g.cs m)) (hx : Passes (CN X.prog X.w) X E) (hr : Room j X.A) (hk : k ≤ j) (hg : Gl X x) (hkw : DK X g E hid kws (aD zs)) (hz : zs.length = ks.length := by rfl) (hd : (x == ("__debug__" : Str)) = false := by decide)
    (hall : (backToKw pos (keywordEach kws X.env)).all (·.1.isSome) = true := by rfl) (hks : (backToKw pos (keywordEach kws X.env)).filterMap (·.1) = ks := by rfl)
    (hpl : ((backTo pos (starEach [] X.env)).any (·.1) || (backToKw pos (keywordEach kws X.env)).any (·.1.isNone)) = false := by rfl)
    (ht : eval (.Call (.Attribute (.Name x p) name apos) [] kws pos) X.env = (do
      let ov ← eval (.Name x p) X.env
      standAt apos.atName
      let (f, first) ← holding [ov] (getMethod ov name pl)
      callWith pos f first (backTo pos (starEach [] X.env)) (backToKw pos (keywordEach kws X.env))) := by rfl) :
    DE X g E hid (.Call (.Attribute (.Name x p) name apos) [] kws pos) (staKD m t zs) := by
  refine PE_imp (pe_staK (pl := pl) c hx hr hk hg hkw hd hall hks hpl ht) fun σ H Q ⟨st, c, Hs, sl, sm, cu, p⟩ => ⟨st, c, Hs, sl, sm, cu, (Post.bind p).mono fun es c1 Hs1 H1 e1 F1 q vs rs => ?_⟩
  exact ⟨by rw [rs.length, aD_len e1, hz], call_of F1.sm F1.cu (rll_layL (rll_nil.mpr rfl) (rll_nil.mpr rfl) rs t) q⟩
end
end L2.G
set_option Elab.async false
set_option linter.all false
set_option maxRecDepth 100000
set_option maxHeartbeats 2000000
namespace L2.G
open PySem PySem.Spec PyProof.Rows L2H
/-! try, where nothing is raised -/
def tryS (f : PM Fl) : PM Fl := fun st c => match f st c with
  | .er _ _ => .no
  | r => r
theorem s_try {X : Cx} {g : Ga} {E : XK} {fx : List (Nat × V)} {Hs0 H0 : Hp} {ow ow' : List Nat} {f : PM Fl} {body : List Stmt} {h₀ : ExceptHandler} {hs : List ExceptHandler} {pos : Pos} (hb : DB X.nox g EF fx Hs0 H0 ow ow' body f) : DS X g E fx Hs0 H0 ow ow' (.Try body (h₀ :: hs) [] [] pos) (tryS f) := by
  refine PS_imp (ps_try_thru0 hb) fun D σ H ⟨st, c, Hs, s, p⟩ => ⟨st, c, Hs, s, ?_⟩
  unfold tryS at p
  revert p
  cases f st c with
  | no => exact fun z => z
  | er x c => exact fun z => z.elim
  | ok fl c =>
    cases fl with
    | nx st => exact fun z => z
    | rt d => exact fun z => z
/-! the law itself: no cup stands -/
def spD0 (K : PySem.W.Frag) (cm : Str → Addr) (cs : List Str) (T : List (Addr × Str)) (m : Fd) : Sp := fun vs H Q E => ∃ (Hs : Hp) (ds : List D), Same Hs H ∧ CupAt ⟨none, T⟩ Hs H none ∧ RlL ⟨K, cm, cs, ⟨none, T⟩⟩ Hs ds vs ∧ Post ⟨K, cm, cs, ⟨none, T⟩⟩ E Hs H (m ds none) fun d _ Hs' H' => ∀ v, Rl ⟨K, cm, cs, ⟨none, T⟩⟩ Hs' d v → Q v H'
section
variable {P : Program} {w : World} {K : PySem.W.Frag} {mg : Str → Option Value} {base : Heap} {k : Nat} {f : Addr} {fd : FuncData} {ps N : List Str} {cm : Str → Addr} {cs : List Str} {ow : List Nat} {fb : PM Fl} {x qual : Str} {st : Stmt}
theorem _root_.L2.Fun.okL0 {T : List (Addr × Str)} {cdv : Value} (F : Fun K x qual st f fd) (hc : fd.code = cdv) (S : FnScope N ps (defScope st))
    (hb : ∀ (A : Around) (outer : List Env) (s : Shared) (H Hs : Hp) (E : XK), Quiet (A.deeper (envOfC qual (defScope st) s.heap.objs.size f cdv)) → Room k (A.deeper (envOfC qual (defScope st) s.heap.objs.size f cdv)) →
      DB (cxOf CX0 P w K mg base N qual (defScope st) f cdv A outer s H E).nox ⟨K, cm, cs, ⟨none, T⟩⟩ EF [] Hs H [] ow (defBody st) fb) : FnOkG P w K mg base CX0 (k + 1) f fd ps (spD0 K cm cs T (noE (fnD ps.length N.length fb))) := by
  refine F.okGC hc S (fun vs H Q E ⟨Hs, ds, sm, cu, r, p⟩ => spD_lenN vs H Q E ⟨⟨none, T⟩, Hs, ds, none, sm, cu, r, p⟩) fun A outer s H vs Q E qt hr h => ?_
  obtain ⟨Hs, ds, sm, cu, r, p⟩ := h
  unfold noE fnD at p
  by_cases hl : ds.length = ps.length
  · rw [if_pos hl] at p
    refine ⟨_, hb A outer s H Hs E qt hr, _, none, Hs, sis_start (g := ⟨K, cm, cs, ⟨none, T⟩⟩) sm cu r hl, post_fn ?_⟩
    revert p
    cases (fb (ds.map some ++ List.replicate (N.length - ps.length) none) none).bind fun fl c => match fl with
      | .rt d => R.ok d c
      | .nx _ => .ok .non c with
    | no => exact fun z => z
    | ok d c => exact fun z => z
    | er x c => exact fun z => z.elim
  · rw [if_neg hl] at p
    exact p.elim
end
end L2.G
set_option Elab.async false
set_option linter.all false
set_option maxRecDepth 100000
set_option maxHeartbeats 4000000
namespace L2.G
open PySem PySem.Spec PyProof.Rows L2H
/-! errors caught, by data: what the helpers of the laws tell -/
structure TCl (K : PySem.W.Frag) (mg : Str → Option Value) where
  cl : Nat → Addr
  g_NotASign : mg "NotASign" = some (.ref (cl 0))
  g_NotARecord : mg "NotARecord" = some (.ref (cl 1))
  g_InvalidText : mg "InvalidText" = some (.ref (cl 2))
  g_InvalidPace : mg "InvalidPace" = some (.ref (cl 3))
  g_InvalidWidth : mg "InvalidWidth" = some (.ref (cl 4))
  g_InvalidPlace : mg "InvalidPlace" = some (.ref (cl 5))
  g_InvalidLength : mg "InvalidLength" = some (.ref (cl 6))
  g_InvalidTime : mg "InvalidTime" = some (.ref (cl 7))
  g_InvalidWindow : mg "InvalidWindow" = some (.ref (cl 8))
  g_InvalidName : mg "InvalidName" = some (.ref (cl 9))
  g_InvalidClaim : mg "InvalidClaim" = some (.ref (cl 10))
  g_InvalidIndex : mg "InvalidIndex" = some (.ref (cl 11))
  g_InvalidLine : mg "InvalidLine" = some (.ref (cl 12))
  g_InvalidDead : mg "InvalidDead" = some (.ref (cl 13))
  g_InvalidPaces : mg "InvalidPaces" = some (.ref (cl 14))
  g_InvalidGroups : mg "InvalidGroups" = some (.ref (cl 15))
  g_InvalidTimes : mg "InvalidTimes" = some (.ref (cl 16))
  g_InvalidDeeds : mg "InvalidDeeds" = some (.ref (cl 17))
  g_UnknownName : mg "UnknownName" = some (.ref (cl 18))
  g_InUse : mg "InUse" = some (.ref (cl 19))
  g_TooMany : mg "TooMany" = some (.ref (cl 20))
  g_OtherKind : mg "OtherKind" = some (.ref (cl 21))
  g_Broken : mg "Broken" = some (.ref (cl 22))
  g_NothingToUndo : mg "NothingToUndo" = some (.ref (cl 23))
  g_WrongValue : mg "WrongValue" = some (.ref (cl 24))
  g_WrongName : mg "WrongName" = some (.ref (cl 25))
  g_NoAnswer : mg "NoAnswer" = some (.ref (cl 26))
  b_ValueError : mg "ValueError" = none
  b_LookupError : mg "LookupError" = none
  b_ArithmeticError : mg "ArithmeticError" = none
section
variable {P : Program} {w : World} {K : PySem.W.Frag} {mg : Str → Option Value} {base : Heap}
theorem isP_ref {D a c dd : Addr} {fs : List (Str × V)} {b : Bool} {H : Hp} {Q : VK} (hd : H dd = some (.xd fs)) (hk : PySem.W.kitOne K (.ref D) (.ref c) = some b) (q : Q (.bl b) H) : rIsP K D a (some dd) [.ref a, .ref c] H Q :=
  ⟨.inr ⟨dd, fs, rfl, hd⟩, .ref c, .ref c, b, rfl, fun u hu => hu, hk, q⟩
theorem isP_ty {D a dd : Addr} {n : String} {fs : List (Str × V)} {b : Bool} {H : Hp} {Q : VK} (hd : H dd = some (.xd fs)) (hk : PySem.W.kitOne K (.ref D) (.type n) = some b) (q : Q (.bl b) H) : rIsP K D a (some dd) [.ref a, .ty n] H Q :=
  ⟨.inr ⟨dd, fs, rfl, hd⟩, .ty n, .type n, b, rfl, fun u hu => hu, hk, q⟩
/-- what isinstance answers of an exception of the class D, class by class -/
structure KitOf (T : TCl K mg) (D : Addr) (kit ab : Nat → Bool) : Prop where
  own : ∀ i, i < 24 → PySem.W.kitOne K (.ref D) (.ref (T.cl i)) = some (kit i)
  top : ∀ i, i < 3 → PySem.W.kitOne K (.ref D) (.ref (T.cl (24 + i))) = some (ab i)
  ve : PySem.W.kitOne K (.ref D) (.type "ValueError") = some (ab 3)
  le : PySem.W.kitOne K (.ref D) (.type "LookupError") = some (ab 4)
  ae : PySem.W.kitOne K (.ref D) (.type "ArithmeticError") = some (ab 5)
def codesOf (kit ab : Nat → Bool) : List V := ((List.range 24).filter kit).map (fun i : Nat => V.int i) ++ ((List.range 6).filter ab).map (fun i : Nat => V.int (30 + i))
def spClasses (T : TCl K mg) : Addr × Obj → Sp := fun p vs H Q E => ∃ (D dd : Addr) (fs : List (Str × V)) (kit ab : Nat → Bool), vs = [.ref p.1] ∧ ExcC K D ∧ Zc (.ref D) (some dd) p.2 ∧ (∃ vs, p.2.data = .fields vs) ∧ H dd = some (.xd fs) ∧ KitOf T D kit ab ∧
  ∀ L H', Same H H' → H' L = some (.lst (codesOf kit ab)) → Q (.ref L) H'
theorem same_none {H H' : Hp} {q : Addr} (e : Same H H') (n : H' q = none) : H q = none := by
  cases h : H q with
  | none => rfl
  | some o => rw [e q o h] at n; cases n
theorem ne_old {H : Hp} {a b : Addr} {o : HO} (h : H a = some o) (n : H b = none) : a ≠ b := fun e => by rw [e, n] at h; cases h
end
section
variable {X : Cx} {a : Addr} {oe : Obj} {cls : Value} {d : Option Addr} {pn : List (Addr × Obj)} {e : Expr} {te : TE} {pos : Pos} {n : Str}
/-- the field of a caught exception, its class told in the reading -/
def tXfA (K : PySem.W.Frag) (a : Addr) (cls : Value) (d : Option Addr) (f : Str) (te : TE) : TE := fun σ H Q => te σ H fun x H1 => x = .ref a ∧ ∃ (C dd : Addr) (fs : List (Str × V)) (v : V), cls = .ref C ∧ XfC K C ∧ PySem.W.findIn K (.ref C) f = some none ∧ d = some dd ∧ H1 dd = some (.xd fs) ∧ fs.lookup f = some v ∧ Q v H1
theorem pe_xfA (hz : Zc cls d oe) (hf : ∃ vs, oe.data = .fields vs) (he : PE (X.suite a ((a, oe) :: pn)) e te) (hb : attributeBase e n X.env (eval e X.env) = eval e X.env := by rfl) :
    PE (X.suite a ((a, oe) :: pn)) (.Attribute e n pos) (tXfA X.K a cls d n te) := by
  refine ⟨fun pins s σ H Q I h => attr_of hb (thn (he.run pins s σ H _ I h) ?_)⟩
  rintro u s1 ⟨x, H1, I1, rx, rfl, C, dd, fs, v, rfl, T, no, rfl, hd, l, q⟩
  cases (show u = Value.ref a from rx)
  obtain ⟨vs, ev⟩ := hf
  obtain ⟨mA, ns, rel⟩ := (show ObjOk X.prog X.w H1 s1.heap dd (.xd fs) from I1.hok dd _ hd)
  obtain ⟨od, ho, hl⟩ := lookIn_ns ns
  obtain ⟨y, hy, ry⟩ := RelO.some_of (v := v) (o := mA n) (by rw [← l]; exact rel n)
  have at_ : PySem.W.InstAt s1.heap a oe C (some od) := ⟨(I1.pin (a, oe) (List.mem_append_left _ List.mem_cons_self)).1, hz.1, by unfold PySem.W.notCls; rw [ev] <;> rfl, by rw [hz.2]; exact ho⟩
  exact HandSPX.exc_get I1.kIn at_ T.ga T.gg T.exC (PySem.W.findObj_own T.hdC no rfl (by rw [hl, hy])) (handed_of ry) ⟨v, H1, I1.tok _, ry, q⟩
end
section
variable {X : Cx}
/-- the table of classes, asked of a caught exception at a: told by its class and its dict -/
def spCls {K : PySem.W.Frag} {mg : Str → Option Value} (T : TCl K mg) (a : Addr) (cls : Value) (d : Option Addr) : Sp := fun vs H Q E => ∃ (D dd : Addr) (fs : List (Str × V)) (kit ab : Nat → Bool), vs = [.ref a] ∧ cls = .ref D ∧ d = some dd ∧ ExcC K D ∧ H dd = some (.xd fs) ∧ KitOf T D kit ab ∧
  ∀ L H', Same H H' → H' L = some (.lst (codesOf kit ab)) → Q (.ref L) H'
theorem hot_suite {a : Addr} {oe : Obj} {cls : Value} {d : Option Addr} {pn : List (Addr × Obj)} (hz : L2N.Zn cls d oe) (hf : ∃ vs, oe.data = .fields vs) : Hot1 (X.suite a pn).A (a, oe) := by
  obtain ⟨vs, ev⟩ := hf
  exact ⟨rfl, vs, ev, hz.2.2 vs ev⟩
theorem pe_cls {Y : Cx} {K : PySem.W.Frag} {mg : Str → Option Value} {T : TCl K mg} (eK : K = Y.K) (em : mg = Y.mg) {k j : Nat} {f a : Addr} {fd : FuncData} {ps : List Str} {x : Str} {q pos : Pos} {e : Expr} {es : List Expr} {t : TA} {oe : Obj} {cls : Value} {d : Option Addr} (F : FnE Y.prog Y.w K mg Y.base k f fd ps (spClasses T))
    (hot : Hot1 Y.A (a, oe)) (hp : (a, oe) ∈ Y.pn) (hz : Zc cls d oe) (hf : ∃ vs, oe.data = .fields vs) (hr : RoomH j Y.A) (hk : k ≤ j) (hg : Gl Y x) (hm : Y.mg x = some (.ref f)) (kp : PySem.W.keepIn Y.K (.ref f) = true) (hb : Binds Y.K fd ps []) (ha : PA Y (e :: es) t)
    (mt : ∀ σ H (Q Q' : List V → Hp → Prop), (∀ vs H', Q vs H' → Q' vs H') → t σ H Q → t σ H Q')
    (hdb : (x == ("__debug__" : Str)) = false := by decide) (he : starEach (e :: es) Y.env = (false, eval e Y.env) :: starEach es Y.env := by rfl) (hpl : (backTo pos (starEach es Y.env)).any (·.1) = false := by rfl) :
    PE Y (.Call (.Name x q) (e :: es) [] pos) (tCall (spCls T a cls d) [] E0 t) := by
  subst eK em
  have h := pe_callE (q := q) (pos := pos) (p := (a, oe)) F hot hp hr hk hg hm kp hb ha hdb he hpl
  refine ⟨fun pins s σ H Q I hq => h.run pins s σ H Q I (mt _ _ _ _ ?_ hq)⟩
  rintro vs H1 ⟨D, dd, fs, kit, ab, e1, rfl, rfl, ec, hd, kt, fin⟩
  exact ⟨D, dd, fs, kit, ab, e1, ec, hz, hf, hd, kt, fin⟩
theorem mono1 {i : Nat} : ∀ σ H (Q Q' : List V → Hp → Prop), (∀ vs H', Q vs H' → Q' vs H') → (tCons (tVar i) tNil) σ H Q → (tCons (tVar i) tNil) σ H Q' := by
  rintro σ H Q Q' m ⟨v, e, h⟩
  exact ⟨v, e, m _ _ h⟩
def fldOf (i : Nat) : Str := if i < 13 ∨ i = 18 ∨ i = 21 then "given" else if i = 20 then "most" else "index"
structure ErrI {K : PySem.W.Frag} {mg : Str → Option Value} (T : TCl K mg) (D : Addr) (i : Nat) (ab : Nat → Bool) : Prop where
  lt : i < 23
  ec : ExcC K D
  xf : XfC K D
  no : PySem.W.findIn K (.ref D) (fldOf i) = some none
  kt : KitOf T D (fun j => j == i) ab
  ex : PySem.W.exmAny K (.ref D) [.ref (T.cl 24), .ref (T.cl 25), .ref (T.cl 26)] = some true
/-- what is caught, told -/
def toldOf (i : Nat) (ab : Nat → Bool) (v : V) : List V := .int i :: (((List.range 6).filter ab).map (fun i : Nat => V.int (30 + i)) ++ [v])
def TCaught {K : PySem.W.Frag} {mg : Str → Option Value} (T : TCl K mg) (rR : List V → Hp → VK → Prop) : (XK → Hp → VK → Prop) → Hp → VK → Prop := fun tl H Q =>
  tl (fun cls d H' => ∃ (D dd : Addr) (i : Nat) (ab : Nat → Bool) (y : V), cls = .ref D ∧ d = some dd ∧ H' dd = some (.xd [(fldOf i, y)]) ∧ ErrI T D i ab ∧
      ∀ H2, Same H' H2 → rR [y] H2 fun v H3 => ∀ L H4, H3 L = none → Same H3 H4 → H4 L = some (.lst (toldOf i ab v)) → Q (.ref L) H4)
    H fun v H' => [V.str "given", v].length ≤ sizeLine ∧ ∀ L, H' L = none → Q (.ref L) (upd H' L (.lst [.str "given", v]))
end
end L2.G
set_option Elab.async false
set_option linter.all false
set_option maxRecDepth 100000
set_option maxHeartbeats 4000000
namespace L2.G
open PySem PySem.Spec PyProof.Rows L2H LamX
/-! what the law's helper tells of a lambda, by data -/
def cauD (tab : Str → Option (Nat × List Nat)) (me : PM D) : PM D := fun st c => match me st c with
  | .no => .no
  | .ok d c' => .ok (.lst [.str "given", d]) c'
  | .er x c' => match tab x.cls, x.ds with
    | some (i, bs), [y] => if x.ns = [fldOf i] ∧ shwOk y = true then .ok (.lst (.int i :: (bs.map (fun j : Nat => D.int j) ++ [.str (shwD y)]))) c' else .no
    | _, _ => .no
/-- what is known of the errors' classes -/
structure ErrT {K : PySem.W.Frag} {mg : Str → Option Value} (T : TCl K mg) (cm : Str → Addr) (tab : Str → Option (Nat × List Nat)) : Prop where
  at_ : ∀ C i bs, tab C = some (i, bs) → ∃ ab, ErrI T (cm C) i ab ∧ (List.range 6).filter ab = bs.map (· - 30) ∧ ∀ j ∈ bs, 30 ≤ j
theorem CupAt.ext {pc : Pc} {Hs H H' : Hp} {c : Cu} (h : CupAt pc Hs H c) (e : Same H H') : CupAt pc Hs H' c := h.hp (fun p _ o ho => e p o ho) (h.tb.ext e)
theorem txt_given : txtOk (Str.ofString "given") = true := by decide +kernel
theorem cau_of {X : Cx} {g : Ga} {E : XK} {hid : List Nat} {σ : St} {H : Hp} {Q : VK} {me : PM D} {tab : Str → Option (Nat × List Nat)} {mg : Str → Option Value} {Tc : TCl g.K mg} (ht : ErrT Tc g.cm tab) :
    tE g E hid (cauD tab me) σ H Q → tLam g.pc.tabs (TCaught Tc (rRp g.K)) (fun E => tE g E hid me) σ H Q := by
  rintro ⟨st, c, Hs, sl, sm, cu, p⟩
  refine ⟨cu.tb, fun H1 ex tb1 => ?_⟩
  have sm1 : Same Hs H1 := fun b o e => ex b o (sm b o e) fun ps z => cu.nt b ps (z ▸ e)
  have cu1 : CupAt g.pc Hs H1 c := cu.hp (fun q hq o ho => ex q o ho fun ps z => by
    obtain ⟨a, b, _, e⟩ := cu.on hq
    rw [e] at ho
    cases ho
    cases z) tb1
  have F01 : Fn g.pc Hs H Hs H1 c := by
    exact ⟨Same.refl _, fun b o _ t e => ex b o e t, fun _ _ _ _ n => n, sm1, cu1⟩
  show tE g _ hid me σ H1 _
  refine ⟨st, c, Hs, sl, sm1, cu1, ?_⟩
  unfold cauD at p
  cases em : me st c with
  | no => rw [em] at p; exact p
  | ok d c' =>
    rw [em] at p
    intro Hs' H' F v rv
    refine ⟨by rw [sizeLine_eq]; simp, fun L nL => ?_⟩
    refine p (upd Hs' L (.lst [.str "given", v])) _ ((F01.trans F).trans (Fn.new F.sm F.cu nL)) (.ref L) (rl_lst.mpr ⟨L, _, rfl, upd_same, by rw [sizeLine_eq]; simp, rll_cons.mpr ⟨_, _, rfl, rl_str.mpr ⟨rfl, txt_given⟩, rll_cons.mpr ⟨_, _, rfl, Rl.mono (same_new (F.sm.free nL)) d v rv, rll_nil.mpr rfl⟩⟩⟩)
  | er x c' =>
    rw [em] at p
    dsimp only at p
    split at p
    · rename_i i bs y et ey
      split at p
      · rename_i hn
        obtain ⟨hns, hsh⟩ := hn
        rintro cls dx Hs' H' F ⟨rfl, dd, gs, rfl, hd, hg, rl⟩
        rw [hns] at hg
        rw [ey] at rl
        obtain ⟨yv, rest, e1, ry, r2⟩ := rll_cons.mp rl
        have e3 := rll_nil.mp r2
        subst e3
        obtain ⟨q, rfl⟩ : ∃ q, gs = [q] := by
          cases gs with
          | nil => cases hg
          | cons q r =>
            cases r with
            | nil => exact ⟨q, rfl⟩
            | cons z r => simp at hg
        have eq1 : q = (fldOf i, yv) := by
          obtain ⟨a, b⟩ := q
          simp at hg e1
          rw [hg, e1]
        subst eq1
        obtain ⟨ab, er, eb, hb⟩ := ht.at_ _ _ _ et
        refine ⟨g.cm x.cls, dd, i, ab, yv, rfl, rfl, F.sm _ _ hd, er, fun H2 e2 => ?_⟩
        obtain ⟨sw, tk⟩ := shw_of (H := H2) (F.sm.trans e2) hsh ry
        refine ⟨yv, shwD y, rfl, sw, fun L H4 nL e4 lL => ?_⟩
        have s4 : Same H' H4 := e2.trans e4
        have nL' : H' L = none := by
          cases z : H' L with
          | none => rfl
          | some o => rw [e2 _ _ z] at nL; cases nL
        have cu4 : CupAt g.pc Hs' H4 c' := F.cu.ext s4
        have F4 : Fn g.pc Hs H Hs' H4 c' := by
          have F0 := F01.trans F
          exact ⟨F0.ss, fun b o ob t e => s4 b o (F0.bt b o ob t e), F0.nw, F.sm.trans s4, cu4⟩
        have hL0 : Fr H L := fun o t z => by
          rw [(F01.trans F).bt L o (F.cu.ne nL') t z] at nL'
          cases nL'
        have F5 := F4.show_ hL0 lL (F.sm.free nL') (F.cu.ne nL') (plain_lst _).1
        have el : toldOf i ab (.str (shwD y)) = V.int i :: (bs.map (fun j : Nat => V.int j) ++ [.str (shwD y)]) := by
          unfold toldOf
          rw [eb]
          congr 2
          rw [List.map_map]
          apply List.map_congr_left
          intro j hj
          have := hb j hj
          simp only [Function.comp_apply]
          congr 1
          omega
        rw [el] at lL F5
        have bl : bs.length ≤ 6 := by
          have := congrArg List.length eb
          rw [List.length_map] at this
          have h6 := List.length_filter_le ab (List.range 6)
          rw [List.length_range] at h6
          omega
        refine p _ _ F5 (.ref L) (rl_lst.mpr ⟨L, _, rfl, upd_same, by rw [sizeLine_eq]; simp; omega, rll_cons.mpr ⟨_, _, rfl, rl_int.mpr rfl, ?_⟩⟩)
        exact (RlL.map (fun j : Nat => D.int j) (fun j : Nat => V.int j) fun j _ => rl_int.mpr rfl).append (rll_cons.mpr ⟨_, _, rfl, rl_str.mpr ⟨rfl, tk⟩, rll_nil.mpr rfl⟩)
      · exact p.elim
    · exact p.elim
end L2.G
set_option Elab.async false
set_option linter.all false
set_option maxRecDepth 100000
set_option maxHeartbeats 400000
namespace L2.G
open PySem PySem.Spec PyProof.Rows L2H LamX
/-- the law's helper that catches -/
structure CauC (P : Program) (w : World) (K : PySem.W.Frag) (mg : Str → Option Value) (base : Heap) (cm : Str → Addr) (tab : Str → Option (Nat × List Nat)) : Prop where
  ex : ∃ (g0 : Addr) (oc : Value) (od : Option Addr) (osl : Array (Option Value)) (pg : Arguments) (bg : List Stmt) (sg : Scope) (dV kV doc pm cdv ct : Value) (an : Option Addr) (Ng : List Str) (Tc : TCl K mg),
    mg "_law_caught" = some (.ref g0) ∧ PySem.W.keepIn K (.ref g0) = true ∧ K.lookup g0 = some ⟨oc, od, .func (PySem.W.fnOf "_law_caught" "_law_caught" pg bg sg dV kV doc pm an cdv ct), osl⟩ ∧ PySem.W.codeIn K cdv "_law_caught" = true ∧
    L2.Binds K (PySem.W.fnOf "_law_caught" "_law_caught" pg bg sg dV kV doc pm an cdv ct) ["_law_act"] [] ∧ FnScope Ng ["_law_act"] sg ∧ Ng[0]? = some ("_law_act" : Str) ∧ Vis sg "_law_act" ∧ ErrT Tc cm tab ∧
    ∀ X : Cx, X.prog = P → X.w = w → X.K = K → X.mg = mg → X.base = base → Quiet X.A → ∀ q, GivesN X Ng "_law_caught" sg g0 cdv bg "_law_act" q (TCaught Tc (rRp K))
theorem d_caught {X : Cx} {g : Ga} {E : XK} {hid : List Nat} {me : PM D} {tab : Str → Option (Nat × List Nat)} {c P : Addr} {k : Nat} {params : Arguments} {body : Expr} {sc : Scope} {p lpos pos : Pos} (cc : CauC X.prog X.w X.K X.mg X.base g.cm tab) (hg : Gl X "_law_caught")
    (TB : TabB X.base X.mg c P) (hcode : X.env.code = .ref c) (hT : (P, X.env.qual ++ "<lambda>") ∈ g.pc.tabs) (hu : ∀ p ∈ g.pc.tabs, p.1 = P → p.2 = X.env.qual ++ "<lambda>")
    (qt : Quiet X.A) (hr : Room (k + 2) X.A) (L : LamS X.env.scope sc)
    (hbody : ∀ (A : Around) (outer : List Env) (s : Shared) (H : Hp) (E : XK) (f c' : Addr), Quiet (A.deeper (lamEnv X sc s.heap.objs.size f c')) → Room k (A.deeper (lamEnv X sc s.heap.objs.size f c')) → DE (lamN X A outer s H E sc f c') g E hid body me)
    (hdef : defaultsOf params X.env = ([], []) := by rfl)
    (hbind : ∀ (q : Str) (cl : List (Str × Addr)) (pm cv ctv : Value), bindArgs (PySem.W.kla_fn "<lambda>" q params body sc cl pm cv ctv) ⟨[], []⟩ = pure [] := by intros; rfl) (hK : X.K = g.K := by rfl) :
    DE X g E hid (.Call (.Name "_law_caught" p) [.Lambda params body sc lpos] [] pos) (cauD tab me) := by
  obtain ⟨g0, oc, od, osl, pg, bg, sg, dV, kV, doc, pm, cdv, ct, an, Ng, Tc, h1, h2, h3, h4, h5, h6, h7, h8, h9, h10⟩ := cc.ex
  have hG := h10 X rfl rfl rfl rfl rfl qt (X.env.qual ++ "<lambda>")
  refine PE_imp (pe_lamN (t := fun E => tE g E hid me) hg h1 h2 h3 h4 h5 h6 h7 h8 hG TB hcode hT hu qt hr L hdef hbind hbody) ?_
  clear hG h10 h3 h4 h5
  revert Tc
  rw [hK]
  intro Tc h9 σ H Q q
  exact cau_of (X := X) h9 q
theorem cn_eq (P : Program) (w : World) : CN P w = L2N.CX P w := rfl
theorem lam_px (X : Cx) (A : Around) (outer : List Env) (s : Shared) (H : Hp) (E : XK) (sc : Scope) (f c' : Addr) : Passes (CN X.prog X.w) (lamN X A outer s H E sc f c') E := by
  rw [cn_eq]
  exact lamN_pass
theorem lam_prog (X : Cx) (A : Around) (outer : List Env) (s : Shared) (H : Hp) (E : XK) (sc : Scope) (f c' : Addr) : (lamN X A outer s H E sc f c').prog = X.prog := rfl
theorem lam_w (X : Cx) (A : Around) (outer : List Env) (s : Shared) (H : Hp) (E : XK) (sc : Scope) (f c' : Addr) : (lamN X A outer s H E sc f c').w = X.w := rfl
theorem lam_px2 (X : Cx) (A : Around) (outer : List Env) (s : Shared) (H : Hp) (E : XK) (sc : Scope) (f c' : Addr) : Passes (CN (lamN X A outer s H E sc f c').prog (lamN X A outer s H E sc f c').w) (lamN X A outer s H E sc f c') E := by
  rw [lam_prog, lam_w]
  exact lam_px X A outer s H E sc f c'
/-- the table of a def that makes lambdas -/
structure LamT (base : Heap) (mg : Str → Option Value) (T : List (Addr × Str)) (cdv : Value) (q : Str) : Prop where
  ex : ∃ c P, cdv = .ref c ∧ TabB base mg c P ∧ (P, q ++ "<lambda>") ∈ T ∧ ∀ p ∈ T, p.1 = P → p.2 = q ++ "<lambda>"
theorem d_cau {X : Cx} {g : Ga} {E : XK} {hid : List Nat} {me : PM D} {tab : Str → Option (Nat × List Nat)} {k : Nat} {params : Arguments} {body : Expr} {sc : Scope} {p lpos pos : Pos} (cc : CauC X.prog X.w X.K X.mg X.base g.cm tab) (hg : Gl X "_law_caught")
    (lt : LamT X.base X.mg g.pc.tabs X.env.code X.env.qual) (qt : Quiet X.A) (hr : Room (k + 2) X.A) (L : LamS X.env.scope sc)
    (hbody : ∀ (A : Around) (outer : List Env) (s : Shared) (H : Hp) (E : XK) (f c' : Addr), Quiet (A.deeper (lamEnv X sc s.heap.objs.size f c')) → Room k (A.deeper (lamEnv X sc s.heap.objs.size f c')) → Passes (CN (lamN X A outer s H E sc f c').prog (lamN X A outer s H E sc f c').w) (lamN X A outer s H E sc f c') E → DE (lamN X A outer s H E sc f c') g E hid body me)
    (hdef : defaultsOf params X.env = ([], []) := by rfl)
    (hbind : ∀ (q : Str) (cl : List (Str × Addr)) (pm cv ctv : Value), bindArgs (PySem.W.kla_fn "<lambda>" q params body sc cl pm cv ctv) ⟨[], []⟩ = pure [] := by intros; rfl) (hK : X.K = g.K := by rfl) :
    DE X g E hid (.Call (.Name "_law_caught" p) [.Lambda params body sc lpos] [] pos) (cauD tab me) := by
  obtain ⟨c, P, h1, h2, h3, h4⟩ := lt.ex
  exact d_caught cc hg h2 h1 h3 h4 qt hr L (fun A outer s H E f c' q r => hbody A outer s H E f c' q r (lam_px2 X A outer s H E sc f c')) hdef hbind hK
theorem d_dic {X : Cx} {g : Ga} {E : XK} {hid : List Nat} {pos : Pos} : DE X g E hid (.Dict [] [] pos) (cD .dic) :=
  PE_imp pe_dnewK fun σ H Q ⟨st, c, Hs, sl, sm, cu, p⟩ => fun q nq => p (upd Hs q (.dK [])) _ (Fn.new sm cu nq) _ (rl_dic.mpr ⟨q, rfl, upd_same⟩)
/-- f(k = e, ..) -/
theorem d_caK {X : Cx} {g : Ga} {E : XK} {hid : List Nat} {zs : List (PM D)} {m : Fd} {x : Str} {k j : Nat} {p pos : Pos} {kws : List Keyword} {ks : List Str} {t : List Src} (c : CalKN X.prog X.w X.K X.mg X.base k x ks (fun _ zs => layL t [] [] zs) (spD g.K g.cm g.cs m)) (hx : Passes (CN X.prog X.w) X E) (hr : Room j X.A) (hk : k ≤ j) (hg : Gl X x) (hkw : DK X g E hid kws (aD zs)) (hz : zs.length = ks.length := by rfl)
    (hdb : (x == ("__debug__" : Str)) = false := by decide) (hall : (backToKw pos (keywordEach kws X.env)).all (·.1.isSome) = true := by rfl) (hks : (backToKw pos (keywordEach kws X.env)).filterMap (·.1) = ks := by rfl)
    (hpl : ((backTo pos (starEach [] X.env)).any (·.1) || (backToKw pos (keywordEach kws X.env)).any (·.1.isNone)) = false := by rfl) :
    DE X g E hid (.Call (.Name x p) [] kws pos) (staKD m t zs) := by
  refine PE_imp (pe_cKN c hx hr hk hg hkw hall hks hdb hpl) fun σ H Q ⟨st, c, Hs, sl, sm, cu, p⟩ => ⟨st, c, Hs, sl, sm, cu, (Post.bind p).mono fun es c1 Hs1 H1 e1 F1 q vs rs => ?_⟩
  exact ⟨by rw [rs.length, aD_len e1, hz], call_of F1.sm F1.cu (rll_layL (rll_nil.mpr rfl) (rll_nil.mpr rfl) rs t) q⟩
end L2.G
set_option Elab.async false
set_option linter.all false
set_option maxRecDepth 100000
set_option maxHeartbeats 2000000
namespace L2.G
open PySem PySem.Spec PyProof.Rows L2H
/-! comprehensions of two clauses -/
def lcG2 (t : Tg) (ws : List Nat) (test : PM Bool) (it1 : PM (List D)) (t1 : Tg) (ws1 : List Nat) (test1 : PM Bool) (elt : PM D) (st : PSt) : Nat → List D → Cu → R (List D)
  | _, [], c => .ok [] c
  | n, d :: items, c => match asgT t d (wipeD st ws) with
    | none => .no
    | some st2 => (nE test st2 c).bind fun b c => if b = true then (nE it1 st2 c).bind fun items1 c => if n + items1.length ≤ 1000000 then (lcG t1 ws1 test1 elt st2 items1 c).bind fun ys c => (lcG2 t ws test it1 t1 ws1 test1 elt st (n + items1.length) items c).bind fun zs c => .ok (ys ++ zs) c else .no else lcG2 t ws test it1 t1 ws1 test1 elt st n items c
def lcD2 (t : Tg) (ws : List Nat) (it : PM (List D)) (test : PM Bool) (it1 : PM (List D)) (t1 : Tg) (ws1 : List Nat) (test1 : PM Bool) (elt : PM D) : PM D := fun st c => (it st c).bind fun items c => (lcG2 t ws test it1 t1 ws1 test1 elt st 0 items c).bind fun ds c => .ok (.lst ds) c
section
variable {X : Cx} {g : Ga} {E : XK} {hid ws ws1 : List Nat} {σ : St} {H : Hp} {Q : VK} {t t1 : Tg} {it it1 : PM (List D)} {test test1 : PM Bool} {me : PM D}
theorem lc2_of (hw : ∀ i ∈ tgS t, i ∈ ws) (hw1 : ∀ i ∈ tgS t1, i ∈ ws1) : tEo g E hid (lcD2 t ws it test it1 t1 ws1 test1 me) σ H Q → tLc2 (tI g E hid it) (gOf g.K t) (tT g EF hid test) (tI g EF hid it1) (gOf g.K t1) (tT g EF hid test1) (tE g EF hid me) ws ws1 σ H Q := by
  rintro ⟨st, c, Hs, sl, sm, cu, p⟩
  refine ⟨st, c, Hs, sl, sm, cu, (Post.bind p).mono fun items c1 Hs1 H1 _ F1 q hlen J wJ L hL => ?_⟩
  have Lpc := F1.cu.ne hL
  have sz := sizeLine_eq
  have fr : Fr H L := fun o t z => by rw [F1.bt L o Lpc t z] at hL; cases hL
  let K2 : D → Cu → Hp → Hp → Prop := fun (d : D) _ (Hs' H' : Hp) => ∀ (p : Addr), Fr H p → Hs' p = none → Off g.pc p → Own1 g Hs' H' p d → Q (.ref p) H'
  let Pv : Nat → Hp → Prop := fun i H' => ∃ (n : Nat) (c' : Cu) (Hs' : Hp) (acc : List V) (ds : List D), n ≤ 1000000 ∧ Fn g.pc Hs1 H1 Hs' H' c' ∧ H' L = some (.lst acc) ∧ Hs' L = none ∧ RlL g Hs' ds acc ∧ ds.length ≤ n ∧
    Post g E Hs1 H1 ((lcG2 t ws test it1 t1 ws1 test1 me st n (items.drop i) c').bind fun ys c => .ok (.lst (ds ++ ys)) c) K2
  refine ⟨fun i m H' => m = items.length - i ∧ i ≤ items.length ∧ Pv i H', ⟨items.length, by simp, Nat.zero_le _, 0, c1, Hs1, [], [], by decide, Fn.hid F1.sm F1.cu hL, upd_same, F1.sm.free hL, rll_nil.mpr rfl, Nat.le_refl _, by rw [List.drop_zero]; exact q⟩, ?_⟩
  rintro i m H' ⟨rfl, hi, n, c', Hs', acc, ds, hn, F, hLa, hLn, rl, hle, pp⟩
  have gd : Same Hs1 H' := F.ss.trans F.sm
  by_cases hlt : i < items.length
  · refine .inr ⟨wJ.goes i H' hlt gd, Pv (i + 1), fun H'' p' => ⟨items.length - (i + 1), by omega, rfl, hlt, p'⟩, fun x H'' y0 => ?_⟩
    have y := wJ.yields i H' x H'' hlt gd y0
    obtain ⟨d, Hs3, hd, F3, rx⟩ := y.step F.ss F.sm F.cu
    rw [drop_cons hd] at pp
    unfold lcG2 at pp
    cases ea : asgT t d (wipeD st ws) with
    | none => rw [ea] at pp; exact pp.elim
    | some st2 =>
      rw [ea] at pp
      dsimp only at pp
      have sl3 : Sl g hid Hs3 (wipeD st ws) (wipe σ ws) := (((sl.mono F1.ss).mono F.ss).mono F3.ss).wipe ws
      refine asg_of F3.sm t d x _ st2 _ _ sl3.1 rx ea fun σ2 a => ⟨wipe_asg a hw, ?_⟩
      have sl4 := sl3.asg a
      refine ⟨st2, c', Hs3, sl4, F3.sm, F3.cu, post_nE (fun z => by rw [z] at pp; exact pp) (fun _ _ z => nE_er z) fun b c4 eb Hs4 H4 F4 => ?_⟩
      rw [eb, R.ok_bind] at pp
      have F34 := F3.trans F4
      have hL4 : H4 L = some (.lst acc) := F34.bt L _ Lpc (plain_lst _).1 hLa
      have hn4 : Hs4 L = none := F34.nw L _ (plain_lst _).1 hLa hLn
      cases b with
      | false =>
        rw [if_neg (by decide)] at pp ⊢
        exact ⟨n, c4, Hs4, acc, ds, hn, F.trans F34, hL4, hn4, RlL.mono F34.ss _ _ rl, hle, pp⟩
      | true =>
        rw [if_pos rfl] at pp ⊢
        refine ⟨st2, c4, Hs4, sl4.mono F4.ss, F4.sm, F4.cu, post_nE (fun z => by rw [z] at pp; exact pp) (fun _ _ z => nE_er z) fun items1 c5 ey Hs5 H5 F5 hlen1 J1 wJ1 => ?_⟩
        rw [ey, R.ok_bind] at pp
        by_cases hb : n + items1.length ≤ 1000000
        · rw [if_pos hb] at pp
          have F35 := F34.trans F5
          have hL5 : H5 L = some (.lst acc) := F35.bt L _ Lpc (plain_lst _).1 hLa
          have hn5 : Hs5 L = none := F35.nw L _ (plain_lst _).1 hLa hLn
          have FF := F.trans F35
          have sl5 : Sl g hid Hs5 st2 σ2 := (sl4.mono F4.ss).mono F5.ss
          let Pv1 : Nat → Hp → Prop := fun j H6 => ∃ (c6 : Cu) (Hs6 : Hp) (acc6 : List V) (ds6 : List D), Fn g.pc Hs1 H1 Hs6 H6 c6 ∧ Same Hs5 Hs6 ∧ H6 L = some (.lst acc6) ∧ Hs6 L = none ∧ RlL g Hs6 ds6 acc6 ∧ ds6.length ≤ n + j ∧
            Post g E Hs1 H1 (((lcG t1 ws1 test1 me st2 (items1.drop j) c6).bind fun ys c => (lcG2 t ws test it1 t1 ws1 test1 me st (n + items1.length) (items.drop (i + 1)) c).bind fun zs c => .ok (ys ++ zs) c).bind fun ys c => .ok (.lst (ds6 ++ ys)) c) K2
          refine ⟨fun j k H6 => k = items1.length - j ∧ j ≤ items1.length ∧ Pv1 j H6, ⟨items1.length, by simp, Nat.zero_le _, c5, Hs5, acc, ds, FF, Same.refl _, hL5, hn5, RlL.mono F35.ss _ _ rl, by omega, by rw [List.drop_zero]; exact pp⟩, ?_⟩
          rintro j k H6 ⟨rfl, hj, c6, Hs6, acc6, ds6, F6, e56, hL6, hn6, rl6, hle6, p6⟩
          have gd1 : Same Hs5 H6 := e56.trans F6.sm
          by_cases hlt1 : j < items1.length
          · refine .inr ⟨wJ1.goes j H6 hlt1 gd1, Pv1 (j + 1), fun H'' p' => ⟨items1.length - (j + 1), by omega, rfl, hlt1, p'⟩, fun x1 H7 y1 => ?_⟩
            have y2 := wJ1.yields j H6 x1 H7 hlt1 gd1 y1
            obtain ⟨d1, Hs7, hd1, F7, rx1⟩ := y2.step e56 F6.sm F6.cu
            rw [drop_cons hd1] at p6
            unfold lcG at p6
            cases ea1 : asgT t1 d1 (wipeD st2 ws1) with
            | none => rw [ea1] at p6; exact p6.elim
            | some st3 =>
              rw [ea1] at p6
              dsimp only at p6
              have sl6 : Sl g hid Hs7 (wipeD st2 ws1) (wipe σ2 ws1) := ((sl5.mono e56).mono F7.ss).wipe ws1
              refine asg_of F7.sm t1 d1 x1 _ st3 _ _ sl6.1 rx1 ea1 fun σ3 a1 => ⟨wipe_asg a1 hw1, ?_⟩
              have sl7 := sl6.asg a1
              refine ⟨st3, c6, Hs7, sl7, F7.sm, F7.cu, post_nE (fun z => by rw [z] at p6; exact p6) (fun _ _ z => nE_er z) fun b c8 eb1 Hs8 H8 F8 => ?_⟩
              rw [eb1, R.ok_bind] at p6
              have F78 := F7.trans F8
              have hL8 : H8 L = some (.lst acc6) := F78.bt L _ Lpc (plain_lst _).1 hL6
              have hn8 : Hs8 L = none := F78.nw L _ (plain_lst _).1 hL6 hn6
              cases b with
              | false =>
                rw [if_neg (by decide)] at p6 ⊢
                exact ⟨c8, Hs8, acc6, ds6, F6.trans F78, e56.trans F78.ss, hL8, hn8, RlL.mono F78.ss _ _ rl6, by omega, p6⟩
              | true =>
                rw [if_pos rfl] at p6 ⊢
                refine ⟨st3, c8, Hs8, sl7.mono F8.ss, F8.sm, F8.cu, post_nE (fun z => by rw [z] at p6; exact p6) (fun _ _ z => nE_er z) fun y c9 ey9 Hs9 H9 F9 v rv => ?_⟩
                rw [ey9, R.ok_bind] at p6
                have F79 := F78.trans F9
                have hL9 : H9 L = some (.lst acc6) := F79.bt L _ Lpc (plain_lst _).1 hL6
                have hn9 : Hs9 L = none := F79.nw L _ (plain_lst _).1 hL6 hn6
                have l1 := rl6.length
                refine ⟨acc6, hL9, by omega, c9, Hs9, acc6 ++ [v], ds6 ++ [y], (F6.trans F79).mut (fr_none hL) hn9 Lpc hL9 (plain_lst _), e56.trans F79.ss, upd_same, hn9, (RlL.mono F79.ss _ _ rl6).append (rll_cons.mpr ⟨v, [], rfl, rv, rll_nil.mpr rfl⟩), by simp; omega, ?_⟩
                revert p6
                cases lcG t1 ws1 test1 me st2 (items1.drop (j + 1)) c9 with
                | no => exact fun z => z
                | er x c => exact fun z => z
                | ok ys c =>
                  simp only [R.ok_bind]
                  cases lcG2 t ws test it1 t1 ws1 test1 me st (n + items1.length) (items.drop (i + 1)) c with
                  | no => exact fun z => z
                  | er x c => exact fun z => z
                  | ok zs c =>
                    intro p6
                    simp only [R.ok_bind, List.append_assoc, List.cons_append, List.nil_append] at p6 ⊢
                    exact p6
          · have ej : j = items1.length := by omega
            refine .inl ⟨ej ▸ wJ1.stops H6 gd1, n + items1.length, c6, Hs6, acc6, ds6, hb, F6, hL6, hn6, rl6, by omega, ?_⟩
            rw [ej, List.drop_length] at p6
            unfold lcG at p6
            rw [R.ok_bind] at p6
            revert p6
            cases lcG2 t ws test it1 t1 ws1 test1 me st (n + items1.length) (items.drop (i + 1)) c6 with
            | no => exact fun z => z
            | er x c => exact fun z => z
            | ok zs c =>
              intro p6
              simp only [R.ok_bind, List.nil_append] at p6 ⊢
              exact p6
        · rw [if_neg hb] at pp
          exact pp.elim
  · have ei : i = items.length := by omega
    refine .inl ⟨ei ▸ wJ.stops H' gd, ?_⟩
    rw [ei, List.drop_length] at pp
    unfold lcG2 at pp
    rw [R.ok_bind, List.append_nil] at pp
    exact pp Hs' H' F L fr hLn Lpc (.inl ⟨ds, acc, rfl, hLa, by omega, rl⟩)
variable {elt tg iter tg1 iter1 : Expr} {ifs ifs1 : List Expr} {scope : Scope} {own : List (Str × Nat)} {pos : Pos}
theorem do_lc2 (hc : X.calm = true) (hN : X.N.Nodup) (hi : DI X g E hid tg iter it) (ok : BlkOk X.N X.env.scope scope own)
    (hg : ∀ (s : Shared) (H : Hp) (C : Addr) (cl : List (Str × Addr)) (fp : List Addr), PG (X.blk s H scope (compEnvC scope cl C X.env) fp) tg (gOf g.K t))
    (ht : ∀ (s : Shared) (H : Hp) (C : Addr) (cl : List (Str × Addr)) (fp : List Addr), PTs (X.blk s H scope (compEnvC scope cl C X.env) fp) ifs (tT g EF hid test))
    (hi1 : ∀ (s : Shared) (H : Hp) (C : Addr) (cl : List (Str × Addr)) (fp : List Addr), DI (X.blk s H scope (compEnvC scope cl C X.env) fp) g EF hid tg1 iter1 it1)
    (hg1 : ∀ (s : Shared) (H : Hp) (C : Addr) (cl : List (Str × Addr)) (fp : List Addr), PG (X.blk s H scope (compEnvC scope cl C X.env) fp) tg1 (gOf g.K t1))
    (ht1 : ∀ (s : Shared) (H : Hp) (C : Addr) (cl : List (Str × Addr)) (fp : List Addr), PTs (X.blk s H scope (compEnvC scope cl C X.env) fp) ifs1 (tT g EF hid test1))
    (he : ∀ (s : Shared) (H : Hp) (C : Addr) (cl : List (Str × Addr)) (fp : List Addr), DE (X.blk s H scope (compEnvC scope cl C X.env) fp) g EF hid elt me) (hv : ∀ i ∈ ws1, i ∈ own.map (·.2) := by decide) (hw : ∀ i ∈ tgS t, i ∈ own.map (·.2) := by decide) (hw1 : ∀ i ∈ tgS t1, i ∈ ws1 := by decide)
    (hs : ∀ x, foldedSetIterable iter X.env x = pure x := by intro _; rfl) (hs1 : ∀ env x, foldedSetIterable iter1 env x = pure x := by intro _ _; rfl) : DEo X g E hid (.ListComp elt [⟨tg, iter, ifs, 0⟩, ⟨tg1, iter1, ifs1, 0⟩] scope pos) (lcD2 t (own.map (·.2)) it test it1 t1 ws1 test1 me) :=
  PE_imp (pe_lc2 hc hN hi ok hv hg ht hi1 hg1 ht1 he hs hs1) fun σ H Q q => lc2_of hw hw1 q
end
end L2.G
set_option Elab.async false
set_option linter.all false
set_option maxRecDepth 100000
set_option maxHeartbeats 4000000
namespace L2.G
open PySem PySem.Spec PyProof.Rows L2H LamX
/-! repr of an instance by its own __repr__, where an exception is handled -/
structure FnR (P : Program) (w : World) (K : PySem.W.Frag) (mg : Str → Option Value) (base : Heap) (f : Addr) (fd : FuncData) (ps : List Str) (sp : Sp) : Prop where
  len : ∀ vs H Q E, sp vs H Q E → vs.length = ps.length
  run : ∀ (A : Around) (outer : List Env) (s : Shared) (H : Hp) (args : Args) (us : List Value) (vs : List V) (Q : VK) (p : Addr × Obj), RoomH 1 A → Hot1 A p → PinOk outer H s p → Env0 P w K mg base A.in1 outer s H → BindsTo s fd args (ps.zip us) → Vals vs us → sp vs H Q E0 →
    codeAny (model P w) A.in1 (.call (.ref f) args) (CR CX0 outer P w H s Q E0) s
section
variable {P : Program} {w : World} {K : PySem.W.Frag} {mg : Str → Option Value} {base : Heap} {f : Addr} {fd : FuncData} {ps N : List Str} {sp : Sp}
theorem _root_.L2.Fun.okR {x qual : Str} {st : Stmt} (F : Fun K x qual st f fd) (S : FnScope N ps (defScope st)) (len : ∀ vs H Q E, sp vs H Q E → vs.length = ps.length)
    (hbody : ∀ (cdv : Value) (A : Around) (outer : List Env) (s : Shared) (H : Hp) (vs : List V) (Q : VK) (p : Addr × Obj), sp vs H Q E0 →
      ∃ t, PSs (cxH CX0 P w K mg base N qual (defScope st) f cdv A outer s H E0 p) (defBody st) t ∧ t { nx := fun _ H' => Q .non H', rt := Q } (start N vs) H) : FnR P w K mg base f fd ps sp := by
  obtain ⟨oc, od, kV, doc, pm, an, cdv, ct, osl, e, lk, hcd⟩ := F.ex
  subst e
  refine ⟨len, fun A outer s H args us vs Q p hr hot pin e0 hb r hsp => ?_⟩
  have inS : K.In s.heap := e0.mod.kin.keeps fun b o z => (e0.bs b o z).1
  have noL : s.heap.NoLimit := e0.mod.nolimit.keeps fun b o z => (e0.bs b o z).1
  have kinds : ∀ y ∈ ps.zip us, (defScope st).names.lookup y.1 = some .local ∨ ((defScope st).names.lookup y.1 = some .cell ∧ ((cellsFrom (s.heap.objs.size + 1) (defScope st).names []).lookup y.1).isSome = true) := by
    rintro ⟨n, v⟩ hy
    exact (S.par n (List.of_mem_zip hy).1).imp id fun z => ⟨z, PySem.W.cellsFrom_some _ _ _ (.inl z)⟩
  refine codeAny_call_function (show A.in1.depth < recursionLimit from hr.depth) (inS _ _ lk) rfl S.co S.gen rfl (PySem.W.codeRec_of inS hcd) (hb _ _ _ _ (wpAny_newFunctionEnv_cells S.kind kinds fun env he s1 x => ?_))
  subst he
  obtain ⟨t, ht, hq⟩ := hbody cdv A.in1 outer s H vs Q p hsp
  have I := inv_startH (CX := CX0) (E := E0) S pin e0 (len _ _ _ _ hsp) r x
  refine ⟨noL.keeps x.toInCall.keep, codeAny_func (wpAny_mono (ht.run [] s1 (start N vs) H _ I hq) (fun fl s' hs => ?_) fun _ _ hs => hs)⟩
  match fl, hs with
  | .ret u, ⟨v, σ', H', J, rv, q⟩ => exact ⟨v, H', J.os, J.bare, J.base, J.hok, rv, q⟩
  | .next, ⟨σ', H', J, q⟩ => exact ⟨.non, H', J.os, J.bare, J.base, J.hok, rfl, q⟩
  | .brk, ⟨_, _, _, q⟩ => exact False.elim q
  | .cont, ⟨_, _, _, q⟩ => exact False.elim q
end
section
variable {X : Cx} {f C : Addr} {fd : FuncData} {ps : List Str} {sp : Sp} {p : Addr × Obj}
theorem cr_reprH (F : FnR X.prog X.w X.K X.mg X.base f fd ps sp) (hb : Binds X.K fd ps []) (hot : Hot1 X.A p) (hp : p ∈ X.pn) (hr : RoomH 1 X.A)
    (hs : PySem.W.findIn X.K (.ref C) "__repr__" = some (some (.ref f))) (hf : PySem.W.isFn X.K (.ref f) = true) : CallR X (.builtin "repr") (rTxtI C sp E0) := by
  intro pins s σ H xs us Q I r h
  obtain ⟨a, dx, fs, rfl, ea, q⟩ := h
  obtain ⟨u, rfl, ru⟩ := vals1 r
  cases (show u = Value.ref a from ru)
  obtain ⟨od, J⟩ := inst_at I ea
  obtain ⟨m, hF⟩ := I.fr
  have un : X.A.in1.units < cLine := by have := hr.un; show X.A.units + 1 < _; omega
  refine PySem.W.repr_K un hF I.ok.mod.kin J hs hf ?_
  have hl : [Value.ref a].length = ps.length := (show Vals [V.ref a] [Value.ref a] from .cons rfl .nil).length.symm.trans (F.len _ _ _ _ q)
  have bb := hb s [.ref a] I.kIn (by simpa using hl)
  obtain ⟨g, n, l, o, c⟩ := I.pin p (List.mem_append_left _ hp)
  have pin : PinOk X.stack H s p := ⟨g, n, fun z => (List.mem_cons.mp (I.stkSub p.1 z)).elim l o, c⟩
  refine wpAny_call (codeAny_mono (F.run X.A X.stack s H ⟨[.ref a], []⟩ [.ref a] [.ref a] _ p hr hot pin (env_at I rfl) (by simpa using bb) (.cons rfl .nil) q) fun res s' hq => ?_)
  match res, hq with
  | .error e, hq => exact (show False from hq).elim
  | .ok (.ret u), hq =>
    obtain ⟨z, H', I', rz, n, ez, q'⟩ := I.after hq
    subst ez
    obtain ⟨t, rfl⟩ := rz
    exact ⟨.str n, H', I', ⟨_, rfl⟩, q'⟩
  | .ok .next, hq => exact False.elim hq
  | .ok .brk, hq => exact False.elim hq
  | .ok .cont, hq => exact False.elim hq
end
/-- what a record's repr tells -/
def recZ (n : Int) (k : Nat) : Str := Str.ofString "Record of " ++ Str.ofString (toString n) ++ Str.ofString " places, " ++ Str.ofString (toString ((k : Nat) : Int)) ++ Str.ofString " glances"
def spRec (K : PySem.W.Frag) (C : Addr) : Sp := fun vs H Q _ => ∃ (a dx : Addr) (fs : List (Str × V)) (t : Addr) (xs : List V) (n : Int) (gl : Addr) (ys : List V), vs = [.ref a] ∧ H a = some (.ins C dx fs) ∧ fs.lookup (Str.ofString "kept") = some (.ref t) ∧ SqT K H t xs ∧ atI xs 0 = some (.int n) ∧ atI xs 6 = some (.ref gl) ∧ SqT K H gl ys ∧
  n.natAbs.log2 < 1920 ∧ ys.length.log2 < 1920 ∧ (recZ n ys.length).length ≤ sizeLine ∧ Q (.str (recZ n ys.length)) H
def rRq (K : PySem.W.Frag) (C : Addr) : List V → Hp → VK → Prop := fun xs H Q => rRp K xs H Q ∨ rTxtI C (spRec K C) E0 xs H Q
theorem rRq_mono {K : PySem.W.Frag} {C : Addr} : ∀ xs H (Q Q' : VK), (∀ v H', Same H H' → Q v H' → Q' v H') → rRq K C xs H Q → rRq K C xs H Q' := by
  rintro xs H Q Q' m (h | ⟨a, dx, fs, e, ea, b, dy, gs, t, xs, n, gl, ys, h1, h2, h3, h4, h5, h6, h7, h8, h9, h10, z, h11, h12⟩)
  · exact .inl (rRp_mono _ _ _ _ m h)
  · exact .inr ⟨a, dx, fs, e, ea, b, dy, gs, t, xs, n, gl, ys, h1, h2, h3, h4, h5, h6, h7, h8, h9, h10, z, h11, m _ _ (Same.refl H) h12⟩
theorem recZ_len (n : Int) (k : Nat) : (recZ n k).length = 10 + (Str.ofString (toString n)).length + 9 + (Str.ofString (toString ((k : Nat) : Int))).length + 8 := by
  unfold recZ
  simp only [Str.length_append]
  have e1 : (Str.ofString "Record of ").length = 10 := by decide +kernel
  have e2 : (Str.ofString " places, ").length = 9 := by decide +kernel
  have e3 : (Str.ofString " glances").length = 8 := by decide +kernel
  rw [e1, e2, e3]
/-- repr of data, a record among them -/
def recShw : D → Option Str
  | .ins C ns ds => if C = Str.ofString "Record" ∧ ns = [Str.ofString "kept"] then match ds with
    | [.tup xs] => match atI xs 0, atI xs 6 with
      | some (.int n), some (.tup gl) => if n.natAbs.log2 < 1920 ∧ gl.length.log2 < 1920 ∧ (recZ n gl.length).length ≤ sizeLine ∧ txtOk (recZ n gl.length) = true then some (recZ n gl.length) else none
      | _, _ => none
    | _ => none
    else none
  | _ => none
def shwX (d : D) : Option Str := if shwOk d then some (shwD d) else recShw d
theorem shwX_of {g : Ga} {Hs H : Hp} {d : D} {v : V} {z : Str} (sm : Same Hs H) (h : shwX d = some z) (r : Rl g Hs d v) : txtOk z = true ∧ ∀ Q : VK, Q (.str z) H → rRq g.K (g.cm "Record") [v] H Q := by
  unfold shwX at h
  split at h
  · rename_i ho
    cases h
    obtain ⟨h1, h2⟩ := shw_of sm ho r
    exact ⟨h2, fun Q q => .inl ⟨v, _, rfl, h1, q⟩⟩
  · unfold recShw at h
    split at h
    · rename_i C ns ds
      split at h
      · rename_i hc
        obtain ⟨rfl, rfl⟩ := hc
        split at h
        · rename_i xs
          split at h
          · rename_i n gl e0 e6
            split at h
            · rename_i hz
              cases h
              obtain ⟨z1, z2, z3, z4⟩ := hz
              refine ⟨z4, fun Q q => .inr ?_⟩
              obtain ⟨_, a, dx, gs, rfl, ha, hg, rl⟩ := rl_ins.mp r
              obtain ⟨y, rest, e1, ry, r2⟩ := rll_cons.mp rl
              have e3 := rll_nil.mp r2
              subst e3
              obtain ⟨t, ws, rfl, ht, _, rw'⟩ := rl_tup.mp ry
              obtain ⟨w0, f0, r0⟩ := atI_rl rw' e0
              obtain ⟨w6, f6, r6⟩ := atI_rl rw' e6
              obtain ⟨gl', us, rfl, hu, _, ru⟩ := rl_tup.mp r6
              have lu := ru.length
              have elk : gs.lookup (Str.ofString "kept") = some (.ref t) := by
                cases gs with
                | nil => cases hg
                | cons q rr =>
                  obtain ⟨q1, q2⟩ := q
                  simp only [List.map_cons, List.cons.injEq] at hg e1
                  obtain ⟨rfl, _⟩ := hg
                  obtain ⟨rfl, _⟩ := e1
                  simp [List.lookup]
              have ew : w0 = .int n := rl_int.mp r0
              subst ew
              refine ⟨a, dx, gs, rfl, sm _ _ ha, a, dx, gs, t, ws, n, gl', us, rfl, sm _ _ ha, elk, seqT_mono sm ht, f0, f6, seqT_mono sm hu, z1, by rw [lu]; exact z2, by rw [lu]; exact z3, _, rfl, ?_⟩
              rw [lu]
              exact q
            · cases h
          · cases h
        · cases h
      · cases h
    · cases h
def cauX (tab : Str → Option (Nat × List Nat)) (me : PM D) : PM D := fun st c => match me st c with
  | .no => .no
  | .ok d c' => .ok (.lst [.str "given", d]) c'
  | .er x c' => match tab x.cls, x.ds, (x.ds.head?).bind shwX with
    | some (i, bs), [_], some z => if x.ns = [fldOf i] then .ok (.lst (.int i :: (bs.map (fun j : Nat => D.int j) ++ [.str z]))) c' else .no
    | _, _, _ => .no
theorem cau_ofX {X : Cx} {g : Ga} {E : XK} {hid : List Nat} {σ : St} {H : Hp} {Q : VK} {me : PM D} {tab : Str → Option (Nat × List Nat)} {mg : Str → Option Value} {Tc : TCl g.K mg} (ht : ErrT Tc g.cm tab) :
    tE g E hid (cauX tab me) σ H Q → tLam g.pc.tabs (TCaught Tc (rRq g.K (g.cm "Record"))) (fun E => tE g E hid me) σ H Q := by
  rintro ⟨st, c, Hs, sl, sm, cu, p⟩
  refine ⟨cu.tb, fun H1 ex tb1 => ?_⟩
  have sm1 : Same Hs H1 := fun b o e => ex b o (sm b o e) fun ps z => cu.nt b ps (z ▸ e)
  have cu1 : CupAt g.pc Hs H1 c := cu.hp (fun q hq o ho => ex q o ho fun ps z => by
    obtain ⟨a, b, _, e⟩ := cu.on hq
    rw [e] at ho
    cases ho
    cases z) tb1
  have F01 : Fn g.pc Hs H Hs H1 c := by
    exact ⟨Same.refl _, fun b o _ t e => ex b o e t, fun _ _ _ _ n => n, sm1, cu1⟩
  show tE g _ hid me σ H1 _
  refine ⟨st, c, Hs, sl, sm1, cu1, ?_⟩
  unfold cauX at p
  cases em : me st c with
  | no => rw [em] at p; exact p
  | ok d c' =>
    rw [em] at p
    intro Hs' H' F v rv
    refine ⟨by rw [sizeLine_eq]; simp, fun L nL => ?_⟩
    refine p (upd Hs' L (.lst [.str "given", v])) _ ((F01.trans F).trans (Fn.new F.sm F.cu nL)) (.ref L) (rl_lst.mpr ⟨L, _, rfl, upd_same, by rw [sizeLine_eq]; simp, rll_cons.mpr ⟨_, _, rfl, rl_str.mpr ⟨rfl, txt_given⟩, rll_cons.mpr ⟨_, _, rfl, Rl.mono (same_new (F.sm.free nL)) d v rv, rll_nil.mpr rfl⟩⟩⟩)
  | er x c' =>
    rw [em] at p
    dsimp only at p
    split at p
    · rename_i i bs y zz et ey hsh
      rw [ey] at hsh
      replace hsh : shwX y = some zz := hsh
      split at p
      · rename_i hns
        rintro cls dx Hs' H' F ⟨rfl, dd, gs, rfl, hd, hg, rl⟩
        rw [hns] at hg
        rw [ey] at rl
        obtain ⟨yv, rest, e1, ry, r2⟩ := rll_cons.mp rl
        have e3 := rll_nil.mp r2
        subst e3
        obtain ⟨q, rfl⟩ : ∃ q, gs = [q] := by
          cases gs with
          | nil => cases hg
          | cons q r =>
            cases r with
            | nil => exact ⟨q, rfl⟩
            | cons z r => simp at hg
        have eq1 : q = (fldOf i, yv) := by
          obtain ⟨a, b⟩ := q
          simp at hg e1
          rw [hg, e1]
        subst eq1
        obtain ⟨ab, er, eb, hb⟩ := ht.at_ _ _ _ et
        refine ⟨g.cm x.cls, dd, i, ab, yv, rfl, rfl, F.sm _ _ hd, er, fun H2 e2 => ?_⟩
        obtain ⟨tk, sw⟩ := shwX_of (H := H2) (F.sm.trans e2) hsh ry
        refine sw _ fun L H4 nL e4 lL => ?_
        have s4 : Same H' H4 := e2.trans e4
        have nL' : H' L = none := by
          cases z : H' L with
          | none => rfl
          | some o => rw [e2 _ _ z] at nL; cases nL
        have cu4 : CupAt g.pc Hs' H4 c' := F.cu.ext s4
        have F4 : Fn g.pc Hs H Hs' H4 c' := by
          have F0 := F01.trans F
          exact ⟨F0.ss, fun b o ob t e => s4 b o (F0.bt b o ob t e), F0.nw, F.sm.trans s4, cu4⟩
        have hL0 : Fr H L := fun o t z => by
          rw [(F01.trans F).bt L o (F.cu.ne nL') t z] at nL'
          cases nL'
        have F5 := F4.show_ hL0 lL (F.sm.free nL') (F.cu.ne nL') (plain_lst _).1
        have el : toldOf i ab (.str (zz)) = V.int i :: (bs.map (fun j : Nat => V.int j) ++ [.str (zz)]) := by
          unfold toldOf
          rw [eb]
          congr 2
          rw [List.map_map]
          apply List.map_congr_left
          intro j hj
          have := hb j hj
          simp only [Function.comp_apply]
          congr 1
          omega
        rw [el] at lL F5
        have bl : bs.length ≤ 6 := by
          have := congrArg List.length eb
          rw [List.length_map] at this
          have h6 := List.length_filter_le ab (List.range 6)
          rw [List.length_range] at h6
          omega
        refine p _ _ F5 (.ref L) (rl_lst.mpr ⟨L, _, rfl, upd_same, by rw [sizeLine_eq]; simp; omega, rll_cons.mpr ⟨_, _, rfl, rl_int.mpr rfl, ?_⟩⟩)
        exact (RlL.map (fun j : Nat => D.int j) (fun j : Nat => V.int j) fun j _ => rl_int.mpr rfl).append (rll_cons.mpr ⟨_, _, rfl, rl_str.mpr ⟨rfl, tk⟩, rll_nil.mpr rfl⟩)
      · exact p.elim
    · exact p.elim
/-- the law's helper that catches -/
structure CauX (P : Program) (w : World) (K : PySem.W.Frag) (mg : Str → Option Value) (base : Heap) (cm : Str → Addr) (tab : Str → Option (Nat × List Nat)) : Prop where
  ex : ∃ (g0 : Addr) (oc : Value) (od : Option Addr) (osl : Array (Option Value)) (pg : Arguments) (bg : List Stmt) (sg : Scope) (dV kV doc pm cdv ct : Value) (an : Option Addr) (Ng : List Str) (Tc : TCl K mg),
    mg "_law_caught" = some (.ref g0) ∧ PySem.W.keepIn K (.ref g0) = true ∧ K.lookup g0 = some ⟨oc, od, .func (PySem.W.fnOf "_law_caught" "_law_caught" pg bg sg dV kV doc pm an cdv ct), osl⟩ ∧ PySem.W.codeIn K cdv "_law_caught" = true ∧
    L2.Binds K (PySem.W.fnOf "_law_caught" "_law_caught" pg bg sg dV kV doc pm an cdv ct) ["_law_act"] [] ∧ FnScope Ng ["_law_act"] sg ∧ Ng[0]? = some ("_law_act" : Str) ∧ Vis sg "_law_act" ∧ ErrT Tc cm tab ∧
    ∀ X : Cx, X.prog = P → X.w = w → X.K = K → X.mg = mg → X.base = base → Quiet X.A → ∀ q, GivesN X Ng "_law_caught" sg g0 cdv bg "_law_act" q (TCaught Tc (rRq K (cm "Record")))
theorem d_caughtX {X : Cx} {g : Ga} {E : XK} {hid : List Nat} {me : PM D} {tab : Str → Option (Nat × List Nat)} {c P : Addr} {k : Nat} {params : Arguments} {body : Expr} {sc : Scope} {p lpos pos : Pos} (cc : CauX X.prog X.w X.K X.mg X.base g.cm tab) (hg : Gl X "_law_caught")
    (TB : TabB X.base X.mg c P) (hcode : X.env.code = .ref c) (hT : (P, X.env.qual ++ "<lambda>") ∈ g.pc.tabs) (hu : ∀ p ∈ g.pc.tabs, p.1 = P → p.2 = X.env.qual ++ "<lambda>")
    (qt : Quiet X.A) (hr : Room (k + 2) X.A) (L : LamS X.env.scope sc)
    (hbody : ∀ (A : Around) (outer : List Env) (s : Shared) (H : Hp) (E : XK) (f c' : Addr), Quiet (A.deeper (lamEnv X sc s.heap.objs.size f c')) → Room k (A.deeper (lamEnv X sc s.heap.objs.size f c')) → DE (lamN X A outer s H E sc f c') g E hid body me)
    (hdef : defaultsOf params X.env = ([], []) := by rfl)
    (hbind : ∀ (q : Str) (cl : List (Str × Addr)) (pm cv ctv : Value), bindArgs (PySem.W.kla_fn "<lambda>" q params body sc cl pm cv ctv) ⟨[], []⟩ = pure [] := by intros; rfl) (hK : X.K = g.K := by rfl) :
    DE X g E hid (.Call (.Name "_law_caught" p) [.Lambda params body sc lpos] [] pos) (cauX tab me) := by
  obtain ⟨g0, oc, od, osl, pg, bg, sg, dV, kV, doc, pm, cdv, ct, an, Ng, Tc, h1, h2, h3, h4, h5, h6, h7, h8, h9, h10⟩ := cc.ex
  have hG := h10 X rfl rfl rfl rfl rfl qt (X.env.qual ++ "<lambda>")
  refine PE_imp (pe_lamN (t := fun E => tE g E hid me) hg h1 h2 h3 h4 h5 h6 h7 h8 hG TB hcode hT hu qt hr L hdef hbind hbody) ?_
  clear hG h10 h3 h4 h5
  revert Tc
  rw [hK]
  intro Tc h9 σ H Q q
  exact cau_ofX (X := X) h9 q
theorem d_cauX {X : Cx} {g : Ga} {E : XK} {hid : List Nat} {me : PM D} {tab : Str → Option (Nat × List Nat)} {k : Nat} {params : Arguments} {body : Expr} {sc : Scope} {p lpos pos : Pos} (cc : CauX X.prog X.w X.K X.mg X.base g.cm tab) (hg : Gl X "_law_caught")
    (lt : LamT X.base X.mg g.pc.tabs X.env.code X.env.qual) (qt : Quiet X.A) (hr : Room (k + 2) X.A) (L : LamS X.env.scope sc)
    (hbody : ∀ (A : Around) (outer : List Env) (s : Shared) (H : Hp) (E : XK) (f c' : Addr), Quiet (A.deeper (lamEnv X sc s.heap.objs.size f c')) → Room k (A.deeper (lamEnv X sc s.heap.objs.size f c')) → Passes (CN (lamN X A outer s H E sc f c').prog (lamN X A outer s H E sc f c').w) (lamN X A outer s H E sc f c') E → DE (lamN X A outer s H E sc f c') g E hid body me)
    (hdef : defaultsOf params X.env = ([], []) := by rfl)
    (hbind : ∀ (q : Str) (cl : List (Str × Addr)) (pm cv ctv : Value), bindArgs (PySem.W.kla_fn "<lambda>" q params body sc cl pm cv ctv) ⟨[], []⟩ = pure [] := by intros; rfl) (hK : X.K = g.K := by rfl) :
    DE X g E hid (.Call (.Name "_law_caught" p) [.Lambda params body sc lpos] [] pos) (cauX tab me) := by
  obtain ⟨c, P, h1, h2, h3, h4⟩ := lt.ex
  exact d_caughtX cc hg h2 h1 h3 h4 qt hr L (fun A outer s H E f c' q r => hbody A outer s H E f c' q r (lam_px2 X A outer s H E sc f c')) hdef hbind hK
end L2.G
set_option Elab.async false
set_option linter.all false
set_option maxRecDepth 100000
set_option maxHeartbeats 4000000
namespace L2.G
open PySem PySem.Spec PyProof.Rows L2H
/-! a tuple among the tuples of a tuple -/
def rInT (K : PySem.W.Frag) (n : Bool) : R2 := fun x y H Q => ∃ d ds, Dp K H x d ∧ Dp K H y (.tuple ds) ∧ SeqAt.shaped d = true ∧ SeqAt.shaped (.tuple ds) = true ∧ Q (.bl (if n then !ds.any fun z => PyData.eqv z d else ds.any fun z => PyData.eqv z d)) H
section
variable {X : Cx} {g : Ga}
theorem op_inT (hu : X.A.units + 65 < cLine) : OpR X (compareOp .In) (rInT X.K false) := by
  intro pins s σ H x y v u Q I rx ry h
  obtain ⟨d, ds, hd, he, sd, se, q⟩ := h
  obtain ⟨as, r1⟩ := Dp.reads I d x v hd rx
  obtain ⟨bs, r2⟩ := Dp.reads I (.tuple ds) y u he ry
  refine SeqAt.in_tuple_reads r2 r1 (SeqAt.canLay_of_shaped se) (SeqAt.canLay_of_shaped sd) (room_in_shaped sd hu) ?_
  exact ⟨.bl _, H, I, rfl, q⟩
theorem op_notInT (hu : X.A.units + 65 < cLine) : OpR X (compareOp .NotIn) (rInT X.K true) := by
  intro pins s σ H x y v u Q I rx ry h
  obtain ⟨d, ds, hd, he, sd, se, q⟩ := h
  obtain ⟨as, r1⟩ := Dp.reads I d x v hd rx
  obtain ⟨bs, r2⟩ := Dp.reads I (.tuple ds) y u he ry
  refine SeqAt.notIn_tuple_reads r2 r1 (SeqAt.canLay_of_shaped se) (SeqAt.canLay_of_shaped sd) (room_in_shaped sd hu) ?_
  exact ⟨.bl _, H, I, rfl, q⟩
def inP (n : Bool) : D → D → Option D := fun x y => match y with
  | .tup ds => if okD 60 x && ds.all (okD 59) then some (.bl (if n then !(ds.any fun z => eqD z x) else ds.any fun z => eqD z x)) else none
  | _ => none
theorem rd_inP {n : Bool} {Hs H : Hp} {c : Cu} {x y d : D} {v u : V} {Q : VK} (sm : Same Hs H) (cu : CupAt g.pc Hs H c) (rx : Rl g Hs x v) (ry : Rl g Hs y u) (e : inP n x y = some d)
    (q : ∀ Hs' H' z, Fn g.pc Hs H Hs' H' c → Rl g Hs' d z → Q z H') : rInT g.K n v u H Q := by
  have fin : ∀ b, d = .bl b → Q (.bl b) H := fun b eb => by subst eb; exact q Hs H _ (Fn.refl sm cu) (rl_bl.mpr rfl)
  cases y with
  | tup ds =>
    simp only [inP, Option.ite_none_right_eq_some, Option.some.injEq, Bool.and_eq_true] at e
    obtain ⟨⟨h1, h2⟩, rfl⟩ := e
    have h3 : okD 60 (.tup ds) = true := by rw [okD_tup]; exact h2
    refine ⟨toP x, toPs ds, dp_of 60 x v h1 (Rl.mono sm x v rx), ?_, shaped_of h1 rx, ?_, ?_⟩
    · have := dp_of 60 _ u h3 (Rl.mono sm _ u ry)
      unfold toP at this
      exact this
    · have := shaped_of h3 ry
      unfold toP at this
      exact this
    · refine fin _ ?_
      rw [toPs_map, List.any_map]
      rfl
  | _ => simp [inP] at e
theorem o_inP (hu : X.A.units + 65 < cLine) (hK : X.K = g.K := by rfl) : OpD X g (compareOp .In) (inP false) := by
  refine ⟨_, op_inT hu, ?_⟩
  rw [hK]
  exact fun Hs H c x y v u d Q sm cu rx ry e q => rd_inP sm cu rx ry e q
theorem o_notInP (hu : X.A.units + 65 < cLine) (hK : X.K = g.K := by rfl) : OpD X g (compareOp .NotIn) (inP true) := by
  refine ⟨_, op_notInT hu, ?_⟩
  rw [hK]
  exact fun Hs H c x y v u d Q sm cu rx ry e q => rd_inP sm cu rx ry e q
end
end L2.G
set_option Elab.async false
set_option linter.all false
set_option maxRecDepth 100000
set_option maxHeartbeats 2000000
namespace L2.G
open PySem PySem.Spec PyProof.Rows L2H
/-! xs[::-1]; one of two ways to read an expression -/
def rvF : D → Option D
  | .lst ds => some (.lst ds.reverse)
  | _ => none
theorem RlL.rev {g : Ga} {H : Hp} : ∀ {ds : List D} {vs : List V}, RlL g H ds vs → RlL g H ds.reverse vs.reverse
  | [], vs, h => by
    rw [rll_nil.mp h]
    exact rll_nil.mpr rfl
  | d :: ds, vs, h => by
    obtain ⟨v, r, rfl, h1, h2⟩ := rll_cons.mp h
    rw [List.reverse_cons, List.reverse_cons]
    exact RlL.append (RlL.rev h2) (rll_cons.mpr ⟨v, [], rfl, h1, rll_nil.mpr rfl⟩)
section
variable {X : Cx} {g : Ga} {E : XK} {hid : List Nat} {m : PM D} {e : Expr} {pos p1 p2 p3 : Pos} {k : Nat}
theorem do_rev (he : DE X g E hid e m) (hK : X.K = g.K := by rfl) : DEo X g E hid (.Subscript e (.Slice none none (some (.UnaryOp .USub (.Constant (.int 1) k p1) p2)) p3) pos) (unD rvF m) := by
  refine PE_imp (pe_revL he) fun σ H Q ⟨st, c, Hs, sl, sm, cu, p⟩ => ⟨st, c, Hs, sl, sm, cu, (Post.bind p).mono fun x c1 Hs1 H1 _ F1 q v1 r1 => ?_⟩
  cases x with
  | lst ds =>
    obtain ⟨p, vs, rfl, hp, h0, r⟩ := rl_lst.mp r1
    refine ⟨p, vs, rfl, .inl (.inl (F1.sm _ _ hp)), fun n hn => ?_⟩
    exact q Hs1 _ (Fn.hid F1.sm F1.cu hn) n (fresh_of F1 hn).1 (F1.sm.free hn) (fresh_of F1 hn).2 (.inl ⟨_, _, rfl, upd_same, by rw [List.length_reverse]; exact h0, r.rev⟩)
  | _ => exact q.elim
theorem d_rev (he : DE X g E hid e m) (hK : X.K = g.K := by rfl) : DE X g E hid (.Subscript e (.Slice none none (some (.UnaryOp .USub (.Constant (.int 1) k p1) p2)) p3) pos) (unD rvF m) := d_own (do_rev he hK)
def nonD (m : PM D) : PSt → Cu → Bool := fun st c => match m st c with
  | .ok .non _ => true
  | _ => false
def altT (p : PSt → Cu → Bool) (a b : PM Bool) : PM Bool := fun st c => if p st c = true then a st c else b st c
theorem dt_alt {p : PSt → Cu → Bool} {a b : PM Bool} (ha : DT X g E hid e a) (hb : DT X g E hid e b) : DT X g E hid e (altT p a b) := by
  refine ⟨fun pins s σ H Q I h => ?_⟩
  obtain ⟨st, c, Hs, sl, sm, cu, q⟩ := h
  unfold altT at q
  by_cases hp : p st c = true
  · rw [if_pos hp] at q
    exact ha.run pins s σ H Q I ⟨st, c, Hs, sl, sm, cu, q⟩
  · rw [if_neg hp] at q
    exact hb.run pins s σ H Q I ⟨st, c, Hs, sl, sm, cu, q⟩
end
end L2.G
set_option Elab.async false
set_option linter.all false
set_option maxRecDepth 100000
set_option maxHeartbeats 2000000
namespace L2.G
open PySem PySem.Spec PyProof.Rows L2H
/-! sorted -/
def srtI (ns : List Int) : List Int := ns.mergeSort fun x y => decide (x ≤ y)
def sortIF : List D → Option D
  | [.lst ds] => (intsOf ds).map fun ns => .lst ((srtI ns).map .int)
  | _ => none
section
variable {X : Cx} {g : Ga}
theorem rl_intsL {Hs : Hp} (ns : List Int) : RlL g Hs (ns.map .int) (ns.map V.int) := RlL.map _ _ fun x _ => rl_int.mpr rfl
theorem b_sortI (hK : X.K = g.K := by rfl) : BiD X g (.builtin "sorted") sortIF := by
  refine ⟨_, cr_sortedI, ?_⟩
  rw [hK]
  intro Hs H c xs vs d Q sm cu rx e q
  unfold sortIF at e
  split at e
  · obtain ⟨v, rfl, r⟩ := one_of rx
    simp only [Option.map_eq_some_iff] at e
    obtain ⟨bs, e, rfl⟩ := e
    obtain ⟨p, ws, rfl, hp, hl, rr⟩ := rl_lst.mp r
    have hlen := rr.length
    have hw := ints_of e rr
    rw [hw] at hp
    refine ⟨p, bs, rfl, .inl (.inl (sm _ _ hp)), fun ns' n hpm hs hn => ?_⟩
    have ee : ns' = srtI bs := PySem.W.os_sorted_mergeSort hpm hs
    subst ee
    refine q (upd Hs n _) _ _ (Fn.new sm cu hn) (rl_lst.mpr ⟨n, _, rfl, upd_same, ?_, rl_intsL _⟩)
    rw [List.length_map, hpm.length_eq]
    rw [hw, List.length_map] at hlen
    omega
  · cases e
end
end L2.G
set_option Elab.async false
set_option linter.all false
set_option maxRecDepth 100000
set_option maxHeartbeats 2000000
namespace L2.G
open PySem PySem.Spec PyProof.Rows L2H
/-! sorted of texts, of tuples of whole numbers -/
def leS (a b : Str) : Prop := a.cps.toList ≤ b.cps.toList
theorem leS_tr {a b c : Str} (h : leS a b) (h2 : leS b c) : leS a c := List.le_trans h h2
theorem leS_anti {a b : Str} (h : leS a b) (h2 : leS b a) : a = b := by
  have e : a.cps.toList = b.cps.toList := List.le_antisymm h h2
  cases a; cases b
  simp only [Str.mk.injEq]
  exact Array.toList_inj.mp e
theorem leS_of {a b : Str} (h : ltCps b.cps.toList a.cps.toList = false) : leS a b := by
  rw [ltCps_eq] at h
  exact of_decide_eq_false h
theorem ris_pw : ∀ (l : List Str) (p : Str), risingS p l = true → (∀ x ∈ l, leS p x) ∧ l.Pairwise leS
  | [], p, _ => ⟨by simp, .nil⟩
  | x :: l, p, h => by
    simp only [risingS, Bool.and_eq_true, Bool.not_eq_true'] at h
    obtain ⟨h1, h2⟩ := h
    obtain ⟨a, b⟩ := ris_pw l x h2
    have px := leS_of h1
    exact ⟨fun y hy => by
      rcases List.mem_cons.mp hy with rfl | hy
      · exact px
      · exact leS_tr px (a y hy), List.pairwise_cons.mpr ⟨a, b⟩⟩
theorem srt_pw : ∀ {l : List Str}, sortedS l = true → l.Pairwise leS
  | [], _ => .nil
  | x :: l, h => List.pairwise_cons.mpr (ris_pw l x h)
theorem srt_uniq {l m : List Str} (hl : sortedS l = true) (hm : sortedS m = true) (p : l.Perm m) : l = m :=
  p.eq_of_pairwise (fun a b _ _ h1 h2 => leS_anti h1 h2) (srt_pw hl) (srt_pw hm)
/-- sorted of texts that stand in order already -/
def sortSF : List D → Option D
  | [.lst ds] => (strsOf ds).bind fun ss => if sortedS ss = true then some (.lst (ss.map .str)) else none
  | _ => none
section
variable {X : Cx} {g : Ga}
def rSortedSA (K : PySem.W.Frag) : List V → Hp → VK → Prop := fun vs H Q => ∃ (a : Addr) (xs : List Str), vs = [V.ref a] ∧ SqL K H a (xs.map V.str) ∧
  ∀ (ys : List Str) (p : Addr), ys.Perm xs → sortedS ys = true → H p = none → Q (.ref p) (upd H p (.lst (ys.map V.str)))
theorem cr_sortedSA : CallR X (.builtin "sorted") (rSortedSA X.K) := by
  intro pins s σ H vs us Q I r h
  obtain ⟨a, xs, rfl, hs, q⟩ := h
  obtain ⟨its, rv, hl, hz⟩ := I.list hs
  rw [Vals.ref1 r]
  refine PyProof.Rows.sorted_strsAny hl.isList rv.strs (by rw [← rv.length]; exact hz) fun out ys h1 h2 h3 => ?_
  obtain ⟨ep, he'⟩ := PyProof.Rows.sortedAll_at s.heap its out
  have hlen : (ys.map V.str).length ≤ sizeLine := by
    rw [List.length_map, h2.length_eq]
    rw [List.length_map] at hz
    exact hz
  exact ⟨.ref _, upd H (s.heap.objs.size + 1) (.lst (ys.map V.str)), I.laid (t' := s.toks) (fun _ _ => PyProof.Rows.sortedAll_old) (Nat.le_succ _) ⟨hlen, out.toList, ep, vals_of_strs h1, he'⟩, rfl, q ys _ h2 h3 (I.hok.fresh (Nat.le_succ _))⟩
theorem rl_strsL {Hs : Hp} : ∀ {ds : List D} {vs : List V} {ss : List Str}, strsOf ds = some ss → RlL g Hs ds vs → RlL g Hs (ss.map .str) (ss.map V.str) ∧ ds = ss.map .str
  | [], vs, ss, e, r => by
    simp only [strsOf, Option.some.injEq] at e
    subst e
    exact ⟨rll_nil.mpr rfl, rfl⟩
  | d :: ds, vs, ss, e, r => by
    obtain ⟨v, w, rfl, h1, h2⟩ := rll_cons.mp r
    cases d with
    | str b =>
      simp only [strsOf, Option.map_eq_some_iff] at e
      obtain ⟨bs, e, rfl⟩ := e
      obtain ⟨h3, h4⟩ := rl_strsL e h2
      exact ⟨rll_cons.mpr ⟨_, _, rfl, rl_str.mpr ⟨rfl, (rl_str.mp h1).2⟩, h3⟩, by rw [List.map_cons, ← h4]⟩
    | _ => simp [strsOf] at e
theorem b_sortS (hK : X.K = g.K := by rfl) : BiD X g (.builtin "sorted") sortSF := by
  refine ⟨_, cr_sortedSA, ?_⟩
  rw [hK]
  intro Hs H c xs vs d Q sm cu rx e q
  unfold sortSF at e
  split at e
  · obtain ⟨v, rfl, r⟩ := one_of rx
    simp only [Option.bind_eq_some_iff] at e
    obtain ⟨ss, e, e2⟩ := e
    split at e2
    · rename_i hs0
      cases e2
      obtain ⟨p, ws, rfl, hp, hl, rr⟩ := rl_lst.mp r
      have hlen := rr.length
      have hw := strs_of e rr
      rw [hw] at hp
      refine ⟨p, ss, rfl, .inl (.inl (sm _ _ hp)), fun ns' n hpm hs hn => ?_⟩
      have ee : ns' = ss := srt_uniq hs hs0 hpm
      subst ee
      obtain ⟨h3, h4⟩ := rl_strsL e rr
      have F := Fn.new (o := .lst (ns'.map V.str)) sm cu hn
      refine q (upd Hs n _) _ _ F (rl_lst.mpr ⟨n, _, rfl, upd_same, ?_, RlL.mono F.ss _ _ h3⟩)
      rw [← h4]
      exact hl
    · cases e2
  · cases e
end
end L2.G
namespace SrtO
open PySem PyProof.Rows Srt
section
variable {prog : Program} {w : World} {A : Around} {E : Value → Shared → Prop} {s : Shared}
theorem lexI {fin : Bool} {Q : Bool → Shared → Prop} : ∀ {its jts : List Value} {ns ms : List Int}, IntsAre its ns → IntsAre jts ms → ∀ i, fin = decide (its.length < jts.length) → Q (HT.lexLt ns ms) s → PySem.W.KatLex prog w A true fin Q (its.zip jts) i s
  | _, _, _, _, .nil, .nil, i, hf, h => by
    rw [hf]
    exact PySem.W.kat_nil h
  | _, _, _, _, .nil, .cons y u r, i, hf, h => by
    rw [hf]
    exact PySem.W.kat_nil h
  | _, _, _, _, .cons x t r, .nil, i, hf, h => by
    rw [hf]
    exact PySem.W.kat_nil h
  | _, _, _, _, .cons x t r, .cons y u r', i, hf, h => by
    rw [HT.lexLt_cons] at h
    refine PySem.W.kat_cons (SeqAt.EqAt.int_int x t y u prog w _ _ ?_)
    refine PySem.W.kat_go (fun e1 => ?_) (fun e1 => ?_)
    · have ex : x = y := by simpa using e1
      rw [if_pos ex] at h
      exact PySem.W.kat_yes (lexI r r' (i + 1) (by rw [hf]; simp) h)
    · have ex : ¬ x = y := by simpa using e1
      rw [if_neg ex] at h
      exact PySem.W.kat_no (TS.oneLt_ints _ h)
theorem tup_cmp {vs : List Value} {h0 : Heap} (hp : ∀ v ∈ vs, TS.TupInts s.heap v (TS.intsOf h0 v)) : Cmp prog w A s (tuples' true) (fun p => p.1 ∈ vs) (lt2 fun v u => HT.lexLt (TS.intsOf h0 v) (TS.intsOf h0 u)) := by
  intro p q hm hm'
  obtain ⟨a, xs, e, ⟨o, ho, hc, n, hd⟩, i⟩ := hp _ hm
  obtain ⟨a', xs', e', ⟨o', ho', hc', n', hd'⟩, i'⟩ := hp _ hm'
  show wpAny (model prog w) A (keyLt' (tuples' true) p.1 q.1) (fun r s' => s' = s ∧ r = HT.lexLt (TS.intsOf h0 p.1) (TS.intsOf h0 q.1)) (fun _ _ => False) s
  generalize TS.intsOf h0 p.1 = x at i ⊢
  generalize TS.intsOf h0 q.1 = y at i' ⊢
  rw [e, e']
  exact PySem.W.kat_lt ho hd ho' hd' (lexI i i' 0 (by simp) ⟨rfl, rfl⟩)
theorem firsts_tup {h h0 : Heap} : ∀ {vs : List Value}, (∀ v ∈ vs, TS.TupInts h v (TS.intsOf h0 v) ∧ TS.intsOf h0 v ≠ []) → ∃ fs : List Value, PySem.W.KatTups h vs fs ∧ fs.length = vs.length ∧ ∀ f ∈ fs, ∃ x t, f = Value.int x t
  | [], _ => ⟨[], PySem.W.KatTups.nil, rfl, fun _ hm => by simp at hm⟩
  | v :: vs, hp => by
    obtain ⟨fs, h1, h2, h3⟩ := firsts_tup (vs := vs) fun v' hm => hp v' (List.mem_cons_of_mem _ hm)
    obtain ⟨⟨a, xs, e, ⟨o, ho, hc, n, hd⟩, i⟩, ne⟩ := hp v (List.mem_cons_self ..)
    have hx : ∃ x t r, xs.toList = Value.int x t :: r := by
      generalize TS.intsOf h0 v = ns at i ne
      generalize xs.toList = l at i
      cases i with
      | nil => exact absurd rfl ne
      | cons x t r => exact ⟨x, t, _, rfl⟩
    obtain ⟨x, t, r, ex⟩ := hx
    subst e
    refine ⟨.int x t :: fs, PySem.W.KatTups.cons ho hc hd (by rw [← Array.getElem?_toList, ex]; rfl) h1, by rw [List.length_cons, List.length_cons, h2], fun f hm => ?_⟩
    rcases List.mem_cons.mp hm with rfl | hm
    · exact ⟨x, t, rfl⟩
    · exact h3 f hm
theorem tups_sortable {a : Addr} {vs : List Value} {h0 : Heap} (hl : 0 < vs.length) (hp : ∀ v ∈ vs, TS.TupInts s.heap v (TS.intsOf h0 v) ∧ TS.intsOf h0 v ≠ []) (ha : ∀ o, s.heap.get? a = some o → o.cls ≠ .type "tuple") : SortableO prog w A s a vs fun v u => HT.lexLt (TS.intsOf h0 v) (TS.intsOf h0 u) := by
  intro h' keep
  have hp' : ∀ v ∈ vs, TS.TupInts h' v (TS.intsOf h0 v) ∧ TS.intsOf h0 v ≠ [] := fun v hm => ⟨(hp v hm).1.keeps fun b o e c => keep b o (fun z => by subst z; exact ha o e c) e, (hp v hm).2⟩
  obtain ⟨fs, h1, h2, h3⟩ := firsts_tup hp'
  refine ⟨tuples' true, fun Q E hq => ?_, tup_cmp fun v hm => (hp' v hm).1⟩
  refine PySem.W.kat_kind (T := .type "int") h1 (by omega) (fun f hm => ?_) (by rfl) ?_
  · obtain ⟨x, t, rfl⟩ := h3 f hm
    exact PySem.W.Looks.now
  · have e : (Value.type "int" != Value.type "tuple") = true := by first | decide +kernel | rfl | decide
    rw [e]
    exact hq
theorem sorted_tupsI {l : Addr} {vs : List Value} {Q : Value → Shared → Prop} (hl : s.heap.IsList l vs.toArray) (hz : vs.length ≤ sizeLine) (hp : 2 ≤ vs.length → ∀ v ∈ vs, TS.TupInts s.heap v (TS.intsOf s.heap v) ∧ TS.intsOf s.heap v ≠ [])
    (h : ∀ out : List Value, Srtd (fun v u => HT.lexLt (TS.intsOf s.heap v) (TS.intsOf s.heap u)) out → Stb (fun v u => HT.lexLt (TS.intsOf s.heap v) (TS.intsOf s.heap u)) out vs → Q (.ref (s.heap.objs.size + 1)) { s with heap := sortedAll s.heap vs out.toArray }) :
    wpAny (model prog w) A (call (.builtin "sorted") [.ref l]) Q E s := by
  refine sorted_ord (NtL.swo_lexL (TS.intsOf s.heap)) hl hz (fun h2 h₁ a ha kk => ?_) h
  refine tups_sortable (s := { s with heap := h₁ }) (by omega) (fun v hm => ⟨(hp h2 v hm).1.keeps fun b o e _ => (kk b o e).2, (hp h2 v hm).2⟩) fun o e => ?_
  have e' : some o = some (seqObj "list" vs.toArray 0) := e.symm.trans ha
  cases e'
  intro c
  exact absurd (Value.type.inj c) (by decide)
end
end SrtO
namespace L2.G
open PySem PySem.Spec PyProof.Rows L2H
section
variable {X : Cx} {g : Ga}
/-- sorted(xs), xs a list of tuples of whole numbers, none of them empty if there are two -/
def rSortL (K : PySem.W.Frag) : List V → Hp → VK → Prop := fun vs H Q => ∃ (a : Addr) (xs : List V), vs = [V.ref a] ∧ SqL K H a xs ∧ (∀ x ∈ xs, ∃ ns, TupI K H x ns ∧ (2 ≤ xs.length → ns ≠ [])) ∧
  ∀ (ys : List V) (p : Addr), ys.Perm xs → ys.Pairwise (fun x y => ∀ n m, TupI K H x n → TupI K H y m → HT.lexLt m n = false) → H p = none → Q (.ref p) (upd H p (.lst ys))
theorem cr_sortL : CallR X (.builtin "sorted") (rSortL X.K) := by
  intro pins s σ H vs us Q I r h
  obtain ⟨a, xs, rfl, hs, hx, q⟩ := h
  obtain ⟨its, rv, hl, hz⟩ := I.list hs
  rw [Vals.ref1 r]
  obtain ⟨e1, e2⟩ := bkV_refs rv fun x m => by
    obtain ⟨ns, ⟨t, e, _⟩, _⟩ := hx x m
    exact ⟨t, e⟩
  refine SrtO.sorted_tupsI hl.isList (by rw [← rv.length]; exact hz) (fun h2 v hv => ?_) fun out h1 h2 => ?_
  · obtain ⟨t, rfl⟩ := e2 v hv
    have hm : V.ref t ∈ xs := by
      rw [e1]
      exact List.mem_map.mpr ⟨_, hv, rfl⟩
    obtain ⟨ns, ⟨t', e, ht⟩, hn⟩ := hx _ hm
    cases e
    have z := tupI_raw I ht
    rw [z.ints]
    exact ⟨z, hn (by rw [rv.length]; exact h2)⟩
  · obtain ⟨ep, he'⟩ := PyProof.Rows.sortedAll_at s.heap its out.toArray
    have h3 : ∀ u ∈ out, ∃ a, u = Value.ref a := fun u hu => e2 u (h2.perm.mem_iff.mp hu)
    have hp : (out.map bkV).Perm xs := by
      rw [e1]
      exact h2.perm.map bkV
    have hlen : (out.map bkV).length ≤ sizeLine := by
      rw [hp.length_eq]
      exact hz
    refine ⟨.ref _, upd H (s.heap.objs.size + 1) (.lst (out.map bkV)), I.laid (t' := s.toks) (fun _ _ => PyProof.Rows.sortedAll_old) (Nat.le_succ _) ⟨hlen, out, ep, bkV_vals h3, he'⟩, rfl, q _ _ hp ?_ (I.hok.fresh (Nat.le_succ _))⟩
    rw [List.pairwise_map]
    refine List.Pairwise.imp (fun {u v} huv n m hn hm => ?_) h1
    obtain ⟨t, et, ht⟩ := hn
    obtain ⟨t', et', ht'⟩ := hm
    have eu := bkV_ref et
    have ev := bkV_ref et'
    have i1 : TS.intsOf s.heap u = n := by
      rw [eu]
      exact (tupI_raw I ht).ints
    have i2 : TS.intsOf s.heap v = m := by
      rw [ev]
      exact (tupI_raw I ht').ints
    have hv : HT.lexLt (TS.intsOf s.heap v) (TS.intsOf s.heap u) = false := huv
    rw [i1, i2] at hv
    exact hv
def tD (ns : List Int) : D := .tup (ns.map .int)
def tupsOf : List D → Option (List (List Int))
  | [] => some []
  | .tup xs :: ds => (intsOf xs).bind fun ns => (tupsOf ds).map (ns :: ·)
  | _ => none
theorem intsOf_eq : ∀ {ds : List D} {ns : List Int}, intsOf ds = some ns → ds = ns.map .int
  | [], ns, e => by
    simp only [intsOf, Option.some.injEq] at e
    subst e
    rfl
  | d :: ds, ns, e => by
    cases d with
    | int i =>
      simp only [intsOf, Option.map_eq_some_iff] at e
      obtain ⟨bs, e, rfl⟩ := e
      rw [intsOf_eq e, List.map_cons]
    | _ => simp [intsOf] at e
theorem tupsOf_eq : ∀ {ds : List D} {ts : List (List Int)}, tupsOf ds = some ts → ds = ts.map tD
  | [], ts, e => by
    simp only [tupsOf, Option.some.injEq] at e
    subst e
    rfl
  | d :: ds, ts, e => by
    cases d with
    | tup xs =>
      simp only [tupsOf, Option.bind_eq_some_iff, Option.map_eq_some_iff] at e
      obtain ⟨ns, e1, bs, e2, rfl⟩ := e
      rw [tupsOf_eq e2, intsOf_eq e1]
      rfl
    | _ => simp [tupsOf] at e
theorem tupsOf_map (ts : List (List Int)) : tupsOf (ts.map tD) = some ts := by
  induction ts with
  | nil => rfl
  | cons t ts ih =>
    simp only [List.map_cons, tD, tupsOf]
    have e : intsOf (t.map D.int) = some t := by
      clear ih
      induction t with
      | nil => rfl
      | cons i t ih => simp only [List.map_cons, intsOf, ih, Option.map_some]
    simp only [e, Option.bind_some]
    have ih' : tupsOf (List.map (fun ns => D.tup (List.map D.int ns)) ts) = some ts := ih
    show (tupsOf (List.map tD ts)).map _ = _
    rw [ih]
    rfl
theorem lex_anti : ∀ a b : List Int, HT.lexLt a b = false → HT.lexLt b a = false → a = b
  | [], [], _, _ => rfl
  | [], _ :: _, h, _ => by simp [HT.lexLt] at h
  | _ :: _, [], _, h => by simp [HT.lexLt] at h
  | x :: a, y :: b, h, h2 => by
    rw [HT.lexLt_cons] at h h2
    by_cases e : x = y
    · subst e
      rw [if_pos rfl] at h h2
      rw [lex_anti a b h h2]
    · rw [if_neg e] at h
      rw [if_neg (fun z => e z.symm)] at h2
      have a1 := of_decide_eq_false h
      have a2 := of_decide_eq_false h2
      exact absurd (by omega) e
def leT (x y : List Int) : Bool := !HT.lexLt y x
def srtT (ts : List (List Int)) : List (List Int) := ts.mergeSort leT
theorem srtT_pw (ts : List (List Int)) : (srtT ts).Pairwise fun x y => HT.lexLt y x = false := by
  have h := List.pairwise_mergeSort (le := leT) (fun a b c h1 h2 => by
    simp only [leT, Bool.not_eq_true'] at h1 h2 ⊢
    exact NtL.lex_tr _ _ _ h1 h2) (fun a b => by
    simp only [leT, Bool.or_eq_true, Bool.not_eq_true']
    cases h : HT.lexLt b a with
    | false => exact .inl rfl
    | true => exact .inr (NtL.lex_asym _ _ h)) ts
  exact h.imp fun {x y} q => by simpa [leT] using q
theorem srtT_uniq {l ts : List (List Int)} (p : l.Perm ts) (h : l.Pairwise fun x y => HT.lexLt y x = false) : l = srtT ts :=
  (p.trans (List.mergeSort_perm ts leT).symm).eq_of_pairwise (le := fun x y => HT.lexLt y x = false) (fun a b _ _ h1 h2 => lex_anti a b h2 h1) h (srtT_pw ts)
/-- sorted of tuples of whole numbers -/
def sortTF : List D → Option D
  | [.lst ds] => (tupsOf ds).bind fun ts => if ts.length < 2 ∨ [] ∉ ts then some (.lst ((srtT ts).map tD)) else none
  | _ => none
theorem RlL.perm {Hs : Hp} : ∀ {vs ws : List V}, vs.Perm ws → ∀ {ds : List D}, RlL g Hs ds ws → ∃ es : List D, es.Perm ds ∧ RlL g Hs es vs := by
  intro vs ws p
  induction p with
  | nil => intro ds h; exact ⟨ds, .refl _, h⟩
  | cons x p ih =>
    intro ds h
    cases ds with
    | nil => cases rll_nil.mp h
    | cons d ds =>
      obtain ⟨v, r, e, h1, h2⟩ := rll_cons.mp h
      cases e
      obtain ⟨es, q, k⟩ := ih h2
      exact ⟨d :: es, q.cons d, rll_cons.mpr ⟨_, _, rfl, h1, k⟩⟩
  | swap x y l =>
    intro ds h
    match ds, h with
    | [], h => cases rll_nil.mp h
    | [d], h =>
      obtain ⟨v, r, e, h1, h2⟩ := rll_cons.mp h
      cases e
      cases rll_nil.mp h2
    | d :: d' :: ds, h =>
      obtain ⟨v, r, e, h1, h2⟩ := rll_cons.mp h
      cases e
      obtain ⟨v, r, e, h3, h4⟩ := rll_cons.mp h2
      cases e
      exact ⟨d' :: d :: ds, .swap _ _ _, rll_cons.mpr ⟨_, _, rfl, h3, rll_cons.mpr ⟨_, _, rfl, h1, h4⟩⟩⟩
  | trans p1 p2 ih1 ih2 =>
    intro ds h
    obtain ⟨es, q, k⟩ := ih2 h
    obtain ⟨fs, q2, k2⟩ := ih1 k
    exact ⟨fs, q2.trans q, k2⟩
theorem rl_tI {Hs : Hp} {ns : List Int} {v : V} (h : Rl g Hs (tD ns) v) : TupI g.K Hs v ns := by
  obtain ⟨a, vs, rfl, hs, _, r⟩ := rl_tup.mp h
  refine ⟨a, rfl, ?_⟩
  rw [ints_of (intsOf_map ns) r] at hs
  exact hs
theorem rl_pw {Hs : Hp} : ∀ {ts : List (List Int)} {vs : List V}, RlL g Hs (ts.map tD) vs → vs.Pairwise (fun x y => ∀ n m, TupI g.K Hs x n → TupI g.K Hs y m → HT.lexLt m n = false) → ts.Pairwise fun x y => HT.lexLt y x = false
  | [], vs, _, _ => .nil
  | t :: ts, vs, r, h => by
    obtain ⟨v, w, rfl, h1, h2⟩ := rll_cons.mp r
    obtain ⟨p1, p2⟩ := List.pairwise_cons.mp h
    refine List.pairwise_cons.mpr ⟨fun u hu => ?_, rl_pw h2 p2⟩
    obtain ⟨i, hi⟩ := List.mem_iff_getElem?.mp hu
    obtain ⟨z, hz, rz⟩ := RlL.get (i := i) (d := tD u) h2 (by rw [List.getElem?_map, hi]; rfl)
    exact p1 z (List.mem_of_getElem? hz) _ _ (rl_tI h1) (rl_tI rz)
def unT : D → List Int
  | .tup xs => (intsOf xs).getD []
  | _ => []
theorem unT_tD (t : List Int) : unT (tD t) = t := by
  show (intsOf (t.map D.int)).getD [] = t
  rw [intsOf_map]
  rfl
theorem tD_perm {es : List D} {ts : List (List Int)} (p : es.Perm (ts.map tD)) : ∃ us : List (List Int), es = us.map tD ∧ us.Perm ts := by
  refine ⟨es.map unT, ?_, ?_⟩
  · rw [List.map_map]
    have : ∀ e ∈ es, (tD ∘ unT) e = e := fun e he => by
      obtain ⟨t, _, rfl⟩ := List.mem_map.mp (p.mem_iff.mp he)
      show tD (unT (tD t)) = _
      rw [unT_tD]
    rw [List.map_congr_left this, List.map_id']
  · have := p.map unT
    rw [List.map_map] at this
    have e2 : ts.map (unT ∘ tD) = ts := by
      rw [List.map_congr_left (f := unT ∘ tD) (g := id) fun t _ => unT_tD t, List.map_id]
    rw [e2] at this
    exact this
theorem TupI.mono {K : PySem.W.Frag} {H H' : Hp} (s : Same H H') {v : V} {ns : List Int} (h : TupI K H v ns) : TupI K H' v ns := by
  obtain ⟨t, e, q⟩ := h
  exact ⟨t, e, seqT_mono s q⟩
theorem b_sortT (hK : X.K = g.K := by rfl) : BiD X g (.builtin "sorted") sortTF := by
  refine ⟨_, cr_sortL, ?_⟩
  rw [hK]
  intro Hs H c xs vs d Q sm cu rx e q
  unfold sortTF at e
  split at e
  · obtain ⟨v, rfl, r⟩ := one_of rx
    simp only [Option.bind_eq_some_iff] at e
    obtain ⟨ts, e, e2⟩ := e
    split at e2
    · rename_i hs0
      cases e2
      have ed := tupsOf_eq e
      subst ed
      obtain ⟨p, ws, rfl, hp, hl, rr⟩ := rl_lst.mp r
      have hlen := rr.length
      rw [List.length_map] at hlen hl
      refine ⟨p, ws, rfl, .inl (.inl (sm _ _ hp)), fun x hx => ?_, fun ys n hpm hpw hn => ?_⟩
      · obtain ⟨i, hi⟩ := List.mem_iff_getElem?.mp hx
        obtain ⟨d, hd, rd⟩ := rr.getV hi
        rw [List.getElem?_map, Option.map_eq_some_iff] at hd
        obtain ⟨t, ht, rfl⟩ := hd
        refine ⟨t, TupI.mono sm (rl_tI rd), fun h2 e0 => ?_⟩
        rcases hs0 with q | q
        · omega
        · exact q (e0 ▸ List.mem_of_getElem? ht)
      · obtain ⟨es, pe, re⟩ := RlL.perm hpm rr
        obtain ⟨us, hus, pus⟩ : ∃ us : List (List Int), es = us.map tD ∧ us.Perm ts := by
          exact tD_perm pe
        subst hus
        have pw := rl_pw re (hpw.imp fun {x y} k n m hn hm => k n m (TupI.mono sm hn) (TupI.mono sm hm))
        have eu := srtT_uniq pus pw
        subst eu
        have F := Fn.new (o := .lst ys) sm cu hn
        refine q (upd Hs n _) _ _ F (rl_lst.mpr ⟨n, _, rfl, upd_same, ?_, RlL.mono F.ss _ _ re⟩)
        rw [List.length_map, pus.length_eq]
        exact hl
    · cases e2
  · cases e
end
end L2.G
set_option Elab.async false
set_option linter.all false
set_option maxRecDepth 100000
set_option maxHeartbeats 2000000
namespace L2.G
open PySem PySem.Spec PyProof.Rows L2H PySem.W
/-! sorted(xs, key=f), f a def of the program that is told by data -/
mutual
def kyD : D → Bool
  | .int _ => true
  | .tup ds => kyDs ds
  | _ => false
def kyDs : List D → Bool
  | [] => true
  | d :: ds => kyD d && kyDs ds
end
section
variable {X : Cx} {g : Ga} {pins : List (Addr × Obj)} {σ : St} {H Hs : Hp} {s : Shared}
mutual
theorem rd_ky (hK : X.K = g.K) (I : Inv X pins σ H s) (sm : Same Hs H) : ∀ (d : D) {v : V} {u : Value}, kyD d = true → Rl g Hs d v → RelV v u → Reads s.heap u (toP d) []
  | .int i, v, u, _, r, q => by
    rw [rl_int.mp r] at q
    obtain ⟨t, rfl⟩ := q
    simp only [toP]
    exact .int i t
  | .tup ds, v, u, k, r, q => by
    obtain ⟨a, vs, e, hs, _, rr⟩ := rl_tup.mp r
    rw [e] at q
    cases q
    rw [← hK] at hs
    obtain ⟨its, rv, ⟨o, h1, h2, n, h3⟩, _⟩ := I.tuple (seqT_mono sm hs)
    simp only [toP]
    simp only [kyD] at k
    exact .tuple h1 h2 h3 (by rw [List.toList_toArray]; exact rds_ky hK I sm ds k rr rv)
  | .non, _, _, k, _, _ => by simp [kyD] at k
  | .bl _, _, _, k, _, _ => by simp [kyD] at k
  | .str _, _, _, k, _, _ => by simp [kyD] at k
  | .lst _, _, _, k, _, _ => by simp [kyD] at k
  | .dic, _, _, k, _, _ => by simp [kyD] at k
  | .ins _ _ _, _, _, k, _, _ => by simp [kyD] at k
  | .dct _ _, _, _, k, _, _ => by simp [kyD] at k
  | .exc _ _ _, _, _, k, _, _ => by simp [kyD] at k
  | .cup, _, _, k, _, _ => by simp [kyD] at k
  | .scr _, _, _, k, _, _ => by simp [kyD] at k
theorem rds_ky (hK : X.K = g.K) (I : Inv X pins σ H s) (sm : Same Hs H) : ∀ (ds : List D) {vs : List V} {us : List Value}, kyDs ds = true → RlL g Hs ds vs → Vals vs us → ReadsAll s.heap us (toPs ds) []
  | [], vs, us, _, r, q => by
    rw [rll_nil.mp r] at q
    cases q
    simp only [toPs]
    exact .nil
  | d :: ds, vs, us, k, r, q => by
    obtain ⟨v, w, e, h1, h2⟩ := rll_cons.mp r
    rw [e] at q
    cases q with
    | cons q1 q2 =>
      simp only [kyDs, Bool.and_eq_true] at k
      simp only [toPs]
      exact .cons (rd_ky hK I sm d k.1 h1 q1) (rds_ky hK I sm ds k.2 h2 q2)
end
end
/-- the heap without one object -/
theorem drop_one (h : Heap) (k : Addr) : ∃ h1 : Heap, h1.get? k = none ∧ ∀ b, b ≠ k → h1.get? b = h.get? b := by
  refine ⟨{ h with objs := h.objs.setIfInBounds k ⟨.none, none, .freed, #[]⟩ }, ?_, fun b hb => ?_⟩
  · unfold Heap.get?
    simp only [Array.getElem?_setIfInBounds_self]
    by_cases hk : k < h.objs.size
    · simp [hk]
    · simp [hk]
  · unfold Heap.get?
    simp only [Array.getElem?_setIfInBounds_ne (Ne.symm hb)]
/-- what may be changed or pinned -/
structure NewA (X : Cx) (pins : List (Addr × Obj)) (b : Addr) : Prop where
  sz : X.s_0.heap.objs.size ≤ b
  loc : b ≠ X.env.locals
  cel : ∀ x c, X.env.cells.lookup x = some c → c ≠ b
  pin : ∀ p ∈ X.pn ++ pins, p.1 ≠ b
  fs : b ∉ X.fs
theorem new_a {X : Cx} {pins : List (Addr × Obj)} {σ : St} {H : Hp} {s : Shared} (I : Inv X pins σ H s) {b : Addr} (h : s.heap.objs.size ≤ b) : NewA X pins b := by
  have no : ∀ {c : Addr}, c < s.heap.objs.size → c ≠ b := fun {c} hc z => by
    rw [z] at hc
    exact Nat.lt_irrefl _ (Nat.lt_of_lt_of_le hc h)
  refine ⟨Nat.le_trans I.sz h, fun e => no I.lt e.symm, fun x c e z => ?_, fun p hp z => no (Heap.lt_size (I.pin p hp).1) z, I.nofs h⟩
  obtain ⟨v, o, ho, _⟩ := I.cell x c e
  exact no (Heap.lt_size ho) z
section
variable {X : Cx} {g : Ga} {pins : List (Addr × Obj)} {σ : St} {A' : Around} {a kS : Addr} {e1 : Nat} {c : Cu}
abbrev lsO (ks : Array Value) (e : Nat) : Obj := seqObj "list" ks e
abbrev pin2 (pins : List (Addr × Obj)) (a kS : Addr) (e1 : Nat) (kA : Array Value) (e : Nat) : List (Addr × Obj) := (kS, lsO kA e) :: (a, lsO #[] e1) :: pins
theorem pin2_of {H : Hp} {s : Shared} {kA : Array Value} {e : Nat} (I : Inv X pins σ H s) (na : NewA X pins a) (nk : NewA X pins kS) (ha : s.heap.get? a = some (lsO #[] e1)) (hk : s.heap.get? kS = some (lsO kA e)) (h1 : H a = none) (h2 : H kS = none) : Inv X (pin2 pins a kS e1 kA e) σ H s :=
  I.pins_of fun p hp => by
    rcases List.mem_cons.mp hp with rfl | hp
    · exact ⟨hk, h2, fun z => nk.loc z, nk.fs, fun v z => by cases z⟩
    rcases List.mem_cons.mp hp with rfl | hp
    · exact ⟨ha, h1, fun z => na.loc z, na.fs, fun v z => by cases z⟩
    exact I.pin p (List.mem_append_right _ hp)
theorem pin2_off {H : Hp} {s : Shared} {kA : Array Value} {e : Nat} (I : Inv X (pin2 pins a kS e1 kA e) σ H s) : Inv X pins σ H s ∧ (s.heap.get? kS = some (lsO kA e) ∧ H kS = none) ∧ s.heap.get? a = some (lsO #[] e1) ∧ H a = none := by
  have p1 := I.pin (kS, lsO kA e) (List.mem_append_right _ (by simp))
  have p2 := I.pin (a, lsO #[] e1) (List.mem_append_right _ (by simp))
  exact ⟨I.pins_of fun p hp => I.pin p (List.mem_append_right _ (List.mem_cons_of_mem _ (List.mem_cons_of_mem _ hp))), ⟨p1.1, p1.2.1⟩, p2.1, p2.2.1⟩
/-- a key is pushed -/
theorem pin2_push {H : Hp} {s : Shared} {kA : Array Value} {e : Nat} (I : Inv X (pin2 pins a kS e1 kA e) σ H s) (na : NewA X pins a) (nk : NewA X pins kS) (ne : kS ≠ a) (v : Value) : ∃ e', Inv X (pin2 pins a kS e1 (kA.push v) e') σ H { s with heap := s.heap.update kS (Obj.mapSeq (·.push v)) } := by
  obtain ⟨J, ⟨k1, k2⟩, a1, a2⟩ := pin2_off I
  have sb := Heap.SameBut.update s.heap kS (Obj.mapSeq (·.push v))
  obtain ⟨e', he⟩ : ∃ e', (s.heap.update kS (Obj.mapSeq (·.push v))).get? kS = some (seqObj "list" (kA.push v) e') := ⟨_, get?_update_seq k1 (·.push v)⟩
  refine ⟨e', pin2_of (J.turned (t' := s.toks) (it := kS) (fun b o hb q => (sb.2 b hb).trans q) k2 (fun z => nk.loc z) (.inr nk.sz) nk.cel nk.pin) na nk ((sb.2 a ne.symm).trans a1) he a2 k2⟩
theorem adopt {H : Hp} {s : Shared} {b : Addr} {o : HO} (I : Inv X pins σ H s) (nb : NewA X pins b) (hn : H b = none) (new : ObjOk X.prog X.w (upd H b o) s.heap b o) : Inv X pins σ (upd H b o) s := by
  have nq : ∀ {y : Addr} {u : HO}, H y = some u → upd H b o y = some u := fun {y u} e => by rw [upd_ne (ne_of_none e hn)]; exact e
  refine I.step (g' := s.gens) (d' := s.drawn) (t' := s.toks) (h' := s.heap) (ch := [b]) (fun y hy => ?_) (fun y u _ _ _ e _ => e) (fun y u _ _ _ e _ => ⟨u.slots, e⟩) (fun y u hy e n => ?_) (fun y u _ e => ⟨u, e⟩)
    (fun y xs e => nq e) (fun y u v e => nq e) (fun y ps e => ⟨#[], by rw [nq e]; simp⟩) (fun m hm => hm) (fun y u e => ?_) I.bare
  · rw [List.mem_singleton.mp hy]
    exact ⟨.inr nb.sz, nb.loc, nb.cel, nb.pin⟩
  · rw [upd_ne fun z => hy (by rw [z]; simp)]
    exact n
  · by_cases hb : y = b
    · subst hb
      rw [upd_same] at e
      cases e
      exact new
    · rw [upd_ne hb] at e
      exact (I.hok y u e).stay (fun z v _ q => q) (fun z q => nq q) fun z xs q => nq q
/-- a heap with one object as it was before -/
theorem as_was {h h' : Heap} {b : Addr} {o u : Obj} (e : h.get? b = some o) (e' : h'.get? b = some u) : ∃ hm : Heap, hm.get? b = some o ∧ ∀ y, y ≠ b → hm.get? y = h'.get? y := by
  refine ⟨{ h' with objs := h'.objs.setIfInBounds b o }, ?_, fun y hy => ?_⟩
  · have lt := Heap.lt_size e'
    have e2 := e
    unfold Heap.get? at e ⊢
    simp only [Array.getElem?_setIfInBounds_self]
    rw [if_pos lt]
    revert e
    cases hq : h.objs[b]? with
    | none => intro z; cases z
    | some x =>
      intro z
      have : x = o := by
        obtain ⟨x1, x2, x3, x4⟩ := x
        cases x3 <;> first | (cases z; done) | exact Option.some.inj z
      subst this
      exact z
  · unfold Heap.get?
    simp only [Array.getElem?_setIfInBounds_ne (Ne.symm hy)]
/-- two objects that are not told of have changed -/
theorem turned2 {H : Hp} {s : Shared} {h' : Heap} {tk : Nat} (I : Inv X pins σ H s) (na : NewA X pins a) (nk : NewA X pins kS) (ha : H a = none) (hk : H kS = none) {o u : Obj} (ea : s.heap.get? a = some o) (ea' : h'.get? a = some u)
    (k : ∀ b v, b ≠ a → b ≠ kS → s.heap.get? b = some v → h'.get? b = some v) (ne : kS ≠ a) : Inv X pins σ H { s with heap := h', toks := tk } := by
  obtain ⟨hm, m1, m2⟩ := as_was ea ea'
  have I1 : Inv X pins σ H { s with heap := hm, toks := tk } := I.turned (it := kS) (fun b v hb q => by
    by_cases hz : b = a
    · rw [hz] at q ⊢
      rw [m1, ← ea, q]
    · rw [m2 b hz]
      exact k b v hz hb q) hk (fun z => nk.loc z) (.inr nk.sz) nk.cel nk.pin
  exact Inv.turned (s := { s with heap := hm, toks := tk }) (h' := h') (t' := tk) (it := a) I1 (fun b v hb q => by
    have q' : hm.get? b = some v := q
    rw [m2 b hb] at q'
    exact q') ha (fun z => na.loc z) (.inr na.sz) na.cel na.pin
section
variable {m : Fd} {f : Addr} {fd : FuncData} {ps : List Str} {lvl : Nat}
theorem turn_k {H Hs : Hp} {s : Shared} {d kd : D} {v : V} {u : Value} {P : List (Addr × Obj)} (F : FnOk X.prog X.w X.K X.mg X.base (CN X.prog X.w) lvl f fd ps (spD g.K g.cm g.cs m)) (hb : Binds X.K fd ps []) (hr : Room (lvl + 2) X.A)
    (I : Inv X P σ H s) (sm : Same Hs H) (cu : CupAt g.pc Hs H c) (r : Rl g Hs d v) (q : RelV v u) (hm : m [d] c = .ok kd c) {Q : Value → Shared → Prop} {E : Value → Shared → Prop}
    (h : ∀ w u' Hs' H' s', Fn g.pc Hs H Hs' H' c → Rl g Hs' kd w → RelV w u' → Inv X P σ H' s' → Q u' s') : wpAny (model X.prog X.w) X.A.in1.in1 (call (.ref f) [u]) Q E s := by
  let Qv : VK := fun w H' => ∃ Hs', Fn g.pc Hs H Hs' H' c ∧ Rl g Hs' kd w
  have r2 : Vals [v] [u] := .cons q .nil
  have sp : spD g.K g.cm g.cs m [v] H Qv E0 := ⟨g.pc, Hs, [d], c, sm, cu, rll_cons.mpr ⟨v, [], rfl, r, rll_nil.mpr rfl⟩, by
    rw [hm]
    exact fun Hs' H' fn w rw => ⟨Hs', fn, rw⟩⟩
  have hl : [u].length = ps.length := F.len [v] H Qv E0 sp
  have b := hb s [u] I.kIn (by rw [List.append_nil]; exact hl)
  rw [List.append_nil] at b
  refine wpAny_call (codeAny_mono (F.run X.A.in1.in1 X.stack s H ⟨[u], []⟩ [u] [v] Qv E0 hr.in1.in1 I.env0.in1.in1 b r2 sp) fun r s' hq => ?_)
  cases r with
  | error e =>
    obtain ⟨_, _, _, _, _, _, _, _, _, _, _, _, z⟩ := hq
    exact z.elim
  | ok fl =>
    cases fl with
    | ret u' =>
      obtain ⟨w, H', I', rw, Hs', fn, rl⟩ := I.after hq
      exact h w u' Hs' H' s' fn rl rw I'
    | next => exact False.elim hq
    | brk => exact False.elim hq
    | cont => exact False.elim hq
/-- all the keys -/
theorem keys_k {H Hs : Hp} {s : Shared} {ds kds : List D} {xs : List V} {vs : List Value} {P : PySem.Fin → Shared → Prop} {E : Value → Shared → Prop} (F : FnOk X.prog X.w X.K X.mg X.base (CN X.prog X.w) lvl f fd ps (spD g.K g.cm g.cs m)) (hb : Binds X.K fd ps []) (hr : Room (lvl + 2) X.A)
    (na : NewA X pins a) (nk : NewA X pins kS) (ne : kS ≠ a) (I : Inv X (pin2 pins a kS e1 #[] 0) σ H s) (sm : Same Hs H) (cu : CupAt g.pc Hs H c) (rr : RlL g Hs ds xs) (rv : Vals xs vs) (hz : vs.length ≤ sizeLine)
    (hlen : kds.length = ds.length) (hm : ∀ (i : Nat) (d kd : D), ds[i]? = some d → kds[i]? = some kd → m [d] c = .ok kd c)
    (h : ∀ s' H' Hs' kA e ws, Inv X (pin2 pins a kS e1 kA e) σ H' s' → Fn g.pc Hs H Hs' H' c → Vals ws kA.toList → RlL g Hs' kds ws → wpAny (model X.prog X.w) X.A.in1.in1 (ksk_end a false vs.toArray e1 (.ref kS) kA) P E s') :
    wpAny (model X.prog X.w) X.A.in1.in1 (ksk_rest a (.ref f) false vs.toArray e1 (.ref kS)) P E s := by
  have hvd : vs.length = ds.length := by rw [← rv.length, rr.length]
  unfold ksk_rest
  refine wpAny_bind (wpAny_rule ?_)
  first
    | rw [List.forIn_toArray]
    | (rw [← Array.forIn_toList]; simp only [List.toList_toArray])
  let J : Nat → Shared → Prop := fun i s' => ∃ H' Hs' kA e ws, Inv X (pin2 pins a kS e1 kA e) σ H' s' ∧ Fn g.pc Hs H Hs' H' c ∧ Vals ws kA.toList ∧ RlL g Hs' (kds.take i) ws
  refine wpAny_bind (ksk_fold J vs 0 s ⟨H, Hs, #[], 0, [], I, Fn.refl sm cu, .nil, by rw [List.take_zero]; exact rll_nil.mpr rfl⟩ ?one ?fin)
  case one =>
    rintro j u s' hu ⟨H', Hs', kA, e, ws, I', fn, rk, rl⟩
    rw [Nat.zero_add] at rl ⊢
    obtain ⟨hj, _⟩ := List.getElem?_eq_some_iff.mp hu
    obtain ⟨v, hv⟩ : ∃ v, xs[j]? = some v := ⟨_, List.getElem?_eq_getElem (by rw [rv.length]; exact hj)⟩
    obtain ⟨u2, hu2, q⟩ := rv.get hv
    rw [hu] at hu2
    cases hu2
    obtain ⟨d, hd, rd⟩ := rr.getV hv
    obtain ⟨kd, hkd⟩ : ∃ kd, kds[j]? = some kd := ⟨_, List.getElem?_eq_getElem (by omega)⟩
    have kl : kA.size = j := by
      have e1 := rk.length
      have e2 := rl.length
      have e3 : kA.toList.length = kA.size := Array.length_toList
      have e4 : (kds.take j).length = j := by rw [List.length_take]; omega
      rw [e4] at e2
      rw [e3] at e1
      omega
    refine wpAny_bind (wpAny_attempt (turn_k F hb hr I' fn.sm fn.cu (Rl.mono fn.ss d v rd) q (hm j d kd hd hkd) fun w u' Hs2 H2 s2 fn2 rl2 q2 I2 => ?_))
    obtain ⟨_, ⟨k1, _⟩, _, _⟩ := pin2_off I2
    obtain ⟨e', I3⟩ := pin2_push I2 na nk ne u'
    try dsimp only
    refine wpAny_bind (listUpdate_at k1 rfl ?_ (by omega) (by rw [Array.size_push]; omega))
    refine wpAny_pure ⟨rfl, H2, Hs2, kA.push u', e', ws ++ [w], I3, fn.trans fn2, ?_, ?_⟩
    · rw [Array.toList_push]
      exact rk.append (.cons q2 .nil)
    · rw [List.take_add_one, hkd]
      exact (RlL.mono fn2.ss _ _ rl).append (rll_cons.mpr ⟨w, [], rfl, rl2, rll_nil.mpr rfl⟩)
  case fin =>
    rintro s' ⟨H', Hs', kA, e, ws, I', fn, rk, rl⟩
    obtain ⟨_, ⟨k1, _⟩, _, _⟩ := pin2_off I'
    rw [Nat.zero_add, List.take_of_length_le (by omega)] at rl
    try dsimp only
    refine wpAny_bind (listItems_at k1 rfl ?_)
    exact h s' H' Hs' kA e ws I' fn rk rl
def srtP (ds kds : List D) : List D := ((ds.zip kds).mergeSort (dataLe false fun p => toP p.2)).map (·.1)
theorem each_vals {Hs : Hp} : ∀ {us : List Value} {bs : List (D × D)}, EachIs (fun u p => ∃ v, RelV v u ∧ Rl g Hs p.1 v) us bs → ∃ ys, Vals ys us ∧ RlL g Hs (bs.map (·.1)) ys
  | _, _, .nil => ⟨[], .nil, rll_nil.mpr rfl⟩
  | _, _, .cons ⟨v, q, r⟩ t => by
    obtain ⟨ys, h1, h2⟩ := each_vals t
    exact ⟨v :: ys, .cons q h1, rll_cons.mpr ⟨v, ys, rfl, r, h2⟩⟩
theorem each_of {Hs : Hp} : ∀ {ds kds : List D} {vs : List V} {us : List Value}, kds.length = ds.length → RlL g Hs ds vs → Vals vs us → EachIs (fun u p => ∃ v, RelV v u ∧ Rl g Hs p.1 v) us (ds.zip kds)
  | [], kds, vs, us, _, r, q => by
    rw [rll_nil.mp r] at q
    cases q
    exact .nil
  | d :: ds, [], vs, us, h, _, _ => by cases h
  | d :: ds, k :: kds, vs, us, h, r, q => by
    obtain ⟨v, w, e, h1, h2⟩ := rll_cons.mp r
    rw [e] at q
    cases q with
    | cons q1 q2 => exact .cons ⟨v, q1, h1⟩ (each_of (by simpa using h) h2 q2)
theorem each_rd (hK : X.K = g.K) {H Hs : Hp} {s : Shared} {P : List (Addr × Obj)} (I : Inv X P σ H s) (sm : Same Hs H) : ∀ {kds : List D} {ws : List V} {us : List Value}, (∀ k ∈ kds, kyD k = true) → RlL g Hs kds ws → Vals ws us → EachIs (fun u d => ∃ as, Reads s.heap u d as) us (kds.map toP)
  | [], ws, us, _, r, q => by
    rw [rll_nil.mp r] at q
    cases q
    exact .nil
  | k :: kds, ws, us, h, r, q => by
    obtain ⟨v, w, e, h1, h2⟩ := rll_cons.mp r
    rw [e] at q
    cases q with
    | cons q1 q2 => exact .cons ⟨[], rd_ky hK I sm k (h k (by simp)) h1 q1⟩ (each_rd hK I sm (fun z hz => h z (List.mem_cons_of_mem _ hz)) h2 q2)
theorem zip_sndP : ∀ {ds kds : List D}, kds.length = ds.length → (ds.zip kds).map (fun p => toP p.2) = kds.map toP
  | [], [], _ => rfl
  | [], _ :: _, h => by cases h
  | _ :: _, [], h => by cases h
  | d :: ds, k :: kds, h => by
    rw [List.zip_cons_cons, List.map_cons, List.map_cons, zip_sndP (by simpa using h)]
theorem sort_k (hK : X.K = g.K) {H Hs : Hp} {s : Shared} {ds kds : List D} {xs : List V} {l : Addr} {Q : VK} (F : FnOk X.prog X.w X.K X.mg X.base (CN X.prog X.w) lvl f fd ps (spD g.K g.cm g.cs m)) (hb : Binds X.K fd ps []) (hr : Room (lvl + 2) X.A)
    (I : Inv X pins σ H s) (sm : Same Hs H) (cu : CupAt g.pc Hs H c) (hl : H l = some (.lst xs)) (rr : RlL g Hs ds xs)
    (hlen : kds.length = ds.length) (hm : ∀ (i : Nat) (d kd : D), ds[i]? = some d → kds[i]? = some kd → m [d] c = .ok kd c) (hky : ∀ k ∈ kds, kyD k = true) (hal : AllAlike (kds.map toP)) (hsk : Sortable (kds.map toP)) (hdp : ∀ d ∈ kds.map toP, d.depth ≤ 8)
    (h : ∀ ys p Hs' H', Fn g.pc Hs H Hs' H' c → RlL g Hs' (srtP ds kds) ys → H' p = none → Q (.ref p) (upd H' p (.lst ys))) :
    wpAny (model X.prog X.w) X.A (call (.builtin "sorted") [.ref l] [(Str.ofString "key", .ref f)]) (EP X pins σ Q) X.xe s := by
  obtain ⟨its, rv, hil, hz0⟩ := I.list (a := l) (xs := xs) (.inl (.inl hl))
  have hz : its.length ≤ sizeLine := by rw [← rv.length]; exact hz0
  refine sorted_of_sort hil.isList hz (ksk_s1 _ _) (fun _ => ksk_l1 _ _) fun E' => ?_
  rw [ksk_t1]
  let a : Addr := s.heap.objs.size + 1
  have c0 : (copyHeap s.heap its).get? a = some (seqObj "list" its.toArray 0) := copyHeap_at s.heap its
  obtain ⟨e1, c1⟩ : ∃ e1, ((copyHeap s.heap its).update a (Obj.mapSeq fun _ => (#[] : Array Value))).get? a = some (seqObj "list" #[] e1) := ⟨_, get?_update_seq c0 fun _ => #[]⟩
  let h2 : Heap := ((copyHeap s.heap its).update a (Obj.mapSeq fun _ => (#[] : Array Value))).push (seqObj "tuple" its.toArray 0)
  let kS : Addr := h2.objs.size
  have old : ∀ b u, s.heap.get? b = some u → (h2.push (seqObj "list" #[] 0)).get? b = some u := fun b u e => by
    have lt := Heap.lt_size e
    exact sortingHeap_old (a := a) (vs := its) (fun z => absurd (z ▸ lt : a < s.heap.objs.size) (Nat.not_lt.mpr (Nat.le_succ _))) (copyHeap_old e)
  have ca : a < (copyHeap s.heap its).objs.size := Heap.lt_size c0
  have ek : kS = (copyHeap s.heap its).objs.size + 1 := by
    show h2.objs.size = _
    rw [size_push', Heap.size_update]
  have ne : kS ≠ a := by
    rw [ek]
    exact Nat.ne_of_gt (Nat.lt_succ_of_lt ca)
  have ka : a ≤ kS := by
    rw [ek]
    exact Nat.le_of_lt (Nat.lt_succ_of_lt ca)
  have I1 : Inv X pins σ H { s with heap := h2.push (seqObj "list" #[] 0), toks := s.toks } := I.kept old
  have na : NewA X pins a := new_a I (Nat.le_succ _)
  have nk : NewA X pins kS := new_a I (Nat.le_trans (Nat.le_succ _) ka)
  have fa : H a = none := I.hok.fresh (Nat.le_succ _)
  have fk : H kS = none := I.hok.fresh (Nat.le_trans (Nat.le_succ _) ka)
  have I2 := pin2_of (e1 := e1) (kA := #[]) (e := 0) I1 na nk (Heap.get?_push_of_some _ (Heap.get?_push_of_some _ c1)) (Heap.get?_push_size _ rfl) fa fk
  unfold ksk_tree
  refine wpAny_bind (listItems_at c0 rfl ?_)
  refine wpAny_bind (listUpdate_at c0 rfl ?_ (by rw [List.size_toArray]; exact hz) (Nat.zero_le _))
  refine wpAny_bind (seqEpoch_at c1 rfl ?_)
  refine wpAny_bind (wpAny_newTuple ?_ (by show its.length ≤ _; exact hz))
  refine wpAny_bind (wpAny_newList ?_ (Nat.zero_le _))
  refine wpAny_holding ?_
  refine keys_k (s := { s with heap := h2.push (seqObj "list" #[] 0), toks := s.toks }) F hb hr na nk ne I2 sm cu rr rv hz hlen hm fun s' H' Hs' kA e ws I' fn rk rl => ?_
  obtain ⟨J, ⟨k1, k2⟩, a1, a2⟩ := pin2_off I'
  obtain ⟨h1, d1, d2⟩ := drop_one s'.heap kS
  have each := each_rd hK I' fn.sm hky rl rk
  have es : kA.size = its.length := by
    have q1 := rk.length
    have q2 := rl.length
    have q3 := rr.length
    have q4 := rv.length
    have q5 : kA.toList.length = kA.size := Array.length_toList
    omega
  have un := hr.units
  refine keyH_end (κ := dataKind s'.heap (kds.map toP)) (h₁ := h1) (fun b o hb q => ?_) d1 k1 a1 ne (SortsAt.data each hal hsk fun d hd => ?_) es hz fun h' tk c2 kp n3 => ⟨rfl, ?_⟩
  · have hb2 : b ≠ kS := fun z => by rw [z, d1] at q; cases q
    rw [d2 b hb2] at q
    exact q
  · have := hdp d hd
    show X.A.units + 1 + 1 + d.depth < cLine
    omega
  · have I3 : Inv X pins σ H' { s' with heap := h', toks := tk } := turned2 J na nk a2 k2 a1 n3 (fun b v hb hb2 q => kp b v hb (by rw [d2 b hb2]; exact q)) ne
    have ko : KeyedOut false ((ds.zip kds).map fun p => toP p.2) its (sortVals (dataKind s'.heap (kds.map toP)) false kA.toList its) := by
      rw [zip_sndP hlen]
      exact ⟨s'.heap, kA.toList, hal, rfl, each⟩
    have eo := keyedOut_each (fun p : D × D => toP p.2) ko (each_of (g := g) (Hs := Hs') hlen (RlL.mono fn.ss _ _ rr) rv)
    obtain ⟨ys, y1, y2⟩ := each_vals eo
    have yl : ys.length ≤ sizeLine := by
      rw [y1.length, sortVals_length false (by rw [Array.length_toList]; exact es)]
      exact hz
    have I4 := adopt (o := .lst ys) I3 na a2 ⟨yl, _, c2, y1, n3⟩
    exact ⟨.ref a, upd H' a (.lst ys), I4, rfl, h ys a Hs' H' fn y2 a2⟩
/-! the rule -/
def keysD (m : Fd) (c : Cu) : List D → Option (List D)
  | [] => some []
  | d :: ds => match m [d] c with
    | .ok k c' => if c' = c then (keysD m c ds).map (k :: ·) else none
    | _ => none
theorem keysD_at {c : Cu} : ∀ {ds kds : List D}, keysD m c ds = some kds → kds.length = ds.length ∧ ∀ (i : Nat) (d kd : D), ds[i]? = some d → kds[i]? = some kd → m [d] c = .ok kd c
  | [], kds, h => by
    simp only [keysD, Option.some.injEq] at h
    subst h
    exact ⟨rfl, by simp⟩
  | d :: ds, kds, h => by
    unfold keysD at h
    split at h
    · rename_i k c' hk
      split at h
      · rename_i ec
        subst ec
        simp only [Option.map_eq_some_iff] at h
        obtain ⟨ks, h1, rfl⟩ := h
        obtain ⟨l1, l2⟩ := keysD_at h1
        refine ⟨by simp [l1], fun i x y hx hy => ?_⟩
        cases i with
        | zero =>
          simp at hx hy
          subst hx hy
          exact hk
        | succ i => exact l2 i x y (by simpa using hx) (by simpa using hy)
      · cases h
    · cases h
def isIntD : D → Bool
  | .int _ => true
  | _ => false
def isPrD : D → Bool
  | .tup [.int _, .tup ds] => ds.all isIntD
  | _ => false
/-- keys that may be sorted by: whole numbers, or pairs of a whole number and a tuple of such -/
def keysOk (kds : List D) : Bool := kds.all isIntD || kds.all isPrD
def srtKD (m : Fd) (me : PM D) : PM D := fun st c => (aD [me] st c).bind fun xs c => match xs with
  | [.lst ds] => match keysD m c ds with
    | some kds => if keysOk kds = true then .ok (.lst (srtP ds kds)) c else .no
    | none => .no
  | _ => .no
end
end
end L2.G
set_option Elab.async false
set_option linter.all false
set_option maxRecDepth 100000
set_option maxHeartbeats 2000000
namespace L2.G
open PySem PySem.Spec PyProof.Rows L2H PySem.W
theorem intD_of {d : D} (h : isIntD d = true) : ∃ i, d = .int i := by
  cases d <;> first | exact ⟨_, rfl⟩ | simp [isIntD] at h
theorem kyDs_ints : ∀ {ds : List D}, ds.all isIntD = true → kyDs ds = true
  | [], _ => rfl
  | d :: ds, h => by
    simp only [List.all_cons, Bool.and_eq_true] at h
    obtain ⟨i, rfl⟩ := intD_of h.1
    simp only [kyDs, kyD, Bool.true_and]
    exact kyDs_ints h.2
theorem prD_of {d : D} (h : isPrD d = true) : ∃ i ds, d = .tup [.int i, .tup ds] ∧ ds.all isIntD = true := by
  unfold isPrD at h
  split at h
  · exact ⟨_, _, rfl, h⟩
  · cases h
theorem alike_ints : ∀ {a b : List D}, a.all isIntD = true → b.all isIntD = true → alikeAll (toPs a) (toPs b) = true
  | [], _, _, _ => by simp [toPs, alikeAll]
  | _ :: _, [], _, _ => by simp [toPs, alikeAll]
  | x :: a, y :: b, h, h2 => by
    simp only [List.all_cons, Bool.and_eq_true] at h h2
    obtain ⟨i, rfl⟩ := intD_of h.1
    obtain ⟨j, rfl⟩ := intD_of h2.1
    have := alike_ints h.2 h2.2
    simp [toPs, toP, alikeAll, PySem.W.alike, this]
theorem dep_ints : ∀ {a : List D}, a.all isIntD = true → PyData.depthAll (toPs a) = 0
  | [], _ => by simp [toPs, PyData.depthAll]
  | x :: a, h => by
    simp only [List.all_cons, Bool.and_eq_true] at h
    obtain ⟨i, rfl⟩ := intD_of h.1
    have := dep_ints h.2
    simp [toPs, toP, PyData.depthAll, PyData.depth, this]
theorem keysOk_ok {kds : List D} (h : keysOk kds = true) : (∀ k ∈ kds, kyD k = true) ∧ AllAlike (kds.map toP) ∧ Sortable (kds.map toP) ∧ ∀ d ∈ kds.map toP, d.depth ≤ 8 := by
  unfold keysOk at h
  rw [Bool.or_eq_true, List.all_eq_true, List.all_eq_true] at h
  rcases h with h | h
  · have e : ∀ k ∈ kds, ∃ i, k = .int i := fun k hk => intD_of (h k hk)
    have e2 : ∀ d ∈ kds.map toP, ∃ i, d = .int i := fun d hd => by
      obtain ⟨k, hk, rfl⟩ := List.mem_map.mp hd
      obtain ⟨i, rfl⟩ := e k hk
      exact ⟨i, by simp [toP]⟩
    refine ⟨fun k hk => ?_, fun d hd d' hd' => ?_, .inr fun d hd => ?_, fun d hd => ?_⟩
    · obtain ⟨i, rfl⟩ := e k hk
      simp [kyD]
    · obtain ⟨i, rfl⟩ := e2 d hd
      obtain ⟨j, rfl⟩ := e2 d' hd'
      simp [PySem.W.alike]
    · obtain ⟨i, rfl⟩ := e2 d hd
      exact ⟨by simp, by simp⟩
    · obtain ⟨i, rfl⟩ := e2 d hd
      simp [PyData.depth]
  · have e : ∀ k ∈ kds, ∃ i ds, k = .tup [.int i, .tup ds] ∧ ds.all isIntD = true := fun k hk => prD_of (h k hk)
    have e2 : ∀ d ∈ kds.map toP, ∃ i ds, d = .tuple [.int i, .tuple (toPs ds)] ∧ ds.all isIntD = true := fun d hd => by
      obtain ⟨k, hk, rfl⟩ := List.mem_map.mp hd
      obtain ⟨i, ds, rfl, hh⟩ := e k hk
      exact ⟨i, ds, by simp [toP, toPs], hh⟩
    refine ⟨fun k hk => ?_, fun d hd d' hd' => ?_, .inl fun d hd => ?_, fun d hd => ?_⟩
    · obtain ⟨i, ds, rfl, hh⟩ := e k hk
      simp [kyD, kyDs, kyDs_ints hh]
    · obtain ⟨i, ds, rfl, hh⟩ := e2 d hd
      obtain ⟨j, ds', rfl, hh'⟩ := e2 d' hd'
      simp [PySem.W.alike, alikeAll, alike_ints hh hh']
    · obtain ⟨i, ds, rfl, hh⟩ := e2 d hd
      exact ⟨_, _, rfl⟩
    · obtain ⟨i, ds, rfl, hh⟩ := e2 d hd
      simp [PyData.depth, PyData.depthAll, dep_ints hh]
section
variable {X : Cx} {g : Ga} {E : XK} {hid : List Nat} {m : Fd} {k j : Nat} {x : Str} {e : Expr} {me : PM D} {p p2 pos kpos : Pos}
def rSK (g : Ga) (m : Fd) (f : Addr) : List V → List V → Hp → VK → Prop := fun vs zs H Q => ∃ (l : Addr) (xs : List V) (Hs : Hp) (c : Cu) (ds kds : List D), vs = [V.ref l] ∧ zs = [V.ref f] ∧ H l = some (.lst xs) ∧ Same Hs H ∧ CupAt g.pc Hs H c ∧ RlL g Hs ds xs ∧ keysD m c ds = some kds ∧ keysOk kds = true ∧
  ∀ ys p Hs' H', Fn g.pc Hs H Hs' H' c → RlL g Hs' (srtP ds kds) ys → H' p = none → Q (.ref p) (upd H' p (.lst ys))
/-- sorted(e, key=x), x a def of the program -/
theorem d_sortK (hc : CalN X.prog X.w X.K X.mg X.base k x (spD g.K g.cm g.cs m)) (hr : Room j X.A) (hk : k + 2 ≤ j) (hg : Gl X "sorted") (hm : X.mg "sorted" = none) (hgx : Gl X x) (ha : DA X g E hid [e] (aD [me])) (hK : X.K = g.K := by rfl)
    (hd : (x == ("__debug__" : Str)) = false := by decide) (hn : ("sorted" : Str) ≠ "__name__" := by decide) (hdb : (("sorted" : Str) == ("__debug__" : Str)) = false := by decide)
    (he : backTo pos (starEach [e] X.env) = (false, eval e X.env) :: backTo pos (starEach [] X.env) := by rfl) (hpl : (backTo pos (starEach [e] X.env)).any (·.1) = false := by rfl)
    (hall : (backToKw pos (keywordEach [⟨some "key", .Name x p2, kpos⟩] X.env)).all (·.1.isSome) = true := by rfl) (hnone : (backToKw pos (keywordEach [⟨some "key", .Name x p2, kpos⟩] X.env)).any (·.1.isNone) = false := by rfl) (hks : (backToKw pos (keywordEach [⟨some "key", .Name x p2, kpos⟩] X.env)).filterMap (·.1) = [Str.ofString "key"] := by rfl) :
    DE X g E hid (.Call (.Name "sorted" p) [e] [⟨some "key", .Name x p2, kpos⟩] pos) (srtKD m me) := by
  obtain ⟨f, fd, ps, F, hmf, kp, b⟩ := hc.ex
  have cr : CallRK X (.builtin "sorted") [Str.ofString "key"] (rSK g m f) := by
    intro pins s σ H vs zs us ws Q I r rz h
    obtain ⟨l, xs, Hs, c, ds, kds, rfl, rfl, hl, sm, cu, rr, kd, ok, q⟩ := h
    obtain rfl := Vals.ref1 r
    obtain rfl := Vals.ref1 rz
    obtain ⟨l1, l2⟩ := keysD_at kd
    obtain ⟨o1, o2, o3, o4⟩ := keysOk_ok ok
    exact sort_k hK F b (hr.mono hk) I sm cu hl rr l1 l2 o1 o2 o3 o4 q
  refine PE_imp (pe_callBK cr hg hm boot_sorted ha (pk_cons (pe_glob hgx hmf (v := .ref f) rfl hd) pk_nil) hn hdb he hpl hall hnone hks) fun σ H Q ⟨st, c, Hs, sl, sm, cu, q⟩ => ?_
  refine ⟨st, c, Hs, sl, sm, cu, (Post.bind q).mono fun es c1 Hs1 H1 _ F1 q1 vs rvs => ?_⟩
  split at q1
  · rename_i ds _
    obtain ⟨v, rfl, rv⟩ := one_of rvs
    cases hkd : keysD m c1 ds with
    | none => simp only [hkd] at q1; exact q1.elim
    | some kds =>
      simp only [hkd] at q1
      by_cases ok : keysOk kds = true
      · rw [if_pos ok] at q1
        obtain ⟨l, xs, rfl, hl, hz, rr⟩ := rl_lst.mp rv
        refine ⟨l, xs, Hs1, c1, ds, kds, rfl, rfl, F1.sm _ _ hl, F1.sm, F1.cu, rr, hkd, ok, fun ys p Hs' H' fn ry np => ?_⟩
        have F2 := Fn.new (o := .lst ys) fn.sm fn.cu np
        refine q1 _ _ (fn.trans F2) _ (rl_lst.mpr ⟨p, ys, rfl, upd_same, ?_, RlL.mono F2.ss _ _ ry⟩)
        have e2 : (srtP ds kds).length = ds.length := by
          unfold srtP
          rw [List.length_map, List.length_mergeSort, List.length_zip, (keysD_at hkd).1, Nat.min_self]
        rw [e2]
        exact hz
      · rw [if_neg ok] at q1
        exact q1.elim
  · exact q1.elim
end
end L2.G
set_option Elab.async false
set_option linter.all false
set_option maxRecDepth 100000
set_option maxHeartbeats 2000000
namespace L2.G
open PySem PySem.Spec PyProof.Rows L2H
/-! x.insert(k, e): x may be read in k -/
def rIns : V → List V → Hp → VK → Prop := fun x vs H Q => ∃ (l : Addr) (xs : List V) (i : Int) (y : V), x = .ref l ∧ vs = [.int i, y] ∧ H l = some (.lst xs) ∧ xs.length < sizeLine ∧ 0 ≤ i ∧ i < 2 ^ 63 ∧
    Q .non (upd H l (.lst (xs.take i.toNat ++ [y] ++ xs.drop i.toNat)))
theorem mt_insD {X : Cx} : MtR X "list.insert" rIns := mt_insert
def insS (i : Nat) (mk me : PM D) : PM Fl := fun st c => match st[i]? with
  | some (some (.lst ds)) => (mk st c).bind fun k c => match k with
    | .int n => (me st c).bind fun d c => if ds.length < sizeLine ∧ 0 ≤ n ∧ n < 2 ^ 63 then .ok (.nx (st.set i (some (.lst (ds.take n.toNat ++ [d] ++ ds.drop n.toNat))))) c else .no
    | _ => .no
  | _ => .no
section
variable {X : Cx} {g : Ga} {E : XK} {fx : List (Nat × V)} {Hs0 H0 : Hp} {ow ow0 ow1 : List Nat} {mk me : PM D} {s : Stmt} {i : Nat}
theorem s_ins (h : PS X s (tDrop (tBM X.K "list" rIns (tVar i) (tCons (tE g E ow0 mk) (tCons (tE g E ow1 me) tNil))))) (hi : i ∈ ow1 := by decide) (hw0 : ∀ k ∈ ow0, k ∈ ow := by decide) (hw : ∀ k ∈ ow1, k ∈ ow := by decide) : DS X g E fx Hs0 H0 ow ow1 s (insS i mk me) := by
  refine PS_imp h fun D σ H ⟨st, c, Hs, s, p⟩ => ?_
  obtain ⟨HsA, eA, sA⟩ := s.weak hw0
  unfold insS at p
  split at p
  · rename_i ds hd
    obtain ⟨a, vs, ea, e5, e6, e7⟩ := s.lst (hw i hi) hd
    refine ⟨.ref a, ea, .inl ⟨rfl, vs, .inl (.inl e5)⟩, sA.toE (ps_er sA p fun k c2 Hs2 H2 _ F q v r => ?_)⟩
    split at q
    · rename_i n _
      rw [rl_int.mp r]
      obtain ⟨Hs3, e3, s3⟩ := (s.back eA F).weak hw
      refine s3.toE (ps_er s3 q fun d c4 Hs4 H4 _ F4 q4 v4 r4 => ?_)
      have s4 := s3.on F4
      split at q4
      · rename_i hl
        obtain ⟨a', vs', ea', f5, f6, f7⟩ := s4.lst hi hd
        rw [ea] at ea'
        cases ea'
        have l1 := f7.length
        refine ⟨a, vs', n, v4, rfl, rfl, f5, by omega, hl.2.1, hl.2.2, q4 σ Hs4 _ (s4.chg hi hd ea ?_ (((f7.take n.toNat).append (rll_cons.mpr ⟨v4, [], rfl, r4, rll_nil.mpr rfl⟩)).append (f7.drop n.toNat)))⟩
        have := hl.1
        simp only [List.length_append, List.length_take, List.length_drop, List.length_singleton]
        omega
      · exact q4.elim
    · exact q.elim
  · exact p.elim
end
/-! x, y = [], e: x is one's own -/
def parO (i j : Nat) (mb : PM D) : PM Fl := fun st c => (mb st c).bind fun y c => .ok (.nx ((st.set i (some (.lst []))).set j (some y))) c
section
variable {X : Cx} {g : Ga} {E : XK} {fx : List (Nat × V)} {Hs0 H0 : Hp} {ow ow1 : List Nat} {mb : PM D} {s : Stmt} {i j : Nat}
theorem s_parO (h : PS X s (tPar i j (tCons (tEo g E ow1 (lstD [])) (tCons (tE g E ow1 mb) tNil)))) (hw : ∀ k ∈ ow1, k ∈ ow := by decide) (hi : i ∉ ow1 := by decide) (hj : j ∉ i :: ow1 := by decide) (hfx : ∀ v, (i, v) ∉ fx := by simp) : DS X g E fx Hs0 H0 ow (i :: ow1) s (parO i j mb) := by
  refine PS_imp h fun D σ H ⟨st, c, Hs, s, p⟩ => ?_
  obtain ⟨Hs1, e1, s1⟩ := s.weak hw
  have el : lstD [] st c = .ok (.lst []) c := rfl
  refine ⟨st, c, Hs1, s1.sl, s1.fn.sm, s1.fn.cu, ?_⟩
  rw [el]
  intro Hs2 H2 F1 pa h1 h2 h3 h4
  have s2 := s1.on F1
  refine s2.toE (ps_er s2 p fun y c2 Hs3 H3 _ F2 q v r => ?_)
  have ow' : H2 pa = some (.lst []) := by
    obtain ⟨ds, vs, e, q1, _, q3⟩ | z := h4
    · cases e
      rw [rll_nil.mp q3] at q1
      exact q1
    · obtain ⟨_, _, _, _, _, e, _⟩ := z
      cases e
  have nt : Nt (.lst []) := fun _ z => by cases z
  have o3 : H3 pa = some (.lst []) := F2.bt pa _ h3 nt ow'
  have n3 : Hs3 pa = none := F2.nw pa _ nt ow' h2
  exact ⟨.ref pa, v, rfl, q _ Hs3 H3 ((s1.take hi hfx (F1.trans F2) h1 n3 h3 (.inl ⟨[], [], rfl, o3, Nat.zero_le _, rll_nil.mpr rfl⟩)).asg (asg_nm (by rw [List.length_set, List.length_set]; exact s1.sl.1) r) (by simpa using hj))⟩
end
end L2.G
set_option Elab.async false
set_option linter.all false
set_option maxRecDepth 100000
set_option maxHeartbeats 2000000
namespace L2.G
open PySem PySem.Spec PyProof.Rows L2H
/-! list(range(n)) -/
def lrgD (m : PM D) : PM D := fun st c => (itR1 m st c).bind fun ds c => .ok (.lst ds) c
section
variable {X : Cx} {g : Ga} {E : XK} {hid : List Nat} {m : PM D} {e : Expr}
theorem do_listRg {p p2 pos pos2 : Pos} (he : DE X g E hid e m) (hc : X.calm = true) (hm : X.mg "list" = none) (hmr : X.mg "range" = none) (hg : Gl X "list" := by rfl) (hgr : Gl X "range" := by rfl) (na : starEach [e] X.env = (false, eval e X.env) :: starEach [] X.env := by rfl)
    (nb : starEach [.Call (.Name "range" p2) [e] [] pos2] X.env = (false, eval (.Call (.Name "range" p2) [e] [] pos2) X.env) :: starEach [] X.env := by rfl) : DEo X g E hid (.Call (.Name "list" p) [.Call (.Name "range" p2) [e] [] pos2] [] pos) (lrgD m) := by
  refine PE_imp (pe_listRg hc hg hm (prg_1 hgr hmr he na) nb) fun σ H Q ⟨st, c, Hs, sl, sm, cu, q⟩ => ⟨st, c, Hs, sl, sm, cu, ?_⟩
  unfold lrgD itR1 at q
  cases em : m st c with
  | no => rw [em] at q; exact q.elim
  | er x c' => rw [em] at q; exact q
  | ok d c' =>
    rw [em] at q
    simp only [R.ok_bind] at q
    intro Hs1 H1 F1 v rv
    cases d with
    | int j =>
      dsimp only at q
      split at q
      · rename_i h
        refine ⟨j, rl_int.mp rv, ⟨by omega, by omega, by omega, by omega, by omega⟩, fun n hn => ?_⟩
        have hv : (rgD 0 j.toNat).length ≤ sizeLine := by simp [rgD, sizeLine_eq]; omega
        have hr : RlL g Hs1 (rgD 0 j.toNat) (rgV 0 j) := by
          unfold rgD rgV
          rw [show j - 0 = j by omega]
          exact RlL.map _ _ fun x _ => rl_int.mpr rfl
        exact q Hs1 _ (F1.trans (Fn.hid F1.sm F1.cu hn)) n (fresh_of F1 hn).1 (F1.sm.free hn) (fresh_of F1 hn).2 (.inl ⟨_, _, rfl, upd_same, hv, hr⟩)
      · exact q.elim
    | _ => exact q.elim
end
end L2.G
set_option Elab.async false
set_option linter.all false
set_option maxRecDepth 100000
set_option maxHeartbeats 2000000
namespace L2.G
open PySem PySem.Spec PyProof.Rows L2H
/-! f(sip(cup(script, j), M)): f is told of a drawn number alone -/
theorem Fn.uncup3 {Hs1 H0 H2 Hs3 H3 Hs' H' : Hp} {p : Addr} {T : List (Addr × Str)} {c3 c' : Cu} (F3 : Fn ⟨none, T⟩ Hs1 H2 Hs3 H3 c3) (F : Fn ⟨some p, T⟩ Hs3 H3 Hs' H' c') (s0 : Same H0 H2) (n0 : H0 p = none) : Fn ⟨none, T⟩ Hs1 H0 Hs' H' none := by
  have cu : CupAt ⟨none, T⟩ Hs' H' none := ⟨trivial, F.cu.tb, F.cu.th, F.cu.nt⟩
  refine ⟨F3.ss.trans F.ss, fun b o ob t e => F.bt b o ⟨(fun z => by cases z; rw [n0] at e; cases e), ob.2⟩ t (F3.bt b o ob t (s0 b o e)), fun b o t e n => ?_, F.sm, cu⟩
  by_cases h : Off ⟨none, T⟩ b
  · exact F.nw b o t (F3.bt b o h t (s0 b o e)) (F3.nw b o t (s0 b o e) n)
  · exact cu.off h
/-- a scalar is told with any cup -/
theorem rl_pcS {K : PySem.W.Frag} {cm : Str → Addr} {cs : List Str} {p p' : Pc} {H : Hp} {d : D} {v : V} (hd : scD d = true) (h : Rl ⟨K, cm, cs, p⟩ H d v) : Rl ⟨K, cm, cs, p'⟩ H d v := by
  cases d with
  | non => exact rl_non.mpr (rl_non.mp h)
  | bl b => exact rl_bl.mpr (rl_bl.mp h)
  | int b => exact rl_int.mpr (rl_int.mp h)
  | str b => exact rl_str.mpr (rl_str.mp h)
  | _ => cases hd
open Classical in
noncomputable def cup2D (m mS : Fd) (mM : PM D) (ms : List (PM D)) : PM D := fun st c => (aD ms st c).bind fun ds c => match ds with
  | [.scr ns, .int j] => match mM st c with
    | .ok M c' => if (scD M = true ∧ ns.length ≤ 63 ∧ 0 ≤ j ∧ j ≤ 63) ∧ ∀ a b : Int, 0 ≤ a → a < 2147483629 → 0 ≤ b → ∃ i c', mS [.cup, M] (some (a, b)) = .ok (.int i) c' ∧ m [.int i] none = .ok (.bl true) none then .ok (.bl true) c' else .no
    | _ => .no
  | _ => .no
section
variable {X : Cx} {E : XK} {hid : List Nat} {K : PySem.W.Frag} {cm : Str → Addr} {cs : List Str} {T : List (Addr × Str)} {k kS k' j : Nat} {y z x : Str} {m mS : Fd} {mM : PM D} {ms : List (PM D)} {e1 e2 eM : Expr} {p pS p' pos posS pos' : Pos}
theorem d_cup2 (cc : CalG X.prog X.w X.K X.mg X.base k y (spCupX K)) (cS : CalG X.prog X.w X.K X.mg X.base kS z (spL K cm cs T mS)) (cr : CalG X.prog X.w X.K X.mg X.base k' x (spL K cm cs T m)) (qt : Quiet X.A) (hr : Room j X.A) (hk : k ≤ j) (hkS : kS ≤ j) (hk' : k' ≤ j) (hg : Gl X y) (hgS : Gl X z) (hg' : Gl X x)
    (ha : DA X ⟨K, cm, cs, ⟨none, T⟩⟩ E hid [e1, e2] (aD ms)) (hM : DE X ⟨K, cm, cs, ⟨none, T⟩⟩ E hid eM mM)
    (hdb : (y == ("__debug__" : Str)) = false := by decide) (hdbS : (z == ("__debug__" : Str)) = false := by decide) (hdb' : (x == ("__debug__" : Str)) = false := by decide) (he : starEach [e1, e2] X.env = (false, eval e1 X.env) :: starEach [e2] X.env := by rfl) (hpl : (backTo pos' (starEach [e2] X.env)).any (·.1) = false := by rfl)
    (heS : starEach [.Call (.Name y p') [e1, e2] [] pos', eM] X.env = (false, eval (.Call (.Name y p') [e1, e2] [] pos') X.env) :: starEach [eM] X.env := by rfl) (heM : starEach [eM] X.env = (false, eval eM X.env) :: starEach [] X.env := by rfl) (hplS : (backTo posS (starEach [eM] X.env)).any (·.1) = false := by rfl)
    (he' : starEach [.Call (.Name z pS) [.Call (.Name y p') [e1, e2] [] pos', eM] [] posS] X.env = (false, eval (.Call (.Name z pS) [.Call (.Name y p') [e1, e2] [] pos', eM] [] posS) X.env) :: starEach [] X.env := by rfl) (hpl' : (backTo pos (starEach [] X.env)).any (·.1) = false := by rfl) :
    DE X ⟨K, cm, cs, ⟨none, T⟩⟩ E hid (.Call (.Name x p) [.Call (.Name z pS) [.Call (.Name y p') [e1, e2] [] pos', eM] [] posS] [] pos) (cup2D m mS mM ms) := by
  refine PE_imp (pe_cG cr qt hr hk' hg' (pa_cons (pe_cG cS qt hr hkS hgS (pa_cons (pe_cG cc qt hr hk hg ha hdb he hpl) (pa_cons hM pa_nil heM) heS) hdbS heS hplS) pa_nil he') hdb' he' hpl') fun σ H Q ⟨st, c, Hs, sl, sm, cu, q⟩ => ⟨st, c, Hs, sl, sm, cu, (Post.bind q).mono fun ds c1 Hs1 H1 _ F1 q vs rs => ?_⟩
  split at q
  · rename_i ns i _
    obtain ⟨v, r', rfl, r1, rs⟩ := rll_cons.mp rs
    obtain ⟨u, r'', rfl, r2, rs⟩ := rll_cons.mp rs
    cases rll_nil.mp rs
    cases rl_int.mp r2
    obtain ⟨a, rfl, ea⟩ := rl_scr.mp r1
    have e0 : c1 = none := F1.cu.none_c rfl
    subst e0
    cases eM0 : mM st none with
    | no => simp only [eM0] at q; exact q.elim
    | er xx cc => simp only [eM0] at q; exact q.elim
    | ok M cM =>
      simp only [eM0] at q
      split at q
      · rename_i h
        obtain ⟨⟨h0, h1, h3, h4⟩, hm⟩ := h
        have ei : i = ((i.toNat : Nat) : Int) := by omega
        show spCupX K ([V.ref a, .int i] ++ []) H1 _ E0
        refine ⟨a, ns, i.toNat, by rw [← ei]; rfl, ?_, by omega, by omega, fun z b1 b2 H2 nz s12 ez b3 b4 b5 => ?_⟩
        · exact Evl.ex_l F1.sm ea
        · obtain ⟨n, c', es, em⟩ := hm b1 b2 b3 b4 b5
          have cu12 : CupAt ⟨none, T⟩ Hs1 H2 none := ⟨trivial, F1.cu.tb.ext s12, F1.cu.th, F1.cu.nt⟩
          refine ⟨st, none, Hs1, sl.mono F1.ss, F1.sm.trans s12, cu12, ?_⟩
          rw [eM0]
          intro Hs3 H3 F3 vM rM
          have nt : Nt (.lst [V.int b1, V.int b2]) := fun _ z => by cases z
          have off : Off ⟨none, T⟩ z := by
            refine ⟨fun w => (by cases w), fun t ht w => ?_⟩
            obtain ⟨ps, e1, _⟩ := F1.cu.tb t ht
            rw [w, nz] at e1
            cases e1
          have z3 : H3 z = some (.lst [V.int b1, V.int b2]) := F3.bt z _ off nt ez
          have n3 : Hs3 z = none := F3.nw z _ nt ez (F1.sm.free nz)
          have cM0 : cM = none := F3.cu.none_c rfl
          show spL K cm cs T mS [.ref z, vM] H3 _ E0
          refine ⟨some z, Hs3, [.cup, M], some (b1, b2), F3.sm, ⟨⟨n3, z3⟩, F3.cu.tb, F3.cu.th, F3.cu.nt⟩, rll_cons.mpr ⟨_, _, rfl, rl_cup.mpr ⟨z, rfl, rfl⟩, rll_cons.mpr ⟨_, _, rfl, (rl_pcS h0 rM), rll_nil.mpr rfl⟩⟩, ?_⟩
          rw [es]
          intro Hs' H' F v rv
          have F4 := Fn.uncup3 F3 F s12 nz
          show spL K cm cs T m [v] H' Q E0
          refine ⟨none, Hs', [.int n], none, F4.sm, F4.cu, rll_cons.mpr ⟨_, _, rfl, rl_int.mpr (rl_int.mp rv), rll_nil.mpr rfl⟩, ?_⟩
          rw [em]
          intro Hs5 H5 F5 v5 rv5
          cases rl_bl.mp rv5
          subst cM0
          exact q Hs5 H5 (F4.trans F5) _ (rl_bl.mpr rfl)
      · exact q.elim
  · exact q.elim
end
end L2.G
set_option Elab.async false
set_option linter.all false
set_option maxRecDepth 100000
set_option maxHeartbeats 2000000
namespace L2.G
open PySem PySem.Spec PyProof.Rows L2H
/-! draws below a great bound -/
def sipWD : Fd := fun ds c => match ds with
  | [.cup, .int n] => match c with
    | some (a, b) => if 0 ≤ a ∧ a < 2147483629 ∧ 0 ≤ b ∧ 0 < n ∧ n < 1180591620717411303424 then .ok (.int (sipF a b n).1) (some (sipF a b n).2) else .no
    | none => .no
  | _ => .no
def spSipW : Sp := fun vs H Q _ => ∃ (p : Addr) (n a b : Int), vs = [.ref p, .int n] ∧ H p = some (.lst [.int a, .int b]) ∧ 0 ≤ a ∧ a < 2147483629 ∧ 0 ≤ b ∧ 0 < n ∧ n < 1180591620717411303424 ∧
  ∀ H' : Hp, H' p = some (.lst [.int (sipF a b n).2.1, .int (sipF a b n).2.2]) → (∀ c o, c ≠ p → H c = some o → H' c = some o) → Q (.int (sipF a b n).1) H'
theorem sip_spW {K : PySem.W.Frag} {cm : Str → Addr} {cs : List Str} : ∀ vs H Q E, spD K cm cs sipWD vs H Q E → spSipW vs H Q E := by
  rintro vs H Q E ⟨pc, Hs, ds, c, sm, cu, r, p⟩
  unfold sipWD at p
  split at p
  · rename_i n
    split at p
    · rename_i a b
      split at p
      · rename_i h
        obtain ⟨v, r', rfl, r1, r⟩ := rll_cons.mp r
        obtain ⟨u, r'', rfl, r2, r⟩ := rll_cons.mp r
        cases rll_nil.mp r
        obtain ⟨q, e, rfl⟩ := rl_cup.mp r1
        cases rl_int.mp r2
        have e' : pc.cup = some q := e
        obtain ⟨a', b', ec, hq⟩ := cu.on e'
        cases ec
        have nq : ¬ Off pc q := fun z => z.1 e'.symm
        refine ⟨q, n, a, b, rfl, hq, h.1, h.2.1, h.2.2.1, h.2.2.2.1, h.2.2.2.2, fun H' e1 e2 => ?_⟩
        refine p Hs H' ⟨Same.refl _, fun b o nb _ e => e2 b o (fun z => nq (z ▸ nb)) e, fun b o _ _ e => e, fun b o e => e2 b o (fun z => ?_) (sm b o e), ⟨?_, ?_, cu.th, cu.nt⟩⟩ _ (rl_int.mpr rfl)
        · rw [z, cu.off nq] at e
          cases e
        · show CupC pc.cup Hs H' _
          rw [e']
          exact ⟨cu.off nq, e1⟩
        · intro t ht
          obtain ⟨ps, h1, h2, h3⟩ := cu.tb t ht
          have keep : ∀ b o, H b = some o → (∀ xs, o ≠ .lst xs) → H' b = some o := fun b o e n => e2 b o (fun z => by rw [z, hq] at e; exact n _ (Option.some.inj e).symm) e
          refine ⟨ps, keep _ _ h1 (fun _ z => by cases z), h2, fun pos cv hc => ?_⟩
          obtain ⟨d, e3, e4⟩ := h3 pos cv hc
          exact ⟨d, e3, keep _ _ e4 (fun _ z => by cases z)⟩
      · exact p.elim
    · exact p.elim
  · exact p.elim
/-- divmod of two ints, the divisor below 2 ^ 70 -/
def cDivmodW : List V → Hp → VK → Prop := fun xs H Q => match xs with
  | [.int i, .int j] => (0 < j ∧ j < 1180591620717411303424) ∧ ∀ p, H p = none → Q (.ref p) (upd H p (.tup [.int (i / j), .int (i % j)]))
  | _ => False
theorem divmod_cW {X : Cx} : CallR X (.builtin "divmod") cDivmodW := by
  refine CallR_imp call_divmodW fun xs H Q q => ?_
  match xs, q with
  | [.int i, .int j], q =>
    refine ⟨i, j, rfl, ⟨q.1.1, PyProof.noPylong_of_log2 ?_⟩, q.2⟩
    have h1 := q.1.1
    have h2 := q.1.2
    have e : (2 : Nat) ^ 70 = 1180591620717411303424 := by decide
    have := PySem.Flt.log2_lt_of (n := j.natAbs) (k := 70) (by decide) (by rw [e]; omega)
    omega
end L2.G
set_option Elab.async false
set_option linter.all false
set_option maxRecDepth 100000
set_option maxHeartbeats 2000000
namespace L2.G
open PySem PySem.Spec PyProof.Rows L2H
/-! try .. except (A, B), every exception of the body among them, no name -/
def wOn2 (K : PySem.W.Frag) (cs : List Value) (ts : Addr → Value → Option Addr → TS) (D : Ends) : WX := fun cls d σ H =>
  PySem.W.exmAny K cls cs = some true ∧ ∀ a, H a = none → ts a cls d D σ H
section
variable {X : Cx} {x1 x2 : Str} {C1 C2 : Addr} {kk : Nat} {body suite : List Stmt} {b₀ : Stmt} {p1 p2 tp pos pos' : Pos} {tb : WX → TS} {ts : Addr → Value → Option Addr → TS}
theorem ps_try_tup2 (hs : X.stack = X.env :: X.outer) (hf : X.env.frame = some X.env.locals)
    (g1 : Gl X x1) (m1 : X.mg x1 = some (.ref C1)) (g2 : Gl X x2) (m2 : X.mg x2 = some (.ref C2))
    (hb : ∀ (W : WX) (pn : List (Addr × Obj)) (xe : Value → Shared → Prop), L2N.Takes (X.tr pn xe) W → PSs (X.tr pn xe) body (tb W))
    (hsu : ∀ (a : Addr) (oe : Obj) (cls : Value) (d : Option Addr) (pn : List (Addr × Obj)), L2N.Zn cls d oe → (∃ vs, oe.data = .fields vs) → PSs (X.suite a ((a, oe) :: pn)) (b₀ :: suite) (ts a cls d))
    (d1 : (x1 == ("__debug__" : Str)) = false := by decide) (d2 : (x2 == ("__debug__" : Str)) = false := by decide) :
    PS X (.Try body [.ExceptHandler (some (.Tuple [.Name x1 p1, .Name x2 p2] kk tp)) none (b₀ :: suite) pos'] [] [] pos)
      (fun D σ H => tb (wOn2 X.K [.ref C1, .ref C2] ts D) D σ H) := by
  constructor
  intro pins s σ H D I h
  have ok := I.ok
  have fr : X.A.frames = some (X.env :: X.outer) := ok.frames.trans (by rw [hs])
  refine wpAny_Try_except ?_
  refine wpAny_mono ((hb (wOn2 X.K [.ref C1, .ref C2] ts D) (X.pn ++ pins) _ ?_).run [] s σ H D (I.toTry _) h) ?_ (fun _ _ z => z)
  · -- caught
    rintro u s1 ⟨a, B, sI, pins1, σ1, H1, cls, d, rfl, J0, nb, up, sky, na, os, ag, yes, go⟩
    have J : Inv X pins σ1 H1 sI := J0.ofTry ok
    rw [show (X.tr (X.pn ++ pins) _).stack = X.env :: X.outer from hs] at sky
    refine L2N.Sky.land L2N.Zn.steady fr hf sky fun h2 fl up2 => ?_
    have J2 : Inv X pins σ1 H1 { s1 with heap := h2 } := J.landed nb fl.1 (up.trans up2) os ag
    obtain ⟨oe, vs, he, hz, hd⟩ := fl.there
    have off : a ∉ frs (X.env :: X.outer) := fun z => by
      obtain ⟨_, o, eo, no⟩ := fl.2.2.1.mem z
      rw [he] at eo
      cases eo
      exact no _ hd
    have nL : a ≠ X.env.locals := fun z => off (List.mem_filterMap.mpr ⟨X.env, .head _, by rw [hf, z]⟩)
    have nF : a ∉ X.fs := fun z => by
      obtain ⟨e, me, q⟩ := List.mem_filterMap.mp z
      exact off (List.mem_filterMap.mpr ⟨e, .tail _ me, q⟩)
    have S2 := J2.suite he hd na nL nF
    refine wpAny_handleBy_cons (codeAny_handlers_test ?_) (by intro q; cases q)
    refine wpAny_Tuple (wpAny_items_cons (ld_glob (X := X.suite a ((a, oe) :: (X.pn ++ pins))) S2 g1 m1 ?_ d1))
    refine wpAny_items_cons (ld_glob (X := X.suite a ((a, oe) :: (X.pn ++ pins))) S2 g2 m2 ?_ d2)
    refine wpAny_items_nil ⟨by size_fits, ?_⟩
    have kp : ∀ b o, h2.get? b = some o → (h2.push { cls := .type "tuple", data := .seq [Value.ref C1, .ref C2].toArray }).get? b = some o := fun b o z => Heap.get?_push_of_some _ z
    have ty : PySem.W.Looks (model X.prog X.w) h2 (typeOf (.ref a)) cls := fun A Q E s k q => wpAny_typeOf_ref (k _ _ he) (by rw [hz.1]; exact q)
    refine (PySem.W.exm_tup2 (M := model X.prog X.w) (J2.kIn.keeps kp) (ty.keeps kp) (Heap.get?_push_size h2 rfl) yes).here ?_
    refine codeAny_handlers_suite (HandSPX.lands_againZ (s := { s1 with heap := h2.push { cls := .type "tuple", data := .seq [Value.ref C1, .ref C2].toArray } }) (fly_up fl kp) fun h3 fl3 up3 => ?_)
    have J3 : Inv X pins σ1 H1 { s1 with heap := h3 } := J.landed nb fl3.1 (((up.trans up2).trans (Heap.UpToSlots.of_keeps kp)).trans up3) os ag
    obtain ⟨o3, v3, he3, hz3, hd3⟩ := fl3.there
    have S4 := J3.suite he3 hd3 na nL nF
    refine wpAny_mono ((hsu a o3 cls d (X.pn ++ pins) hz3 ⟨_, hd3⟩).run [] _ _ H1 _ S4 (go a na)) ?_ (fun _ _ z => z.elim)
    intro f s6 hsp
    cases f with
    | next =>
      obtain ⟨σ6, H6, S6, q6⟩ := hsp
      exact ⟨_, _, S6.unsuite ok, q6⟩
    | brk =>
      obtain ⟨σ6, H6, S6, q6⟩ := hsp
      exact ⟨_, _, S6.unsuite ok, q6⟩
    | cont =>
      obtain ⟨σ6, H6, S6, q6⟩ := hsp
      exact ⟨_, _, S6.unsuite ok, q6⟩
    | ret u =>
      obtain ⟨v6, σ6, H6, S6, r6, q6⟩ := hsp
      exact ⟨_, _, _, S6.unsuite ok, r6, q6⟩
  · intro f s1 q
    cases f with
    | ret u =>
      obtain ⟨v, σ1, H1, J, r, w⟩ := q
      exact ⟨v, σ1, H1, J.ofTry ok, r, w⟩
    | next =>
      obtain ⟨σ1, H1, J, w⟩ := q
      exact wpAny_execs_nil ⟨σ1, H1, J.ofTry ok, w⟩
    | brk =>
      obtain ⟨σ1, H1, J, w⟩ := q
      exact ⟨σ1, H1, J.ofTry ok, w⟩
    | cont =>
      obtain ⟨σ1, H1, J, w⟩ := q
      exact ⟨σ1, H1, J.ofTry ok, w⟩
end
/-! over data: what the body raises is caught, and None given -/
def tryN (yes : Xc → Bool) (f : PM Fl) : PM Fl := fun st c => match f st c with
  | .er x c' => if yes x = true then .ok (.rt .non) c' else .no
  | r => r
theorem s_tryN {X : Cx} {g : Ga} {E : XK} {fx : List (Nat × V)} {Hs0 H0 : Hp} {ow ow' : List Nat} {f : PM Fl} {yes : Xc → Bool} {x1 x2 : Str} {C1 C2 : Addr} {kk j : Nat} {body : List Stmt} {p1 p2 tp pos pos' pr pn : Pos}
    (hyes : ∀ x, yes x = true → PySem.W.exmAny X.K (.ref (g.cm x.cls)) [.ref C1, .ref C2] = some true)
    (m1 : X.mg x1 = some (.ref C1)) (m2 : X.mg x2 = some (.ref C2))
    (hb : ∀ (pn : List (Addr × Obj)) (xe : Value → Shared → Prop) (E : XK), Passes (CN X.prog X.w) (X.tr pn xe) E → DB (X.tr pn xe) g E fx Hs0 H0 ow ow' body f)
    (hs : X.stack = X.env :: X.outer := by rfl) (hf : X.env.frame = some X.env.locals := by rfl) (g1 : Gl X x1 := by rfl) (g2 : Gl X x2 := by rfl)
    (d1 : (x1 == ("__debug__" : Str)) = false := by decide) (d2 : (x2 == ("__debug__" : Str)) = false := by decide) :
    DS X g E fx Hs0 H0 ow ow' (.Try body [.ExceptHandler (some (.Tuple [.Name x1 p1, .Name x2 p2] kk tp)) none [.Return (some (.Constant .none j pn)) pr] pos'] [] [] pos) (tryN yes f) := by
  refine PS_imp (ps_try_tup2 (tb := fun W D σ H => tS g (fun cls d H' => ∀ σ', W cls d σ' H') fx Hs0 H0 ow ow' f D σ H) (ts := fun _ _ _ D _ H => D.rt .non H) hs hf g1 m1 g2 m2
    (fun W pn xe tk => ?_) (fun a oe cls d pn _ _ => pss_one (ps_ret pe_non)) d1 d2) fun D σ H ⟨st, c, Hs, s, p⟩ => ⟨st, c, Hs, s, ?_⟩
  · have px : Passes (CN X.prog X.w) (X.tr pn xe) (fun cls d H' => ∀ σ', W cls d σ' H') := L2N.passes_call tk fun cls d σ H h => h σ
    exact ⟨fun pins s σ H D I h => (hb pn xe _ px).run pins s σ H D I h⟩
  · unfold tryN at p
    cases e : f st c with
    | no => rw [e] at p; exact p.elim
    | er x c' =>
      rw [e] at p
      cases hy : yes x with
      | false => simp only [hy] at p; exact p.elim
      | true =>
        simp only [hy, if_true] at p
        intro cls dx Hs' H' F xr σ'
        obtain ⟨rfl, _⟩ := xr
        exact ⟨hyes x hy, fun a _ => p .non Hs' H' F (rl_non.mpr rfl)⟩
    | ok fl c' =>
      rw [e] at p
      cases fl with
      | nx st' => exact p
      | rt d => exact p
end L2.G
set_option Elab.async false
set_option linter.all false
set_option maxRecDepth 100000
set_option maxHeartbeats 2000000
namespace L2.G
open PySem PySem.Spec PyProof.Rows L2H
/-! xs + ys, a new list -/
section
variable {X : Cx} {g : Ga} {E : XK} {hid : List Nat} {ma mb : PM D} {a b : Expr} {pos : Pos}
def catF : D → D → Option D
  | .lst a, .lst b => if a.length + b.length ≤ sizeLine then some (.lst (a ++ b)) else none
  | _, _ => none
theorem do_cat (ha : DE X g E hid a ma) (hb : DE X g E hid b mb) : DEo X g E hid (.BinOp a .Add b pos) (opD catF ma mb) := by
  refine PE_imp (pe_op op_cat ha hb) fun σ H Q ⟨st, c, Hs, sl, sm, cu, p⟩ => ⟨st, c, Hs, sl, sm, cu, (Post.bind p).mono fun x c1 Hs1 H1 _ F1 q v1 r1 => ?_⟩
  refine ⟨st, c1, Hs1, sl.mono F1.ss, F1.sm, F1.cu, (Post.bind q).mono fun y c2 Hs2 H2 _ F2 q2 v2 r2 => ?_⟩
  have F3 := F1.trans F2
  cases x with
  | lst ds =>
    cases y with
    | lst es =>
      unfold catF at q2
      dsimp only at q2
      split at q2
      · rename_i h
        obtain ⟨p, vs, rfl, hp, h0, r⟩ := rl_lst.mp (Rl.mono F2.ss _ _ r1)
        obtain ⟨p2, ws, rfl, hp2, h2, r2⟩ := rl_lst.mp r2
        have l1 := r.length
        have l2 := r2.length
        refine ⟨p, p2, vs, ws, rfl, rfl, F2.sm _ _ hp, F2.sm _ _ hp2, by omega, fun n hn => ?_⟩
        exact q2 Hs2 _ (Fn.hid F2.sm F2.cu hn) n (fresh_of F3 hn).1 (F2.sm.free hn) (fresh_of F3 hn).2 (.inl ⟨_, _, rfl, upd_same, by rw [List.length_append]; omega, r.append r2⟩)
      · exact q2.elim
    | _ => exact q2.elim
  | _ => cases y <;> exact q2.elim
theorem catF_l : ∀ {x y d : D}, catF x y = some d → ∃ ds, d = .lst ds := by
  intro x y d h
  unfold catF at h
  split at h
  · split at h
    · cases h
      exact ⟨_, rfl⟩
    · cases h
  · cases h
end
end L2.G
set_option Elab.async false
set_option linter.all false
set_option maxRecDepth 100000
set_option maxHeartbeats 2000000
namespace L2.G
open PySem PySem.Spec PyProof.Rows L2H
/-! a tuple many times -/
def mulTF : D → D → Option D
  | .tup a, .int k => if a ≠ [] ∧ 2 ≤ k ∧ k ≤ 1000 ∧ a.length ≤ 1000 ∧ a.length * k.toNat ≤ sizeLine then some (.tup (List.replicate k.toNat a).flatten) else none
  | _, _ => none
section
variable {X : Cx} {g : Ga}
theorem o_mulT (hK : X.K = g.K := by rfl) : OpD X g (binaryOp .Mult) mulTF := by
  refine ⟨_, op_repT, ?_⟩
  rw [hK]
  intro Hs H c x y v u d Q sm cu rx ry e q
  cases x with
  | tup a =>
    cases y <;> simp only [mulTF, Option.ite_none_right_eq_some, Option.some.injEq, reduceCtorEq] at e
    obtain ⟨⟨h0, h1, h2, h3, h4⟩, rfl⟩ := e
    obtain ⟨p, vs, rfl, hp, h5, r1⟩ := rl_tup.mp rx
    have l1 := r1.length
    refine ⟨p, _, vs, rfl, rl_int.mp ry, seqT_mono sm hp, ?_, h1, h2, by omega, fun n hn => ?_⟩
    · intro z
      subst z
      exact h0 (List.eq_nil_of_length_eq_zero (by simpa using l1.symm))
    · exact q (upd Hs n _) _ _ (Fn.new sm cu hn) (rl_tup.mpr ⟨n, _, rfl, .inl (.inl upd_same), by rw [len_rep]; exact h4, RlL.mono (same_new (sm.free hn)) _ _ (flat_rep r1 _)⟩)
  | _ => simp [mulTF] at e
end
end L2.G
set_option Elab.async false
set_option linter.all false
set_option maxRecDepth 100000
set_option maxHeartbeats 2000000
namespace L2.G
open PySem PySem.Spec PyProof.Rows L2H
/-! a, b, .. = a list -/
def asgTl (ts : List Tg) (d : D) (st : PSt) : Option PSt := match d with
  | .lst ds => asgTs ts ds st
  | _ => none
def asgSL (ts : List Tg) (m : PM D) : PM Fl := fun st c => (m st c).bind fun d c => (ofO (asgTl ts d st) c).bind fun st' c => .ok (.nx st') c
theorem asg_ofL {g : Ga} {Hs H : Hp} (sm : Same Hs H) (ts : List Tg) (d : D) (v : V) (st st' : PSt) (σ : St) (Q : St → Hp → Prop) (hl : σ.length = st.length) (r : Rl g Hs d v) (e : asgTl ts d st = some st')
    (q : ∀ σ', Asg g Hs (tgSs ts) st σ st' σ' → Q σ' H) : gLst g.K ts.length (gsOf g.K ts) v σ H Q := by
  unfold asgTl at e
  split at e
  · rename_i ds
    obtain ⟨a, vs, rfl, hs, _, hr⟩ := rl_lst.mp r
    exact ⟨a, vs, rfl, .inl (.inl (sm _ _ hs)), by rw [hr.length]; exact asgTs_len ts ds st st' e, asgs_of sm ts ds vs st st' σ Q hl hr e q⟩
  · cases e
section
variable {X : Cx} {g : Ga} {E : XK} {fx : List (Nat × V)} {Hs0 H0 : Hp} {ow ow1 : List Nat} {m : PM D} {s : Stmt}
theorem s_asgL {ts : List Tg} (h : PS X s (tAsg (tE g E ow1 m) (gLst g.K ts.length (gsOf g.K ts)))) (hw : ∀ k ∈ ow1, k ∈ ow := by decide) (hi : ∀ k ∈ tgSs ts, k ∉ ow1 := by decide) : DS X g E fx Hs0 H0 ow ow1 s (asgSL ts m) := by
  refine PS_imp h fun D σ H ⟨st, c, Hs, s, p⟩ => ?_
  obtain ⟨Hs1, e1, s1⟩ := s.weak hw
  refine s1.toE (ps_er s1 p fun d c2 Hs2 H2 _ F q v r => ?_)
  cases ea : asgTl ts d st with
  | none => rw [ea] at q; exact q.elim
  | some st' =>
    rw [ea] at q
    exact asg_ofL F.sm ts d v st st' σ _ s1.sl.1 r ea fun σ' a => q σ' Hs2 H2 ((s1.on F).asg a hi)
end
end L2.G
set_option Elab.async false
set_option linter.all false
set_option maxRecDepth 100000
set_option maxHeartbeats 2000000
namespace L2.G
open PySem PySem.Spec PyProof.Rows L2H
/-! repr of a tuple that holds empty dicts, and no lists -/
mutual
inductive Dz (K : PySem.W.Frag) (H : Hp) : V → PyData → Prop
  | non : Dz K H .non .none
  | bl (b : Bool) : Dz K H (.bl b) (.bool b)
  | int (i : Int) : Dz K H (.int i) (.int i)
  | str (x : Str) : Dz K H (.str x) (.str x)
  | tup {a : Addr} {xs : List V} {ds : List PyData} : SqT K H a xs → DzAll K H xs ds → Dz K H (.ref a) (.tuple ds)
  | dic {a : Addr} : H a = some (.dK []) → Dz K H (.ref a) (.dict [])
inductive DzAll (K : PySem.W.Frag) (H : Hp) : List V → List PyData → Prop
  | nil : DzAll K H [] []
  | cons {v : V} {vs : List V} {d : PyData} {ds : List PyData} : Dz K H v d → DzAll K H vs ds → DzAll K H (v :: vs) (d :: ds)
end
mutual
theorem dz_same {K : PySem.W.Frag} {H H' : Hp} (e : Same H H') : ∀ (d : PyData) (v : V), Dz K H v d → Dz K H' v d
  | .none, _, h => by cases h; exact .non
  | .bool b, _, h => by cases h; exact .bl b
  | .int i, _, h => by cases h; exact .int i
  | .str x, _, h => by cases h; exact .str x
  | .list _, _, h => by cases h
  | .tuple ds, _, h => by
    cases h with
    | tup hs ha => exact .tup (seqT_mono e hs) (dz_sameAll e ds _ ha)
  | .dict _, _, h => by
    cases h with
    | dic ha => exact .dic (e _ _ ha)
theorem dz_sameAll {K : PySem.W.Frag} {H H' : Hp} (e : Same H H') : ∀ (ds : List PyData) (vs : List V), DzAll K H vs ds → DzAll K H' vs ds
  | [], _, h => by cases h; exact .nil
  | d :: ds, _, h => by
    cases h with
    | cons h1 h2 => exact .cons (dz_same e d _ h1) (dz_sameAll e ds _ h2)
end
section
variable {X : Cx} {pins : List (Addr × Obj)} {σ : St} {H : Hp} {s : Shared}
mutual
theorem Dz.reads (I : Inv X pins σ H s) : ∀ (d : PyData) (v : V) (u : Value), Dz X.K H v d → RelV v u → ∃ as, Reads s.heap u d as ∧ sysModules ∉ as
  | .none, _, _, h, r => by
    cases h
    cases r
    exact ⟨_, Reads.none, by simp⟩
  | .bool b, _, _, h, r => by
    cases h
    cases r
    exact ⟨_, Reads.bool b, by simp⟩
  | .int i, _, _, h, r => by
    cases h
    obtain ⟨t, rfl⟩ := r
    exact ⟨_, Reads.int i t, by simp⟩
  | .str x, _, _, h, r => by
    cases h
    obtain ⟨t, rfl⟩ := r
    exact ⟨_, Reads.str x t, by simp⟩
  | .list _, _, _, h, _ => by cases h
  | .tuple ds, _, _, h, r => by
    cases h with
    | tup hs ha =>
      cases r
      obtain ⟨its, rv, ⟨o, ho, hc, n, hd⟩, _⟩ := I.tuple hs
      obtain ⟨as, hr, hn⟩ := Dz.readsAll I ds _ its ha rv
      exact ⟨_, Reads.tuple ho hc hd hr, hn⟩
  | .dict kvs, _, _, h, r => by
    cases h with
    | @dic a hd =>
      cases r
      obtain ⟨_, ns, vs, kv, o, es, ep, e1, e2, e3, _, e4, _⟩ := (show ObjOk X.prog X.w H s.heap a (.dK []) from I.hok a _ hd)
      cases kv
      have z : es.toList = [] := by
        generalize es.toList = l at e4
        cases e4
        rfl
      refine ⟨a :: [] ++ [], Reads.dict (kvs := []) e1 e2.1 e3 (by rw [z]; exact ReadsAll.nil) (by rw [z]; exact ReadsAll.nil), fun y => ?_⟩
      have y2 : sysModules = a := by simpa using y
      rw [y2] at ns
      simp at ns
theorem Dz.readsAll (I : Inv X pins σ H s) : ∀ (ds : List PyData) (vs : List V) (us : List Value), DzAll X.K H vs ds → Vals vs us → ∃ as, ReadsAll s.heap us ds as ∧ sysModules ∉ as
  | [], _, _, h, r => by
    cases h
    cases r
    exact ⟨_, ReadsAll.nil, by simp⟩
  | d :: ds, _, _, h, r => by
    cases h with
    | cons h1 h2 =>
      cases r with
      | cons r1 r2 =>
        obtain ⟨as, q1, n1⟩ := Dz.reads I d _ _ h1 r1
        obtain ⟨bs, q2, n2⟩ := Dz.readsAll I ds _ _ h2 r2
        exact ⟨_, ReadsAll.cons q1 q2, fun z => (List.mem_append.mp z).elim n1 n2⟩
end
end
def rRz (K : PySem.W.Frag) : List V → Hp → VK → Prop := fun xs H Q => ∃ a d, xs = [.ref a] ∧ Dz K H (.ref a) d ∧ d.showable = true ∧ d.depth ≤ 20 ∧ d.shown.length ≤ sizeLine ∧ Q (.str d.shown) H
theorem cr_rz {X : Cx} {k : Nat} (qt : Quiet X.A) (hr : RoomH k X.A) : CallR X (.builtin "repr") (rRz X.K) := by
  rintro pins s σ H xs us Q I r ⟨a, d, rfl, hd, h1, h3, h4, q⟩
  obtain ⟨u, rfl, ru⟩ := vals1 r
  have un : X.A.units + 30 < cLine := by have := hr.un; omega
  cases (show u = Value.ref a from ru)
  obtain ⟨as, rd, hn⟩ := Dz.reads I d (.ref a) _ hd rfl
  refine repr_of_reads' rd h1 (fun _ => hn) qt (by omega) (fun _ _ y => y) (fun h' u tk hk => ?_) h4
  exact ⟨.str d.shown, H, I.kept (t' := tk) hk, ⟨_, rfl⟩, q⟩
end L2.G
set_option Elab.async false
set_option linter.all false
set_option maxRecDepth 100000
set_option maxHeartbeats 2000000
namespace L2.G
open PySem PySem.Spec PyProof.Rows L2H LamX
/-! what the law's helper tells of an error given a tuple with empty dicts in it -/
mutual
def toZ : D → Option PyData
  | .non => some .none
  | .bl b => some (.bool b)
  | .int i => some (.int i)
  | .str z => some (.str z)
  | .tup ds => (toZs ds).map .tuple
  | .dic => some (.dict [])
  | _ => none
def toZs : List D → Option (List PyData)
  | [] => some []
  | d :: ds => (toZ d).bind fun p => (toZs ds).map (p :: ·)
end
mutual
theorem dz_of {g : Ga} {Hs : Hp} : ∀ (d : D) (v : V) (p : PyData), toZ d = some p → Rl g Hs d v → Dz g.K Hs v p
  | .non, v, p, h, r => by
    unfold toZ at h
    cases h
    rw [rl_non.mp r]
    exact .non
  | .bl b, v, p, h, r => by
    unfold toZ at h
    cases h
    rw [rl_bl.mp r]
    exact .bl b
  | .int i, v, p, h, r => by
    unfold toZ at h
    cases h
    rw [rl_int.mp r]
    exact .int i
  | .str z, v, p, h, r => by
    unfold toZ at h
    cases h
    rw [(rl_str.mp r).1]
    exact .str z
  | .tup ds, v, p, h, r => by
    unfold toZ at h
    obtain ⟨ps, e, rfl⟩ := Option.map_eq_some_iff.mp h
    obtain ⟨a, vs, rfl, hs, _, hr⟩ := rl_tup.mp r
    exact .tup hs (dzs_of ds vs ps e hr)
  | .dic, v, p, h, r => by
    unfold toZ at h
    cases h
    obtain ⟨a, rfl, ha⟩ := rl_dic.mp r
    exact .dic ha
  | .lst _, v, p, h, r => by unfold toZ at h; cases h
  | .ins _ _ _, v, p, h, r => by unfold toZ at h; cases h
  | .dct _ _, v, p, h, r => by unfold toZ at h; cases h
  | .exc _ _ _, v, p, h, r => by unfold toZ at h; cases h
  | .cup, v, p, h, r => by unfold toZ at h; cases h
  | .scr _, v, p, h, r => by unfold toZ at h; cases h
theorem dzs_of {g : Ga} {Hs : Hp} : ∀ (ds : List D) (vs : List V) (ps : List PyData), toZs ds = some ps → RlL g Hs ds vs → DzAll g.K Hs vs ps
  | [], vs, ps, h, r => by
    unfold toZs at h
    cases h
    rw [rll_nil.mp r]
    exact .nil
  | d :: ds, vs, ps, h, r => by
    unfold toZs at h
    obtain ⟨p, e1, e2⟩ := Option.bind_eq_some_iff.mp h
    obtain ⟨qs, e3, rfl⟩ := Option.map_eq_some_iff.mp e2
    obtain ⟨v, vr, rfl, h1, h2⟩ := rll_cons.mp r
    exact .cons (dz_of d v p e1 h1) (dzs_of ds vr qs e3 h2)
end
def shwZ : D → Option Str
  | .tup ds => match toZ (.tup ds) with
    | some p => if p.showable = true ∧ p.depth ≤ 20 ∧ txtOk p.shown = true then some p.shown else none
    | none => none
  | _ => none
def shwY (d : D) : Option Str := match shwX d with
  | some z => some z
  | none => shwZ d
def rRy (K : PySem.W.Frag) (C : Addr) : List V → Hp → VK → Prop := fun xs H Q => rRq K C xs H Q ∨ rRz K xs H Q
theorem rRy_mono {K : PySem.W.Frag} {C : Addr} : ∀ xs H (Q Q' : VK), (∀ v H', Same H H' → Q v H' → Q' v H') → rRy K C xs H Q → rRy K C xs H Q' := by
  rintro xs H Q Q' m (h | ⟨a, d, e, h1, h2, h3, h4, q⟩)
  · exact .inl (rRq_mono _ _ _ _ m h)
  · exact .inr ⟨a, d, e, h1, h2, h3, h4, m _ _ (Same.refl H) q⟩
theorem shwY_of {g : Ga} {Hs H : Hp} {d : D} {v : V} {z : Str} (sm : Same Hs H) (h : shwY d = some z) (r : Rl g Hs d v) : txtOk z = true ∧ ∀ Q : VK, Q (.str z) H → rRy g.K (g.cm "Record") [v] H Q := by
  unfold shwY at h
  split at h
  · rename_i z' e
    cases h
    obtain ⟨h1, h2⟩ := shwX_of sm e r
    exact ⟨h1, fun Q q => .inl (h2 Q q)⟩
  · unfold shwZ at h
    split at h
    · rename_i ds
      split at h
      · rename_i p e
        split at h
        · rename_i hp
          cases h
          obtain ⟨a, vs, rfl, _⟩ := rl_tup.mp r
          exact ⟨hp.2.2, fun Q q => .inr ⟨a, p, rfl, dz_same sm p _ (dz_of _ _ p e r), hp.1, hp.2.1, txtOk_len hp.2.2, q⟩⟩
        · cases h
      · cases h
    · cases h
def cauY (tab : Str → Option (Nat × List Nat)) (me : PM D) : PM D := fun st c => match me st c with
  | .no => .no
  | .ok d c' => .ok (.lst [.str "given", d]) c'
  | .er x c' => match tab x.cls, x.ds, (x.ds.head?).bind shwY with
    | some (i, bs), [_], some z => if x.ns = [fldOf i] then .ok (.lst (.int i :: (bs.map (fun j : Nat => D.int j) ++ [.str z]))) c' else .no
    | _, _, _ => .no
theorem cau_ofY {X : Cx} {g : Ga} {E : XK} {hid : List Nat} {σ : St} {H : Hp} {Q : VK} {me : PM D} {tab : Str → Option (Nat × List Nat)} {mg : Str → Option Value} {Tc : TCl g.K mg} (ht : ErrT Tc g.cm tab) :
    tE g E hid (cauY tab me) σ H Q → tLam g.pc.tabs (TCaught Tc (rRy g.K (g.cm "Record"))) (fun E => tE g E hid me) σ H Q := by
  rintro ⟨st, c, Hs, sl, sm, cu, p⟩
  refine ⟨cu.tb, fun H1 ex tb1 => ?_⟩
  have sm1 : Same Hs H1 := fun b o e => ex b o (sm b o e) fun ps z => cu.nt b ps (z ▸ e)
  have cu1 : CupAt g.pc Hs H1 c := cu.hp (fun q hq o ho => ex q o ho fun ps z => by
    obtain ⟨a, b, _, e⟩ := cu.on hq
    rw [e] at ho
    cases ho
    cases z) tb1
  have F01 : Fn g.pc Hs H Hs H1 c := by
    exact ⟨Same.refl _, fun b o _ t e => ex b o e t, fun _ _ _ _ n => n, sm1, cu1⟩
  show tE g _ hid me σ H1 _
  refine ⟨st, c, Hs, sl, sm1, cu1, ?_⟩
  unfold cauY at p
  cases em : me st c with
  | no => rw [em] at p; exact p
  | ok d c' =>
    rw [em] at p
    intro Hs' H' F v rv
    refine ⟨by rw [sizeLine_eq]; simp, fun L nL => ?_⟩
    refine p (upd Hs' L (.lst [.str "given", v])) _ ((F01.trans F).trans (Fn.new F.sm F.cu nL)) (.ref L) (rl_lst.mpr ⟨L, _, rfl, upd_same, by rw [sizeLine_eq]; simp, rll_cons.mpr ⟨_, _, rfl, rl_str.mpr ⟨rfl, txt_given⟩, rll_cons.mpr ⟨_, _, rfl, Rl.mono (same_new (F.sm.free nL)) d v rv, rll_nil.mpr rfl⟩⟩⟩)
  | er x c' =>
    rw [em] at p
    dsimp only at p
    split at p
    · rename_i i bs y zz et ey hsh
      rw [ey] at hsh
      replace hsh : shwY y = some zz := hsh
      split at p
      · rename_i hns
        rintro cls dx Hs' H' F ⟨rfl, dd, gs, rfl, hd, hg, rl⟩
        rw [hns] at hg
        rw [ey] at rl
        obtain ⟨yv, rest, e1, ry, r2⟩ := rll_cons.mp rl
        have e3 := rll_nil.mp r2
        subst e3
        obtain ⟨q, rfl⟩ : ∃ q, gs = [q] := by
          cases gs with
          | nil => cases hg
          | cons q r =>
            cases r with
            | nil => exact ⟨q, rfl⟩
            | cons z r => simp at hg
        have eq1 : q = (fldOf i, yv) := by
          obtain ⟨a, b⟩ := q
          simp at hg e1
          rw [hg, e1]
        subst eq1
        obtain ⟨ab, er, eb, hb⟩ := ht.at_ _ _ _ et
        refine ⟨g.cm x.cls, dd, i, ab, yv, rfl, rfl, F.sm _ _ hd, er, fun H2 e2 => ?_⟩
        obtain ⟨tk, sw⟩ := shwY_of (H := H2) (F.sm.trans e2) hsh ry
        refine sw _ fun L H4 nL e4 lL => ?_
        have s4 : Same H' H4 := e2.trans e4
        have nL' : H' L = none := by
          cases z : H' L with
          | none => rfl
          | some o => rw [e2 _ _ z] at nL; cases nL
        have cu4 : CupAt g.pc Hs' H4 c' := F.cu.ext s4
        have F4 : Fn g.pc Hs H Hs' H4 c' := by
          have F0 := F01.trans F
          exact ⟨F0.ss, fun b o ob t e => s4 b o (F0.bt b o ob t e), F0.nw, F.sm.trans s4, cu4⟩
        have hL0 : Fr H L := fun o t z => by
          rw [(F01.trans F).bt L o (F.cu.ne nL') t z] at nL'
          cases nL'
        have F5 := F4.show_ hL0 lL (F.sm.free nL') (F.cu.ne nL') (plain_lst _).1
        have el : toldOf i ab (.str (zz)) = V.int i :: (bs.map (fun j : Nat => V.int j) ++ [.str (zz)]) := by
          unfold toldOf
          rw [eb]
          congr 2
          rw [List.map_map]
          apply List.map_congr_left
          intro j hj
          have := hb j hj
          simp only [Function.comp_apply]
          congr 1
          omega
        rw [el] at lL F5
        have bl : bs.length ≤ 6 := by
          have := congrArg List.length eb
          rw [List.length_map] at this
          have h6 := List.length_filter_le ab (List.range 6)
          rw [List.length_range] at h6
          omega
        refine p _ _ F5 (.ref L) (rl_lst.mpr ⟨L, _, rfl, upd_same, by rw [sizeLine_eq]; simp; omega, rll_cons.mpr ⟨_, _, rfl, rl_int.mpr rfl, ?_⟩⟩)
        exact (RlL.map (fun j : Nat => D.int j) (fun j : Nat => V.int j) fun j _ => rl_int.mpr rfl).append (rll_cons.mpr ⟨_, _, rfl, rl_str.mpr ⟨rfl, tk⟩, rll_nil.mpr rfl⟩)
      · exact p.elim
    · exact p.elim
/-- the law's helper that catches -/
structure CauY (P : Program) (w : World) (K : PySem.W.Frag) (mg : Str → Option Value) (base : Heap) (cm : Str → Addr) (tab : Str → Option (Nat × List Nat)) : Prop where
  ex : ∃ (g0 : Addr) (oc : Value) (od : Option Addr) (osl : Array (Option Value)) (pg : Arguments) (bg : List Stmt) (sg : Scope) (dV kV doc pm cdv ct : Value) (an : Option Addr) (Ng : List Str) (Tc : TCl K mg),
    mg "_law_caught" = some (.ref g0) ∧ PySem.W.keepIn K (.ref g0) = true ∧ K.lookup g0 = some ⟨oc, od, .func (PySem.W.fnOf "_law_caught" "_law_caught" pg bg sg dV kV doc pm an cdv ct), osl⟩ ∧ PySem.W.codeIn K cdv "_law_caught" = true ∧
    L2.Binds K (PySem.W.fnOf "_law_caught" "_law_caught" pg bg sg dV kV doc pm an cdv ct) ["_law_act"] [] ∧ FnScope Ng ["_law_act"] sg ∧ Ng[0]? = some ("_law_act" : Str) ∧ Vis sg "_law_act" ∧ ErrT Tc cm tab ∧
    ∀ X : Cx, X.prog = P → X.w = w → X.K = K → X.mg = mg → X.base = base → Quiet X.A → ∀ q, GivesN X Ng "_law_caught" sg g0 cdv bg "_law_act" q (TCaught Tc (rRy K (cm "Record")))
theorem d_caughtY {X : Cx} {g : Ga} {E : XK} {hid : List Nat} {me : PM D} {tab : Str → Option (Nat × List Nat)} {c P : Addr} {k : Nat} {params : Arguments} {body : Expr} {sc : Scope} {p lpos pos : Pos} (cc : CauY X.prog X.w X.K X.mg X.base g.cm tab) (hg : Gl X "_law_caught")
    (TB : TabB X.base X.mg c P) (hcode : X.env.code = .ref c) (hT : (P, X.env.qual ++ "<lambda>") ∈ g.pc.tabs) (hu : ∀ p ∈ g.pc.tabs, p.1 = P → p.2 = X.env.qual ++ "<lambda>")
    (qt : Quiet X.A) (hr : Room (k + 2) X.A) (L : LamS X.env.scope sc)
    (hbody : ∀ (A : Around) (outer : List Env) (s : Shared) (H : Hp) (E : XK) (f c' : Addr), Quiet (A.deeper (lamEnv X sc s.heap.objs.size f c')) → Room k (A.deeper (lamEnv X sc s.heap.objs.size f c')) → DE (lamN X A outer s H E sc f c') g E hid body me)
    (hdef : defaultsOf params X.env = ([], []) := by rfl)
    (hbind : ∀ (q : Str) (cl : List (Str × Addr)) (pm cv ctv : Value), bindArgs (PySem.W.kla_fn "<lambda>" q params body sc cl pm cv ctv) ⟨[], []⟩ = pure [] := by intros; rfl) (hK : X.K = g.K := by rfl) :
    DE X g E hid (.Call (.Name "_law_caught" p) [.Lambda params body sc lpos] [] pos) (cauY tab me) := by
  obtain ⟨g0, oc, od, osl, pg, bg, sg, dV, kV, doc, pm, cdv, ct, an, Ng, Tc, h1, h2, h3, h4, h5, h6, h7, h8, h9, h10⟩ := cc.ex
  have hG := h10 X rfl rfl rfl rfl rfl qt (X.env.qual ++ "<lambda>")
  refine PE_imp (pe_lamN (t := fun E => tE g E hid me) hg h1 h2 h3 h4 h5 h6 h7 h8 hG TB hcode hT hu qt hr L hdef hbind hbody) ?_
  clear hG h10 h3 h4 h5
  revert Tc
  rw [hK]
  intro Tc h9 σ H Q q
  exact cau_ofY (X := X) h9 q
theorem d_cauY {X : Cx} {g : Ga} {E : XK} {hid : List Nat} {me : PM D} {tab : Str → Option (Nat × List Nat)} {k : Nat} {params : Arguments} {body : Expr} {sc : Scope} {p lpos pos : Pos} (cc : CauY X.prog X.w X.K X.mg X.base g.cm tab) (hg : Gl X "_law_caught")
    (lt : LamT X.base X.mg g.pc.tabs X.env.code X.env.qual) (qt : Quiet X.A) (hr : Room (k + 2) X.A) (L : LamS X.env.scope sc)
    (hbody : ∀ (A : Around) (outer : List Env) (s : Shared) (H : Hp) (E : XK) (f c' : Addr), Quiet (A.deeper (lamEnv X sc s.heap.objs.size f c')) → Room k (A.deeper (lamEnv X sc s.heap.objs.size f c')) → Passes (CN (lamN X A outer s H E sc f c').prog (lamN X A outer s H E sc f c').w) (lamN X A outer s H E sc f c') E → DE (lamN X A outer s H E sc f c') g E hid body me)
    (hdef : defaultsOf params X.env = ([], []) := by rfl)
    (hbind : ∀ (q : Str) (cl : List (Str × Addr)) (pm cv ctv : Value), bindArgs (PySem.W.kla_fn "<lambda>" q params body sc cl pm cv ctv) ⟨[], []⟩ = pure [] := by intros; rfl) (hK : X.K = g.K := by rfl) :
    DE X g E hid (.Call (.Name "_law_caught" p) [.Lambda params body sc lpos] [] pos) (cauY tab me) := by
  obtain ⟨c, P, h1, h2, h3, h4⟩ := lt.ex
  exact d_caughtY cc hg h2 h1 h3 h4 qt hr L (fun A outer s H E f c' q r => hbody A outer s H E f c' q r (lam_px2 X A outer s H E sc f c')) hdef hbind hK
end L2.G
set_option Elab.async false
set_option linter.all false
set_option maxRecDepth 100000
set_option maxHeartbeats 2000000
namespace L2.G
open PySem PySem.Spec PyProof.Rows L2H
/-! a dict of texts under texts, of a def's own: x = {}; for t in it: ..; if k in x and x[k] != h: return False; x[k] = h -/
def kdV (kd : List (Str × Str)) : List (Key × V) := kd.map fun p => (Sum.inr p.1, V.str p.2)
def getA (kd : List (Str × Str)) (z : Str) : Option Str := (kd.find? fun p => decide (p.1 = z)).map (·.2)
def putA (kd : List (Str × Str)) (z w : Str) : List (Str × Str) := if (kd.any fun p => decide (p.1 = z)) = true then kd.map (fun p => if p.1 = z then (p.1, w) else p) else kd ++ [(z, w)]
theorem val_kd (z : Str) : ∀ kd : List (Str × Str), valV (kdV kd) (Sum.inr z) = (getA kd z).map V.str
  | [] => rfl
  | p :: kd => by
    by_cases h : p.1 = z
    · have : valV (kdV (p :: kd)) (Sum.inr z) = some (V.str p.2) := valV_pos (by show (Sum.inr p.1 : Key) = _; rw [h])
      rw [this]
      simp [getA, List.find?_cons, h]
    · have : valV (kdV (p :: kd)) (Sum.inr z) = valV (kdV kd) (Sum.inr z) := valV_neg (by show ¬ (Sum.inr p.1 : Key) = _; simpa using h)
      rw [this, val_kd z kd]
      simp [getA, List.find?_cons, h]
theorem put_kd (z w : Str) (kd : List (Str × Str)) : putK (kdV kd) (Sum.inr z) (V.str w) = kdV (putA kd z w) := by
  have e : ((kdV kd).any fun kv => decide (kv.1 = (Sum.inr z : Key))) = kd.any fun p => decide (p.1 = z) := by
    unfold kdV
    rw [List.any_map]
    congr 1
    funext p
    simp
  unfold putK putA
  rw [e]
  split
  · unfold kdV
    rw [List.map_map, List.map_map]
    apply List.map_congr_left
    intro p _
    simp only [Function.comp_apply]
    by_cases h : p.1 = z
    · simp [h]
    · simp [h]
  · simp [kdV]
theorem len_put (z w : Str) (kd : List (Str × Str)) : (putA kd z w).length ≤ kd.length + 1 := by
  unfold putA
  split <;> simp
def dloop (i : Nat) (t : Tg) (f1 f2 f3 : PM Fl) (ik ih : Nat) : List D → List (Str × Str) → PSt → Cu → R Fl
  | [], _, st, c => .ok (.nx st) c
  | d :: ds, kd, st, c => (ofO (asgT t d st) c).bind fun st1 c => (f1 st1 c).bind fun fl c => match fl with
    | .rt d => .ok (.rt d) c
    | .nx st2 => (f2 st2 c).bind fun fl c => match fl with
      | .rt d => .ok (.rt d) c
      | .nx st3 => (f3 st3 c).bind fun fl c => match fl with
        | .rt d => .ok (.rt d) c
        | .nx st4 => match st4[i]?, st4[ik]?, st4[ih]? with
          | some none, some (some (.str z)), some (some (.str w)) => if kd.length < 1000000 then (if (getA kd z).isSome && decide (getA kd z ≠ some w) then .ok (.rt (.bl false)) c else dloop i t f1 f2 f3 ik ih ds (putA kd z w) st4 c) else .no
          | _, _, _ => .no
def dictS (i : Nat) (t : Tg) (it : PM (List D)) (f1 f2 f3 : PM Fl) (ik ih : Nat) : PM Fl := fun st c => match st[i]? with
  | some none => (it st c).bind fun items c => dloop i t f1 f2 f3 ik ih items [] st c
  | _ => .no
section
variable {X : Cx} {g : Ga} {E : XK} {Hs0 H0 : Hp} {ow' : List Nat} {i ik ih : Nat}
theorem sis_d {Hs H : Hp} {c : Cu} {st : PSt} {σ : St} (s : SiS g [] Hs0 H0 [] Hs H c st σ) (hi : st[i]? = some none) {p : Addr} (np : H p = none) :
    SiS g [(i, .ref p)] Hs0 H0 [i] Hs (upd H p (.dK [])) c st (σ.set i (some (.ref p))) ∧ Hs p = none ∧ Fr H0 p ∧ Off g.pc p := by
  have hl : i < σ.length := by
    have := (List.getElem?_eq_some_iff.mp hi).1
    rw [s.sl.1]
    exact this
  have fr := fresh_of s.fn np
  refine ⟨⟨s.fn.trans (Fn.hid s.fn.sm s.fn.cu np), ⟨by rw [List.length_set]; exact s.sl.1, fun j d hj e => ?_⟩, fun j hj d e => ?_, fun j hj k hk jk => ?_, fun j hj v hv => ?_⟩, s.fn.sm.free np, fr.1, fr.2⟩
  · have : i ≠ j := fun z => hj (by simp [z])
    rw [List.getElem?_set_ne this]
    exact s.sl.2 j d (by simp) e
  · have : j = i := by simpa using hj
    subst this
    rw [hi] at e
    cases e
  · have h1 : j = i := by simpa using hj
    have h2 : k = i := by simpa using hk
    exact absurd (h1.trans h2.symm) jk
  · have h1 : j = i := by simpa using hj
    have h2 : v = .ref p := by
      have := List.mem_singleton.mp hv
      exact (Prod.mk.inj this).2
    subst h1 h2
    rw [List.getElem?_set_self hl]
theorem ps_er2 {β : Type} {fx : List (Nat × V)} {D : Ends} {Hs H : Hp} {c : Cu} {r : R β} {k : β → Cu → R Fl} {K : β → Cu → Hp → Hp → Prop} (fn : Fn g.pc Hs0 H0 Hs H c) (p : PostS g E fx Hs0 H0 ow' D (r.bind k))
    (h : ∀ a c1 Hs1 H1, r = .ok a c1 → Fn g.pc Hs H Hs1 H1 c1 → PostS g E fx Hs0 H0 ow' D (k a c1) → K a c1 Hs1 H1) : Post g E Hs H r K := by
  cases r with
  | no => exact p
  | er x c' => exact fun cls dx Hs' H' F x => p cls dx Hs' H' (fn.trans F) x
  | ok a c' => exact fun Hs' H' F => h a c' Hs' H' rfl F p
/-- one row of the loop's body -/
theorem pchain {fx : List (Nat × V)} {ow : List Nat} {D D' : Ends} {Hs3 H3 : Hp} {c3 : Cu} {r : R Fl} {k : PSt → Cu → R Fl} (fn : Fn g.pc Hs0 H0 Hs3 H3 c3) (hrt : D'.rt = D.rt)
    (p : PostS g E [] Hs0 H0 [] D (r.bind fun fl c => match fl with
    | .rt d => .ok (.rt d) c
    | .nx st2 => k st2 c)) (hn : ∀ st' c', r = .ok (.nx st') c' → PostS g E [] Hs0 H0 [] D (k st' c') → ∀ σ' Hs' H', SiS g fx Hs3 H3 ow Hs' H' c' st' σ' → D'.nx σ' H') : PostS g E fx Hs3 H3 ow D' r := by
  cases r with
  | no => exact p
  | er x c' => exact fun cls dx Hs' H' F x => p cls dx Hs' H' (fn.trans F) x
  | ok fl c' =>
    cases fl with
    | rt d =>
      intro v Hs' H' F r
      rw [hrt]
      exact p v Hs' H' (fn.trans F) r
    | nx st' => exact fun σ' Hs' H' s => hn st' c' rfl p σ' Hs' H' s
theorem b_dict {t : Tg} {it : PM (List D)} {f1 f2 f3 fr : PM Fl} {tg iter : Expr} {sA s1 s2 s3 sI sP r0 : Stmt} {rest : List Stmt} {pos : Pos}
    (hA : PS X sA (tAsg tDNewK (gName i))) (hp : PassesOwn (model X.prog X.w) X.A X.env X.xe) (hc : X.calm = true) (hi : DI X g E [i] tg iter it) (hg : PG X tg (gOf g.K t))
    (h1 : ∀ p Hs0 H0, DS X g E [(i, .ref p)] Hs0 H0 [i] [i] s1 f1) (h2 : ∀ p Hs0 H0, DS X g E [(i, .ref p)] Hs0 H0 [i] [i] s2 f2) (h3 : ∀ p Hs0 H0, DS X g E [(i, .ref p)] Hs0 H0 [i] [i] s3 f3)
    (hI : PS X sI (tIfS (tAnd (tB (tDIn (tVar ik) (tVar i))) (tTest (tOp rNe (tDGet (tVar i) (tVar ik)) (tVar ih)))) (tRet (tC (.bl false))) tNext)) (hP : PS X sP (sDPut (tVar i) (tVar ik) (tVar ih)))
    (hr : DB X g E [] Hs0 H0 [] ow' (r0 :: rest) fr) (hki : ik ≠ i) (hhi : ih ≠ i) (ht : ∀ k ∈ tgS t, k ∉ [i])
    (hs : ∀ x, foldedSetIterable iter X.env x = pure x := by intro _; rfl) :
    DB X g E [] Hs0 H0 [] ow' (sA :: .For tg iter [s1, s2, s3, sI, sP] [] pos :: r0 :: rest) (seqS (dictS i t it f1 f2 f3 ik ih) fr) := by
  refine PSs_imp (pss_cons hA (pss_cons (ps_for hp hc hi hg (PSs_ex (α := Addr × Hp × Hp) fun a => pss_cons (h1 a.1 a.2.1 a.2.2) (pss_cons (h2 a.1 a.2.1 a.2.2) (pss_cons (h3 a.1 a.2.1 a.2.2) (pss_cons hI (pss_one hP))))) hs) hr)) fun D σ H ⟨st, c, Hs, s, p0⟩ => ?_
  -- x = {}
  refine fun q nq => ?_
  have p := seq_of (ow1 := []) p0
  clear p0
  generalize eD : ({ D with nx := fun σ H => tS g E [] Hs0 H0 [] ow' fr D σ H } : Ends) = D1 at p
  have eD2 : ({ D with nx := tS g E [] Hs0 H0 [] ow' fr D } : Ends) = D1 := eD
  dsimp only [gName]
  rw [tSeq]
  rw [eD2]
  clear eD eD2 hr
  unfold dictS at p
  split at p
  rotate_left
  · exact p.elim
  rename_i hi0
  obtain ⟨sd, hq, hf, ho⟩ := sis_d s hi0 nq
  -- the loop's things
  refine ⟨st, c, Hs, sd.sl, sd.fn.sm, sd.fn.cu, ps_er2 (ow' := []) (fx := []) (Hs0 := Hs0) (H0 := H0) sd.fn p fun items c2 Hs2 H2 _ F q2 hlen J wJ => ?_⟩
  have plD : ∀ kvs : List (Key × V), Plain (.dK kvs) := fun kvs => ⟨fun _ z => (by cases z), fun _ z => (by cases z)⟩
  have hd0 : H2 q = some (.dK []) := F.bt q _ ho (plD _).1 upd_same
  have hq2 : Hs2 q = none := F.nw q _ (plD _).1 upd_same hq
  refine for_it (g := gOf g.K t) (D := D1) (tb := fun D σ H => ∃ a : Addr × Hp × Hp, tSeq (tS g E [(i, V.ref a.1)] a.2.1 a.2.2 [i] [i] f1) (tSeq (tS g E [(i, V.ref a.1)] a.2.1 a.2.2 [i] [i] f2) (tSeq (tS g E [(i, V.ref a.1)] a.2.1 a.2.2 [i] [i] f3) (tSeq (tIfS (tAnd (tB (tDIn (tVar ik) (tVar i))) (tTest (tOp rNe (tDGet (tVar i) (tVar ik)) (tVar ih)))) (tRet (tC (.bl false))) tNext) (sDPut (tVar i) (tVar ik) (tVar ih))))) D σ H) wJ (fun n σ' H' => ∃ st' c' Hs' kd, SiS g [(i, .ref q)] Hs0 H0 [i] Hs' H' c' st' σ' ∧ Same Hs2 Hs' ∧ st'[i]? = some none ∧ H' q = some (.dK (kdV kd)) ∧ Hs' q = none ∧ PostS g E [] Hs0 H0 [] D1 (dloop i t f1 f2 f3 ik ih (items.drop n) kd st' c'))
    ⟨st, c2, Hs2, [], sd.on F, Same.refl _, hi0, hd0, hq2, by rw [List.drop_zero]; exact q2⟩ ?_ ?_ ?_
  · rintro n σ' H' _ ⟨st', c', Hs', kd, s', e', _⟩
    exact e'.trans s'.fn.sm
  · rintro n x σ' H' H'' hn ⟨st', c', Hs', kd, s', e', hi', hd, hq', pp⟩ y
    obtain ⟨d, Hs3, hd3, F3, rx⟩ := y.step e' s'.fn.sm s'.fn.cu
    rw [drop_cons hd3] at pp
    unfold dloop at pp
    have s3 := s'.on F3
    cases ea : asgT t d st' with
    | none => rw [ea] at pp; exact pp.elim
    | some st2 =>
      rw [ea, ofO_some, R.ok_bind] at pp
      refine asg_of F3.sm t d x st' st2 σ' _ s'.sl.1 rx ea fun σ2 a => ⟨(q, Hs3, H''), ?_⟩
      have s4 := s3.asg a ht
      have hi2 : st2[i]? = some none := by
        rw [(a.out i (fun z => ht i z (by simp))).2]
        exact hi'
      have d3 : H'' q = some (.dK (kdV kd)) := F3.bt q _ ho (plD _).1 hd
      have q3 : Hs3 q = none := F3.nw q _ (plD _).1 hd hq'
      have s5 : SiS g [(i, .ref q)] Hs3 H'' [i] Hs3 H'' c' st2 σ2 := by
        refine ⟨Fn.refl s4.fn.sm s4.fn.cu, s4.sl, fun j hj d e => ?_, s4.dis, s4.fix⟩
        have : j = i := by simpa using hj
        subst this
        rw [hi2] at e
        cases e
      refine ⟨st2, c', Hs3, s5, pchain (Hs0 := Hs0) (H0 := H0) (D := D1) s4.fn rfl pp fun st6 c6 _ pp6 σ6 Hs6 H6 s6 => ?_⟩
      refine ⟨st6, c6, Hs6, s6, pchain (Hs0 := Hs0) (H0 := H0) (D := D1) s4.fn rfl pp6 fun st7 c7 _ pp7 σ7 Hs7 H7 s7 => ?_⟩
      refine ⟨st7, c7, Hs7, s7, pchain (Hs0 := Hs0) (H0 := H0) (D := D1) s4.fn rfl pp7 fun st8 c8 _ pp8 σ8 Hs8 H8 s8 => ?_⟩
      have d8 : H8 q = some (.dK (kdV kd)) := s8.fn.bt q _ ho (plD _).1 d3
      have q8 : Hs8 q = none := s8.fn.nw q _ (plD _).1 d3 q3
      have v8 : σ8[i]? = some (some (.ref q)) := s8.fix i (by simp) _ (by simp)
      have f8 := s4.fn.trans s8.fn
      split at pp8
      rotate_left
      · exact pp8.elim
      rename_i z w hi8 hk8 hh8
      obtain ⟨vk, ek, rk⟩ := s8.sl.2 ik _ (by simpa using hki) hk8
      obtain ⟨vh, eh, rh⟩ := s8.sl.2 ih _ (by simpa using hhi) hh8
      obtain ⟨rfl, _⟩ := rl_str.mp rk
      obtain ⟨rfl, _⟩ := rl_str.mp rh
      split at pp8
      rotate_left
      · exact pp8.elim
      rename_i hlk
      have dg : DGet H8 q (.str z) ((getA kd z).map V.str) := by
        have := DGet.k (k := Sum.inr z) d8
        rw [val_kd] at this
        exact this
      -- x[k] = h
      have put : (dloop i t f1 f2 f3 ik ih (items.drop (n + 1)) (putA kd z w) st8 c8 |> PostS g E [] Hs0 H0 [] D1) → sDPut (tVar i) (tVar ik) (tVar ih) { D1 with nx := fun σ' H' => ∃ st' c' Hs' kd, SiS g [(i, .ref q)] Hs0 H0 [i] Hs' H' c' st' σ' ∧ Same Hs2 Hs' ∧ st'[i]? = some none ∧ H' q = some (.dK (kdV kd)) ∧ Hs' q = none ∧ PostS g E [] Hs0 H0 [] D1 (dloop i t f1 f2 f3 ik ih (items.drop (n + 1)) kd st' c'), ct := fun σ' H' => ∃ st' c' Hs' kd, SiS g [(i, .ref q)] Hs0 H0 [i] Hs' H' c' st' σ' ∧ Same Hs2 Hs' ∧ st'[i]? = some none ∧ H' q = some (.dK (kdV kd)) ∧ Hs' q = none ∧ PostS g E [] Hs0 H0 [] D1 (dloop i t f1 f2 f3 ik ih (items.drop (n + 1)) kd st' c'), bk := D1.nx } σ8 H8 := by
        intro pz
        have lk : (kdV kd).length < sizeLine := by
          rw [sizeLine_eq]
          simp [kdV]
          omega
        refine ⟨_, eh, _, v8, _, ek, q, _, rfl, DPut.k (k := Sum.inr z) d8 lk, st8, c8, Hs8, putA kd z w, ?_, e'.trans (F3.ss.trans s8.fn.ss), hi8, ?_, q8, pz⟩
        · refine ⟨f8.mut hf q8 ho d8 (plD _), s8.sl, fun j hj d e => ?_, s8.dis, s8.fix⟩
          have : j = i := by simpa using hj
          subst this
          rw [hi8] at e
          cases e
        · rw [upd_same, put_kd]
      refine ⟨_, ek, _, v8, q, _, rfl, dg, _, rfl, ?_⟩
      cases eg : getA kd z with
      | none =>
        rw [eg] at pp8
        exact put pp8
      | some w2 =>
        rw [eg] at pp8 dg
        refine ⟨_, v8, _, ek, q, _, rfl, dg, _, eh, rfl, _, rfl, ?_⟩
        by_cases hw : w2 = w
        · subst hw
          have : (!decide (V.str w2 = V.str w2)) = false := by simp
          rw [this]
          simp at pp8
          exact put pp8
        · have : (!decide (V.str w2 = V.str w)) = true := by simp [hw]
          rw [this]
          have : ((some w2).isSome && decide (some w2 ≠ some w)) = true := by simp [hw]
          rw [if_pos this] at pp8
          exact pp8 _ Hs8 H8 f8 (rl_bl.mpr rfl)
  · rintro σ' H' ⟨st', c', Hs', kd, s', _, hi', _, _, pp⟩
    rw [List.drop_length] at pp
    refine pp σ' Hs' H' ⟨s'.fn, ⟨s'.sl.1, fun j d hj e => ?_⟩, fun j hj => absurd hj (by simp), fun j hj => absurd hj (by simp), fun j hj => absurd hj (by simp)⟩
    refine s'.sl.2 j d ?_ e
    intro z
    have : j = i := by simpa using z
    subst this
    rw [hi'] at e
    cases e
end
theorem hu1 {u : Nat} (h : u + 64 < cLine) : u + 1 < cLine := by omega
/-! a walk of a list or of a tuple -/
def itTL (m : PM D) : PM (List D) := fun st c => (m st c).bind fun x c => match x with
  | .lst ds => .ok ds c
  | .tup ds => .ok ds c
  | _ => .no
theorem PI_or {X : Cx} {tg iter : Expr} {t1 t2 t : TI} (h1 : PI X tg iter t1) (h2 : PI X tg iter t2) (m : ∀ σ H R, t σ H R → t1 σ H R ∨ t2 σ H R) : PI X tg iter t := ⟨fun pins s σ H Q I q => (m σ H Q q).elim (h1.run pins s σ H Q I) (h2.run pins s σ H Q I)⟩
theorem di_tl {X : Cx} {g : Ga} {E : XK} {hid : List Nat} {m : PM D} {tg e : Expr} (he : DE X g E hid e m) (hK : X.K = g.K := by rfl) : DI X g E hid tg e (itTL m) := by
  refine PI_or (di_list he hK) (di_tup he hK) fun σ H R ⟨st, c, Hs, sl, sm, cu, p⟩ => ?_
  unfold itTL at p
  cases em : m st c with
  | no => rw [em] at p; exact p.elim
  | er x c' => exact .inl ⟨st, c, Hs, sl, sm, cu, by unfold itL; rw [em] at p ⊢; exact p⟩
  | ok x c' =>
    rw [em] at p
    cases x with
    | lst ds => exact .inl ⟨st, c, Hs, sl, sm, cu, by unfold itL; rw [em]; exact p⟩
    | tup ds => exact .inr ⟨st, c, Hs, sl, sm, cu, by unfold itT; rw [em]; exact p⟩
    | _ => exact p.elim
end L2.G
set_option Elab.async false
set_option linter.all false
set_option maxRecDepth 100000
set_option maxHeartbeats 2000000
namespace L2.G
open PySem PySem.Spec PyProof.Rows L2H
/-! x = [e for .. in ys ..], ys a list of one's own that stays so: the new list holds tuples and scalars alone -/
mutual
def noL : D → Bool
  | .non => true
  | .bl _ => true
  | .int _ => true
  | .str _ => true
  | .tup ds => noLs ds
  | _ => false
def noLs : List D → Bool
  | [] => true
  | d :: ds => noL d && noLs ds
end
mutual
theorem noL_rl {g : Ga} {Hs Hs' : Hp} (hk : ∀ t xs, Rd Hs t (.tup xs) → Rd Hs' t (.tup xs)) : ∀ (d : D) (v : V), noL d = true → Rl g Hs d v → Rl g Hs' d v
  | .non, v, _, r => rl_non.mpr (rl_non.mp r)
  | .bl b, v, _, r => rl_bl.mpr (rl_bl.mp r)
  | .int i, v, _, r => rl_int.mpr (rl_int.mp r)
  | .str z, v, _, r => rl_str.mpr (rl_str.mp r)
  | .tup ds, v, n, r => by
    unfold noL at n
    obtain ⟨a, vs, rfl, hs, hl, hr⟩ := rl_tup.mp r
    refine rl_tup.mpr ⟨a, vs, rfl, ?_, hl, noLs_rl hk ds vs n hr⟩
    rcases hs with q | q
    · exact .inl (hk a vs q)
    · exact .inr q
  | .lst _, v, n, r => by unfold noL at n; cases n
  | .dic, v, n, r => by unfold noL at n; cases n
  | .ins _ _ _, v, n, r => by unfold noL at n; cases n
  | .dct _ _, v, n, r => by unfold noL at n; cases n
  | .exc _ _ _, v, n, r => by unfold noL at n; cases n
  | .cup, v, n, r => by unfold noL at n; cases n
  | .scr _, v, n, r => by unfold noL at n; cases n
theorem noLs_rl {g : Ga} {Hs Hs' : Hp} (hk : ∀ t xs, Rd Hs t (.tup xs) → Rd Hs' t (.tup xs)) : ∀ (ds : List D) (vs : List V), noLs ds = true → RlL g Hs ds vs → RlL g Hs' ds vs
  | [], vs, _, r => rll_nil.mpr (rll_nil.mp r)
  | d :: ds, vs, n, r => by
    unfold noLs at n
    rw [Bool.and_eq_true] at n
    obtain ⟨v, w, rfl, h1, h2⟩ := rll_cons.mp r
    exact rll_cons.mpr ⟨v, w, rfl, noL_rl hk d v n.1 h1, noLs_rl hk ds w n.2 h2⟩
end
def flatD (d : D) : Bool := match d with
  | .lst ds => noLs ds
  | _ => false
def setSW (i : Nat) (m : PM D) : PM Fl := fun st c => (m st c).bind fun d c => if flatD d = true then .ok (.nx (st.set i (some d))) c else .no
section
variable {g : Ga} {fx : List (Nat × V)} {Hs0 H0 Hs H Hs1 H1 Hs2 H2 : Hp} {ow ow' ow1 : List Nat} {c c1 : Cu} {st : PSt} {σ : St}
open Classical in
/-- what was one's own may become known -/
theorem SiS.weak2 (s : SiS g fx Hs0 H0 ow Hs H c st σ) (hw : ∀ i ∈ ow', i ∈ ow) : ∃ Hs1, Same Hs Hs1 ∧ SiS g fx Hs0 H0 ow' Hs1 H c st σ ∧ ∀ b, Hs1 b ≠ Hs b → ∃ i ∈ ow, ∃ d, st[i]? = some (some d) ∧ σ[i]? = some (some (.ref b)) := by
  let fz : Addr → Prop := fun b => ∃ i ∈ ow, i ∉ ow' ∧ (∃ d, st[i]? = some (some d)) ∧ σ[i]? = some (some (.ref b))
  let Hs1 : Hp := fun b => if Hs b = none ∧ fz b then H b else Hs b
  have h1 : ∀ b, Hs b = none → fz b → Hs1 b = H b := fun b n f => if_pos ⟨n, f⟩
  have h2 : ∀ b, ¬ fz b → Hs1 b = Hs b := fun b n => if_neg fun z => n z.2
  have h3 : ∀ b o, Hs b = some o → Hs1 b = some o := fun b o e => by
    show (if Hs b = none ∧ fz b then H b else Hs b) = some o
    rw [if_neg (fun z => by rw [e] at z; cases z.1)]
    exact e
  have free : ∀ b, fz b → Hs b = none ∧ Fr H0 b ∧ Off g.pc b := fun b ⟨i, hi, _, ⟨d, hd⟩, hv⟩ => by
    obtain ⟨a, e1, e2, e3, e4, _⟩ := s.own i hi d hd
    rw [hv] at e1
    cases e1
    exact ⟨e2, e3, e4⟩
  refine ⟨Hs1, h3, ⟨⟨s.fn.ss.trans h3, s.fn.bt, fun b o t e n => ?_, fun b o e => ?_, ?_⟩, ⟨s.sl.1, fun i d hi e => ?_⟩, fun i hi d hd => ?_, fun i hi j hj => s.dis i (hw i hi) j (hw j hj), fun i hi => s.fix i (hw i hi)⟩, fun b n => ?_⟩
  · by_cases hf : fz b
    · exact absurd e ((free b hf).2.1 o t)
    · rw [h2 b hf]
      exact s.fn.nw b o t e n
  · by_cases hf : fz b
    · rw [h1 b (free b hf).1 hf] at e
      exact e
    · rw [h2 b hf] at e
      exact s.fn.sm b o e
  · refine s.fn.cu.hs (fun b nb e => ?_) fun b ps e => ?_
    · rw [h2 b fun hf => nb (free b hf).2.2]
      exact e
    · by_cases hf : fz b
      · rw [h1 b (free b hf).1 hf] at e
        obtain ⟨i, hi, _, ⟨d, hd⟩, hv⟩ := hf
        obtain ⟨a, e1, _, _, _, e5⟩ := s.own i hi d hd
        rw [hv] at e1
        cases e1
        obtain ⟨u, hu, pl⟩ := e5.at_
        rw [hu] at e
        exact pl.1 ps (Option.some.inj e)
      · rw [h2 b hf] at e
        exact s.fn.cu.nt b ps e
  · by_cases hi2 : i ∈ ow
    · obtain ⟨a, e1, e2, e3, e4, e5⟩ := s.own i hi2 d e
      have hf : fz a := ⟨i, hi2, hi, ⟨_, e⟩, e1⟩
      obtain ⟨u, hu, _⟩ := e5.at_
      refine ⟨.ref a, e1, Rl.mono (H := upd Hs a u) (fun b o hb => ?_) d _ (e5.rl hu e2)⟩
      by_cases z : b = a
      · rw [z, upd_same] at hb
        rw [z, h1 a e2 hf, hu, ← hb]
      · rw [upd_ne z] at hb
        exact h3 b o hb
    · obtain ⟨v, e1, e2⟩ := s.sl.2 i d hi2 e
      exact ⟨v, e1, Rl.mono h3 d v e2⟩
  · obtain ⟨a, e1, e2, e3, e4, e5⟩ := s.own i (hw i hi) d hd
    refine ⟨a, e1, ?_, e3, e4, e5.mono h3 fun _ _ z => z⟩
    rw [h2 a ?_]
    · exact e2
    · rintro ⟨j, hj, hj2, ⟨d', hd'⟩, hv⟩
      exact s.dis i (hw i hi) j hj (fun z => hj2 (z ▸ hi)) _ _ a a hd hd' e1 hv rfl
  · by_cases hf : fz b
    · obtain ⟨i, hi, _, ⟨d, hd⟩, hv⟩ := hf
      exact ⟨i, hi, d, hd, hv⟩
    · exact absurd (h2 b hf) n
theorem Own1.no_tup {a : Addr} {d : D} (o : Own1 g Hs H a d) (xs : List V) : ¬ Rd H a (.tup xs) := by
  rintro (q | ⟨ob, q⟩)
  · rcases o with ⟨_, _, _, h, _⟩ | ⟨_, _, _, _, _, _, _, h, _⟩
    · rw [h] at q; cases q
    · rw [h] at q; cases q
  · rcases o with ⟨_, _, _, h, _⟩ | ⟨_, _, _, _, _, _, _, h, _⟩
    · rw [h] at q; cases q
    · rw [h] at q; cases q
end
section
variable {X : Cx} {g : Ga} {E : XK} {fx : List (Nat × V)} {Hs0 H0 : Hp} {ow ow' ow1 : List Nat} {m : PM D} {s : Stmt} {i : Nat}
open Classical in
theorem s_setOW (h : PS X s (tAsg (tEo g E ow1 m) (gName i))) (hw : ∀ k ∈ ow1, k ∈ ow := by decide) (hi : i ∉ ow := by decide) (hfx : ∀ v, (i, v) ∉ fx := by simp) : DS X g E fx Hs0 H0 ow (i :: ow) s (setSW i m) := by
  refine PS_imp h fun D σ H ⟨st, c, Hs, s, p⟩ => ?_
  obtain ⟨Hs1, e1, s1, ex⟩ := s.weak2 hw
  unfold setSW at p
  refine ⟨st, c, Hs1, s1.sl, s1.fn.sm, s1.fn.cu, ps_er2 s1.fn p fun d c2 Hs2 H2 _ F q a h1 h2 h3 h4 => ?_⟩
  split at q
  rotate_left
  · exact q.elim
  rename_i hflat
  let fz : Addr → Prop := fun b => ∃ j ∈ ow, ∃ d, st[j]? = some (some d) ∧ σ[j]? = some (some (.ref b))
  let Hs3 : Hp := fun b => if fz b then none else Hs2 b
  have n3 : ∀ b, ¬ fz b → Hs3 b = Hs2 b := fun b n => if_neg n
  have y3 : ∀ b, fz b → Hs3 b = none := fun b n => if_pos n
  have up3 : ∀ b o, Hs3 b = some o → Hs2 b = some o := fun b o e => by
    by_cases f : fz b
    · rw [y3 b f] at e; cases e
    · rw [← n3 b f]; exact e
  have free : ∀ b, fz b → Hs b = none ∧ Off g.pc b ∧ (∃ u, H b = some u ∧ Plain u) ∧ ∀ xs, ¬ Rd H b (.tup xs) := fun b ⟨j, hj, d, hd, hv⟩ => by
    obtain ⟨a, q1, q2, _, q4, q5⟩ := s.own j hj d hd
    rw [hv] at q1
    cases q1
    exact ⟨q2, q4, q5.at_, q5.no_tup⟩
  have F3 : Fn g.pc Hs H Hs3 H2 c2 := by
    refine ⟨fun b o e => ?_, F.bt, fun b o t e n => ?_, fun b o e => F.sm b o (up3 b o e), ?_⟩
    · have nf : ¬ fz b := fun f => by rw [(free b f).1] at e; cases e
      rw [n3 b nf]
      exact F.ss b o (e1 b o e)
    · by_cases f : fz b
      · exact y3 b f
      · rw [n3 b f]
        refine F.nw b o t e ?_
        by_cases z : Hs1 b = Hs b
        · rw [z]; exact n
        · exact absurd (ex b z) f
    · exact F.cu.hs (fun b _ e => by
        by_cases f : fz b
        · exact y3 b f
        · rw [n3 b f]; exact e) fun b ps e => F.cu.nt b ps (up3 b _ e)
  have hp3 : Hs3 a = none := by
    by_cases f : fz a
    · exact y3 a f
    · rw [n3 a f]; exact h2
  have tk : ∀ t xs, Rd Hs2 t (.tup xs) → Rd Hs3 t (.tup xs) := by
    intro t xs r
    have nf : ¬ fz t := fun f => by
      obtain ⟨_, off, ⟨u, hu, pu⟩, nt⟩ := free t f
      have hb := F.bt t u off pu.1 hu
      rcases r with r | ⟨ob, r⟩
      · have := F.sm t _ r
        rw [hb] at this
        exact nt xs (.inl (by rw [hu, this]))
      · have := F.sm t _ r
        rw [hb] at this
        exact nt xs (.inr ⟨ob, by rw [hu, this]⟩)
    rcases r with r | ⟨ob, r⟩
    · exact .inl (by rw [n3 t nf]; exact r)
    · exact .inr ⟨ob, by rw [n3 t nf]; exact r⟩
  have o4 : Own1 g Hs3 H2 a d := by
    rcases h4 with ⟨ds, vs, rfl, k2, k3, k4⟩ | ⟨C, ns, ds, dx, gs, rfl, _⟩
    · exact .inl ⟨ds, vs, rfl, k2, k3, noLs_rl tk ds vs hflat k4⟩
    · cases hflat
  exact q _ Hs3 H2 (s.take hi hfx F3 h1 hp3 h3 o4)
end
end L2.G
set_option Elab.async false
set_option linter.all false
set_option maxRecDepth 100000
set_option maxHeartbeats 2000000
namespace L2.G
open PySem PySem.Spec PyProof.Rows L2H
/-! {"k": i}, a dict of one whole number under a text -/
theorem d_dct1 {X : Cx} {g : Ga} {E : XK} {hid : List Nat} {pos p1 p2 : Pos} {j1 j2 : Nat} {k : Str} {i : Int} : DE X g E hid (.Dict [some (.Constant (.str k) j1 p1)] [.Constant (.int i) j2 p2] pos) (cD (.dct [.inr k] [.int i])) := by
  refine PE_imp (pe_disp (pps_cons (pe_str (x := k)) (pe_int (i := i)) pps_nil) rfl rfl (by simp) (by simp)) fun σ H Q ⟨st, c, Hs, sl, sm, cu, p⟩ => ?_
  intro q nq
  refine ⟨upd_same, [(.inr k, .int i)], rfl, by simp, ?_⟩
  have e : upd (upd H q (.dK [])) q (.dK (mergeK [] [(.inr k, .int i)])) = upd H q (.dK [(.inr k, .int i)]) := by
    funext b
    by_cases z : b = q
    · rw [z, upd_same, upd_same]; rfl
    · rw [upd_ne z, upd_ne z, upd_ne z]
  rw [e]
  exact p (upd Hs q (.dK [(.inr k, .int i)])) _ (Fn.new sm cu nq) _ (rl_dct.mpr ⟨q, [(.inr k, .int i)], rfl, upd_same, rfl, rll_cons.mpr ⟨_, _, rfl, rl_int.mpr rfl, rll_nil.mpr rfl⟩⟩)
end L2.G
set_option Elab.async false
set_option linter.all false
set_option maxRecDepth 100000
set_option maxHeartbeats 2000000
namespace L2.G
open PySem PySem.Spec PyProof.Rows L2H
/-! errors as values: C(e) -/
def tErrV (C : Addr) (fld : Str) (ta : TA) : TE := fun σ H Q => ta σ H fun vs H1 => ∃ y, vs = [y] ∧ ∀ a d, H1 a = none → H1 d = none → d ≠ a → Q (.ref a) (upd (upd H1 d (exd d [(fld, y)])) a (exo a C (some d)))
section
variable {X : Cx} {k j : Nat} {x fld : Str} {C : Addr} {e : Expr} {es : List Expr} {ta : TA} {p pos : Pos}
theorem pe_err (c : ErrC X.prog X.w X.K X.mg X.base k x C fld) (hr : Room j X.A) (hk : k + 1 ≤ j) (hg : Gl X x) (ha : PA X (e :: es) ta)
    (hdb : (x == ("__debug__" : Str)) = false := by decide) (hst : starEach (e :: es) X.env = (false, eval e X.env) :: starEach es X.env := by rfl) (hpl : (backTo pos (starEach es X.env)).any (·.1) = false := by rfl) :
    PE X (.Call (.Name x p) (e :: es) [] pos) (tErrV C fld ta) := by
  refine ⟨fun pins s σ H Q I h => ?_⟩
  obtain ⟨f, fd, ps, fI, tI, Fn, b⟩ := c.ex
  obtain ⟨B, nw, ini, tl, cs, nm, q, N, bs, sn, sub, ab, col, dd, k0, k1, k2, k3, k5, xb, look⟩ := c.oex.cls
  refine wpAny_Call_Name_kw (ld_glob I hg c.gl (PySem.W.callWith_K (h₀ := X.base) I.ok.mod.kin c.oex.kC (thn (ha.run pos pins s σ H _ I h) ?_) hst hpl) hdb)
  rintro us ⟨hp, g, dr, tk, os⟩ ⟨vs, H1, I1, r1, y, rfl, q1⟩
  refine ⟨I1.kIn, ?_⟩
  obtain ⟨u, rfl, ru⟩ := vals1 r1
  show wpAny _ _ (call (.ref C) [u]) _ _ _
  obtain ⟨a, ea⟩ : ∃ a, a = hp.objs.size + 1 := ⟨_, rfl⟩
  obtain ⟨hq, eq⟩ : ∃ hq, hq = (hp.push (PySem.W.kdv_tup [u])).push (PySem.HandSPX.excO C hp.objs.size) := ⟨_, rfl⟩
  have up : ∀ b o, hp.get? b = some o → hq.get? b = some o := fun b o z => by rw [eq]; exact Heap.get?_push_of_some _ (Heap.get?_push_of_some _ z)
  have there : hq.get? a = some (PySem.HandSPX.excO C hp.objs.size) := by
    rw [eq, ea]
    heap_get
  have ge : hp.objs.size ≤ a := by rw [ea]; exact Nat.le_succ _
  have na : H1 a = none := I1.hok.fresh ge
  have I2 : Inv X pins σ (upd H1 a (exo a C none)) ⟨hq, g, dr, tk, os⟩ := I1.laid (t' := tk) up ge (exo_ok there)
  have r2 : Vals [V.ref a, y] [Value.ref a, u] := .cons rfl (.cons ru .nil)
  have spec : spKeep X.K fld [.ref a, y] (upd H1 a (exo a C none))
      (fun v H2 => v = .non ∧ ∃ d, H1 d = none ∧ d ≠ a ∧ H2 = upd (upd (upd H1 a (exo a C none)) d (exd d [(fld, y)])) a (exo a C (some d))) (fun _ _ _ => False) :=
    ⟨a, C, y, rfl, c.oex, c.no, upd_same, fun d hd ne => ⟨rfl, d, by rwa [upd_ne ne] at hd, ne, rfl⟩⟩
  have ln : ([Value.ref a, u] ++ []).length = ps.length := by
    have z := Fn.len _ _ _ _ spec
    exact z
  have bb := b ⟨hq, g, dr, tk, os⟩ [Value.ref a, u] I2.kIn ln
  rw [List.append_nil] at bb
  refine wpAny_call (PySem.HandSPX.call_own xb.base (fun Y => refs_has Y tl cs) (I1.kIn _ _ look) (PySem.W.looks_findIn I1.kIn fI) (fun self => PySem.W.bind_fn I1.kIn self tI) (by rw [sizeLine_eq]; simp) ?_)
  rw [← eq, ← ea]
  refine codeAny_mono (Fn.run _ X.stack _ _ ⟨[Value.ref a, u], []⟩ [Value.ref a, u] _ _ _ ((hr.mono hk).make C [u] []) (I2.env0.make C [u] []) bb r2 spec) fun r s3 hr3 => ?_
  match r, hr3 with
  | .error _, z => exact (show False from z).elim
  | .ok .next, z => exact False.elim z
  | .ok .brk, z => exact False.elim z
  | .ok .cont, z => exact False.elim z
  | .ok (.ret z), hr3 =>
    obtain ⟨v, H2, J, rv, rfl, d, nd, ne, e2⟩ := I2.after hr3
    refine ⟨rv, .ref a, H2, J, rfl, ?_⟩
    have e3 : H2 = upd (upd H1 d (exd d [(fld, y)])) a (exo a C (some d)) := by
      rw [e2]
      funext b
      by_cases hb : b = a
      · rw [hb, upd_same, upd_same]
      · rw [upd_ne hb, upd_ne hb]
        by_cases hd : b = d
        · rw [hd, upd_same, upd_same]
        · rw [upd_ne hd, upd_ne hd, upd_ne hb]
    rw [e3]
    exact q1 a d na nd ne
end
/-- isinstance(x, c), x an error that is kept -/
def rIsV (K : PySem.W.Frag) : List V → Hp → VK → Prop := fun xs H Q => ∃ (a D : Addr) (od : Option Addr) (c : V) (cv : Value) (b : Bool), (od = none ∨ ∃ dd fs, od = some dd ∧ H dd = some (exd dd fs)) ∧ xs = [.ref a, c] ∧ H a = some (exo a D od) ∧ ExcC K D ∧ (∀ u, RelV c u → u = cv) ∧ PySem.W.kitOne K (.ref D) cv = some b ∧ Q (.bl b) H
theorem call_isV {X : Cx} : CallR X (.builtin "isinstance") (rIsV X.K) := by
  intro pins s σ H xs us Q I r h
  obtain ⟨a, D, od, c, cv, b, hd, rfl, ha, C, hcv, e, w⟩ := h
  obtain ⟨u, v, rfl, ru, rv⟩ := vals2 r
  cases (show u = Value.ref a from ru)
  cases hcv _ rv
  have ic : (PySem.W.clsIn X.K D).isSome = true := by
    obtain ⟨cd, z, _⟩ := PySem.W.any_some C.hd
    rw [z]
    rfl
  obtain ⟨t1, hg⟩ := exo_at I.hok ha
  have at_ : ∃ oe od', PySem.W.InstAt s.heap a oe D od' := by
    rcases hd with rfl | ⟨dd, fs, rfl, hh⟩
    · exact ⟨_, none, hg, rfl, rfl, trivial⟩
    · obtain ⟨mA, ns, _⟩ := exd_at I.hok hh
      obtain ⟨od', ho, _⟩ := lookIn_ns ns
      exact ⟨_, some od', hg, rfl, rfl, ho⟩
  obtain ⟨oe, od', at_⟩ := at_
  exact PySem.W.kia_one (PySem.W.kitx_exc ic C.hg C.hk C.hs C.ha C.hn C.ht C.hm) I.kIn at_ e (fun z => nomatch z) fun tk => ⟨.bl b, H, I.kept (t' := tk) fun _ _ z => z, rfl, w⟩
/-- x.f, x an error that is kept -/
def tXv (K : PySem.W.Frag) (n : Str) (te : TE) : TE := fun σ H Q => te σ H fun x H1 => ∃ (a C dd : Addr) (fs : List (Str × V)) (v : V), x = .ref a ∧ H1 a = some (exo a C (some dd)) ∧ H1 dd = some (exd dd fs) ∧ XfC K C ∧ PySem.W.findIn K (.ref C) n = some none ∧ fs.lookup n = some v ∧ Q v H1
theorem pe_xv {X : Cx} {e : Expr} {te : TE} {pos : Pos} {n : Str} (he : PE X e te) (hb : attributeBase e n X.env (eval e X.env) = eval e X.env := by rfl) : PE X (.Attribute e n pos) (tXv X.K n te) := by
  refine ⟨fun pins s σ H Q I h => ?_⟩
  refine attr_of hb (thn (he.run pins s σ H _ I h) fun u s1 hh => ?_)
  obtain ⟨x, H1, I1, rx, a, C, dd, fs, v, ex, ea, ed, T, hno, l, q⟩ := hh
  subst ex
  obtain rfl : u = Value.ref a := rx
  obtain ⟨t1, ha⟩ := exo_at I1.hok ea
  obtain ⟨mA, hns, hr⟩ := exd_at I1.hok ed
  obtain ⟨od, ho, hl⟩ := lookIn_ns hns
  obtain ⟨u, hu, ru⟩ := RelO.some_of (v := v) (o := mA n) (by rw [← l]; exact hr n)
  have J : PySem.W.InstAt s1.heap a { cls := .ref C, dict := some dd, data := .fields #[.ref t1, .none, .none, .none, .bool false, .none] } C (some od) := ⟨ha, rfl, rfl, ho⟩
  exact HandSPX.exc_get I1.kIn J T.ga T.gg T.exC (PySem.W.findObj_own T.hdC hno rfl (by rw [hl, hu])) (handed_of ru) ⟨v, H1, I1.tok _, ru, q⟩
/-! by data -/
def errD (C fld : Str) (m : PM D) : PM D := fun st c => (m st c).bind fun d c => .ok (.exc C [fld] [d]) c
theorem exd_tbl {e : Addr} {fs : List (Str × V)} {ps : Array Value} : exd e fs ≠ .tbl ps := fun z => by
  unfold exd at z
  cases z
theorem d_err {X : Cx} {g : Ga} {E : XK} {hid : List Nat} {k j : Nat} {x C fld : Str} {e : Expr} {me : PM D} {p pos : Pos} (c : ErrC X.prog X.w X.K X.mg X.base k x (g.cm C) fld) (hr : Room j X.A) (hk : k + 1 ≤ j) (hg : Gl X x) (he : DE X g E hid e me)
    (hdb : (x == ("__debug__" : Str)) = false := by decide) (hst : starEach [e] X.env = (false, eval e X.env) :: starEach [] X.env := by rfl) (hpl : (backTo pos (starEach [] X.env)).any (·.1) = false := by rfl) :
    DE X g E hid (.Call (.Name x p) [e] [] pos) (errD C fld me) := by
  refine PE_imp (pe_err c hr hk hg (pa_cons he pa_nil hst) hdb hst hpl) fun σ H Q ⟨st, c, Hs, sl, sm, cu, p⟩ => ⟨st, c, Hs, sl, sm, cu, (Post.bind p).mono fun y c1 Hs1 H1 _ F1 q v1 r1 => ⟨v1, rfl, fun a d na nd ne => ?_⟩⟩
  have Fd := Fn.new (o := exd d [(fld, v1)]) F1.sm F1.cu nd (fun ps => exd_tbl)
  have na2 : upd H1 d (exd d [(fld, v1)]) a = none := by rw [upd_ne (Ne.symm ne)]; exact na
  have Fa := Fn.new (o := exo a (g.cm C) (some d)) Fd.sm Fd.cu na2 (fun ps => exo_tbl)
  refine q _ _ (Fd.trans Fa) (.ref a) (rl_exc.mpr ⟨a, [(fld, v1)], rfl, .inr ⟨d, upd_same, ?_⟩, rfl, rll_cons.mpr ⟨v1, [], rfl, ?_, rll_nil.mpr rfl⟩⟩)
  · rw [upd_ne ne, upd_same]
  · exact Rl.mono (Fd.trans Fa).ss y v1 r1
/-- isinstance(m, c), m an error -/
def isXF (tb : Str → Option Bool) : D → Option D
  | .exc C _ _ => (tb C).map .bl
  | _ => none
def XT (K : PySem.W.Frag) (cm : Str → Addr) (cv : Value) (tb : Str → Option Bool) : Prop := ∀ C b, tb C = some b → ExcC K (cm C) ∧ PySem.W.kitOne K (.ref (cm C)) cv = some b
section
variable {X : Cx} {g : Ga} {E : XK} {hid : List Nat} {m : PM D} {e : Expr} {p p1 pos : Pos} {tb : Str → Option Bool}
theorem d_isX {x : Str} {c : V} {cv : Value} (hp : PE X (.Name x p1) (tC c)) (hcv : ∀ u, RelV c u → u = cv) (T : XT g.K g.cm cv tb) (hg : Gl X "isinstance") (hm : X.mg "isinstance" = none) (he : DE X g E hid e m)
    (hK : X.K = g.K := by rfl)
    (hs : starEach [e, .Name x p1] X.env = (false, eval e X.env) :: starEach [.Name x p1] X.env := by rfl) (hs2 : starEach [.Name x p1] X.env = (false, eval (.Name x p1) X.env) :: starEach [] X.env := by rfl) (hpl : (backTo pos (starEach [.Name x p1] X.env)).any (·.1) = false := by rfl) :
    DE X g E hid (.Call (.Name "isinstance" p) [e, .Name x p1] [] pos) (unD (isXF tb) m) := by
  refine PE_imp (pe_callB call_isV hg hm boot_isinstance (pa_cons he (pa_cons hp pa_nil hs2) hs) (by decide) (by decide) hs hpl) fun σ H Q ⟨st, c, Hs, sl, sm, cu, p⟩ => ⟨st, c, Hs, sl, sm, cu, (Post.bind p).mono fun x c1 Hs1 H1 _ F1 q v1 r1 => ?_⟩
  rw [hK]
  cases x with
  | exc C ns ds =>
    simp only [isXF] at q
    cases hb : tb C with
    | none => rw [hb] at q; exact q.elim
    | some b =>
      rw [hb] at q
      obtain ⟨h1, h2⟩ := T C b hb
      obtain ⟨a, fs, rfl, h3, _⟩ := rl_exc.mp r1
      have w := q Hs1 H1 (Fn.refl F1.sm F1.cu) _ (rl_bl.mpr rfl)
      rcases h3 with ⟨_, h4⟩ | ⟨dx, h4, h5⟩
      · exact ⟨a, g.cm C, none, _, cv, b, .inl rfl, rfl, F1.sm _ _ h4, h1, hcv, h2, w⟩
      · exact ⟨a, g.cm C, some dx, _, cv, b, .inr ⟨dx, fs, rfl, F1.sm _ _ h5⟩, rfl, F1.sm _ _ h4, h1, hcv, h2, w⟩
  | _ => exact q.elim
theorem d_isXT {x : Str} {T : String} (t : XT g.K g.cm (.type T) tb) (hg : Gl X "isinstance") (hm : X.mg "isinstance" = none) (he : DE X g E hid e m) (hgT : Gl X x) (hmT : X.mg x = none) (hvT : bootBuiltins x = some (.type T))
    (hK : X.K = g.K := by rfl) (hn : x ≠ "__name__" := by decide) (hd : (x == ("__debug__" : Str)) = false := by decide)
    (hs : starEach [e, .Name x p1] X.env = (false, eval e X.env) :: starEach [.Name x p1] X.env := by rfl) (hs2 : starEach [.Name x p1] X.env = (false, eval (.Name x p1) X.env) :: starEach [] X.env := by rfl) (hpl : (backTo pos (starEach [.Name x p1] X.env)).any (·.1) = false := by rfl) :
    DE X g E hid (.Call (.Name "isinstance" p) [e, .Name x p1] [] pos) (unD (isXF tb) m) := d_isX (pe_bltn (v := .ty T) hgT hmT hvT rfl hn hd) (fun u h => h) t hg hm he hK hs hs2 hpl
theorem d_isXC {x : Str} {a : Addr} (t : XT g.K g.cm (.ref a) tb) (hg : Gl X "isinstance") (hm : X.mg "isinstance" = none) (he : DE X g E hid e m) (hgT : Gl X x) (hmT : X.mg x = some (.ref a))
    (hK : X.K = g.K := by rfl) (hd : (x == ("__debug__" : Str)) = false := by decide)
    (hs : starEach [e, .Name x p1] X.env = (false, eval e X.env) :: starEach [.Name x p1] X.env := by rfl) (hs2 : starEach [.Name x p1] X.env = (false, eval (.Name x p1) X.env) :: starEach [] X.env := by rfl) (hpl : (backTo pos (starEach [.Name x p1] X.env)).any (·.1) = false := by rfl) :
    DE X g E hid (.Call (.Name "isinstance" p) [e, .Name x p1] [] pos) (unD (isXF tb) m) := d_isX (pe_glob (v := .ref a) hgT hmT rfl hd) (fun u h => h) t hg hm he hK hs hs2 hpl
/-- m.f, m an error -/
def xfF (tbl : List Str) (f : Str) : D → Option D
  | .exc C ns ds => if C ∈ tbl then (ns.zip ds).lookup f else none
  | _ => none
def XF (K : PySem.W.Frag) (cm : Str → Addr) (tbl : List Str) (f : Str) : Prop := ∀ C ∈ tbl, XfC K (cm C) ∧ PySem.W.findIn K (.ref (cm C)) f = some none
theorem d_xf {f : Str} {tbl : List Str} (T : XF g.K g.cm tbl f) (he : DE X g E hid e m) (hK : X.K = g.K := by rfl) (hb : attributeBase e f X.env (eval e X.env) = eval e X.env := by rfl) : DE X g E hid (.Attribute e f pos) (unD (xfF tbl f) m) := by
  refine PE_imp (pe_xv he hb) fun σ H Q ⟨st, c, Hs, sl, sm, cu, p⟩ => ⟨st, c, Hs, sl, sm, cu, (Post.bind p).mono fun x c1 Hs1 H1 _ F1 q v1 r1 => ?_⟩
  rw [hK]
  cases x with
  | exc C ns ds =>
    unfold xfF at q
    dsimp only at q
    split at q
    · rename_i h
      cases hl : (ns.zip ds).lookup f with
      | none => rw [hl] at q; exact q.elim
      | some d =>
        rw [hl] at q
        obtain ⟨a, fs, rfl, h3, h4, h5⟩ := rl_exc.mp r1
        obtain ⟨v, e1, e2⟩ := (lookup_of h4 h5).2 d hl
        obtain ⟨h1, h2⟩ := T C h
        rcases h3 with ⟨h6, _⟩ | ⟨dx, h6, h7⟩
        · rw [h6] at e1
          cases e1
        · exact ⟨a, _, dx, fs, v, rfl, F1.sm _ _ h6, F1.sm _ _ h7, h1, h2, e1, q Hs1 H1 (Fn.refl F1.sm F1.cu) v e2⟩
    · exact q.elim
  | _ => exact q.elim
end
end L2.G
set_option Elab.async false
set_option linter.all false
set_option maxRecDepth 100000
set_option maxHeartbeats 2000000
namespace PySem.HandSPX
open PySem.W PySem.Calls Builtin Builtin.ObjectAttr
section
variable {M : Model} {A : Around} {E : Value → Shared → Prop} {h : Heap} {g : Array GenState} {d : Drawn} {t : Nat} {os : OsState}
variable {nm q : Str} {C N : Addr} {bs bm bmB : List Value} {hdct : Bool} {sn : List Str} {sub : List Value} {ab : Bool} {col : Option Bool} {dd : Option Addr} {k0 k1 k2 k3 k5 : Option Value} {B newId initId : String}
theorem check_new_ownK (F : ExcBaseFacts B newId initId bmB) (hT : ∀ X : String, bm.contains (.type X) = bmB.contains (.type X)) {n : Str} {v : Value} {Q : Unit → Shared → Prop}
    (hC : h.get? C = some (excClassObj nm q C N bs bm hdct sn sub ab col dd k0 k1 k2 k3 k5 newId)) (hq : Q () ⟨h, g, d, t, os⟩) : wpAny M A (checkBuiltinCall newId ⟨[.ref C], [(n, v)]⟩) Q E ⟨h, g, d, t, os⟩ := by
  have hcont : (Value.ref C :: bm).contains (.type B) = true := by rw [List.contains_cons, hT, F.hasB, Bool.or_true]
  have hstar := F.noStar
  simp only [checkBuiltinCall, F.newKind, F.newSplit, F.newRow]
  repeat (first | refine wpAny_loadPart_at hC ?_ | (refine wpAny_isSubtype_exc hC ?_; rw [hcont]) | refine wpAny_staticBase_exc hC ?_ | refine wpAny_madeBy_exc hC ?_ | simp only [bne_self_eq_false, Bool.false_eq_true, if_false] | wp_step)
  exact hq
end
section
variable {prog : Program} {w : World} {A : Around} {E : Value → Shared → Prop} {R : Result → Shared → Prop} {h : Heap} {g : Array GenState} {d : Drawn} {t : Nat} {os : OsState}
variable {nm q : Str} {C N : Addr} {bs bm bmB : List Value} {hdct : Bool} {sn : List Str} {sub : List Value} {ab : Bool} {col : Option Bool} {dd : Option Addr} {k0 k1 k2 k3 k5 : Option Value} {B newId initId : String} {n : Str} {v : Value}
theorem new_ownK (F : ExcBaseFacts B newId initId bmB) (hT : ∀ X : String, bm.contains (.type X) = bmB.contains (.type X))
    (hC : h.get? C = some (excClassObj nm q C N bs bm hdct sn sub ab col dd k0 k1 k2 k3 k5 newId))
    (hq : R (.ok (.ret (.ref (h.objs.size + 1)))) ⟨(h.push { cls := .type "tuple", data := .seq #[] }).push
      { cls := .ref C, data := .fields #[.ref h.objs.size, .none, .none, .none, .bool false, .none] }, g, d, t, os⟩) :
    codeAny (model prog w) A (.builtin newId ⟨[.ref C], [(n, v)]⟩) R ⟨h, g, d, t, os⟩ := by
  have hends := F.ends
  have hcB : (Value.ref C :: bm).contains (.type B) = true := by rw [List.contains_cons, hT, F.hasB, Bool.or_true]
  have hcA : (Value.ref C :: bm).contains (.type "AttributeError") = false := by rw [List.contains_cons, hT, F.noAttr]; rfl
  have hcN : (Value.ref C :: bm).contains (.type "NameError") = false := by rw [List.contains_cons, hT, F.noName]; rfl
  refine codeAny_builtinAt F.entry ?_
  unfold Builtin.«BaseException.__new__»
  refine wpAt_bind ?_
  show wpAt _ _ _ (stack >>= _) _ _ _
  refine wpAt_bind (wpAt_stack fun p below => wpAt_of_wpAny ?_)
  wp_walk
  refine wpAt_of_wpAny ?_
  rw [F.owner]
  repeat (first | with_reducible refine wpAny_madeHere_exc F.canon hC ?_ | with_reducible refine wpAny_loadPart_at hC ?_ | (with_reducible refine wpAny_isSubtype_exc hC ?_; first | rw [hcB] | rw [hcA] | rw [hcN]) | wp_step)
  show R _ _
  rw [Heap.size_push]
  exact hq
theorem type_call_ownK (F : ExcBaseFacts B newId initId bmB) (hT : ∀ X : String, bm.contains (.type X) = bmB.contains (.type X)) {fI : Addr} {Q : Fin → Shared → Prop}
    (hC : h.get? C = some (excClassObj nm q C N bs bm hdct sn sub ab col dd k0 k1 k2 k3 k5 newId))
    (hi : W.Looks (model prog w) h (typeLookup (.ref C) "__init__") (some (.ref fI))) (hb : ∀ self, W.Looks (model prog w) h (bindSpecial (.ref fI) self) (.ref fI, [self]))
    (hq : codeAny (model prog w) A (.call (.ref fI) ⟨[.ref (h.objs.size + 1)], [(n, v)]⟩)
      (fun r s' => match r with | .ok (.ret v) => v = .none ∧ Q (.done (.ret (.ref (h.objs.size + 1)))) s' | .ok _ => False | .error e => E e s')
      ⟨(h.push (W.kdv_tup [])).push (excO C h.objs.size), g, d, t, os⟩) :
    wpAny (model prog w) A (Builtin.«type.__call__» ⟨[.ref C], [(n, v)]⟩) Q E ⟨h, g, d, t, os⟩ := by
  repeat (first | with_reducible refine wpAny_loadPart_at hC ?_ | with_reducible refine wpAny_madeBy_exc hC ?_ | wp_step)
  refine codeAny_call_builtin_code (Code.quiet_builtin _ F.quiet) (check_new_ownK F hT hC ?_)
  refine new_ownK F hT hC ?_
  show wpAny _ _ _ _ _ _
  have k : ∀ b o, h.get? b = some o → ((h.push (W.kdv_tup [])).push (excO C h.objs.size)).get? b = some o := fun b o e => Heap.get?_push_of_some _ (Heap.get?_push_of_some _ e)
  have hC₁ := k _ _ hC
  have hget : ((h.push (W.kdv_tup [])).push (excO C h.objs.size)).get? (h.objs.size + 1) = some (excO C h.objs.size) := by heap_get
  have hcC : (Value.ref C :: bm).contains (.ref C) = true := by simp
  have i1 := hi.keeps k
  have b1 := (hb (.ref (h.objs.size + 1))).keeps k
  unfold isInstance
  repeat (first | with_reducible refine wpAny_loadPart_at hget ?_ | (with_reducible refine wpAny_isSubtype_exc hC₁ ?_; rw [hcC]) | wp_step)
  show wpAny _ _ (typeLookup (.ref C) _) _ _ _
  refine i1.at ?_
  refine wpAny_holding (wpAny_bind (b1.at ?_))
  refine wpAny_bind (wpAny_call (codeAny_mono hq fun r s' z => ?_))
  rcases r with e | (v | _ | _ | _) <;> first | exact z | exact z.elim | skip
  obtain ⟨rfl, z⟩ := z
  first
    | exact wpAny_pure (wpAny_pure z)
    | (wp_walk; exact z)
theorem call_ownK (F : ExcBaseFacts B newId initId bmB) (hT : ∀ X : String, bm.contains (.type X) = bmB.contains (.type X)) {fI : Addr}
    (hC : h.get? C = some (excClassObj nm q C N bs bm hdct sn sub ab col dd k0 k1 k2 k3 k5 newId))
    (hi : W.Looks (model prog w) h (typeLookup (.ref C) "__init__") (some (.ref fI))) (hb : ∀ self, W.Looks (model prog w) h (bindSpecial (.ref fI) self) (.ref fI, [self]))
    (hq : codeAny (model prog w) (A.under (.builtin "type.__call__" ⟨[.ref C], [(n, v)]⟩)) (.call (.ref fI) ⟨[.ref (h.objs.size + 1)], [(n, v)]⟩) (W.InitBack (h.objs.size + 1) R)
      ⟨(h.push (W.kdv_tup [])).push (excO C h.objs.size), g, d, t, os⟩) :
    codeAny (model prog w) A (.call (.ref C) ⟨[], [(n, v)]⟩) R ⟨h, g, d, t, os⟩ := by
  have f1 := tc_lookup
  have f2 := tc_bind (.ref C)
  have hTy : (⟨h, g, d, t, os⟩ : Shared).TypeIs (.ref C) "type" := ⟨_, hC, rfl⟩
  refine codeAny_of_tree ?_
  show wpAny _ _ (callAny (.ref C) _) _ _ _
  repeat (any_goals (first | assumption | with_reducible refine wpAny_loadPart_at hC ?_ | wp_step))
  refine ⟨rfl, ?_⟩
  refine codeAny_call_builtin_at (Code.quiet_builtin _ (by decide +kernel)) entry_typeCall (wpAny_check_type_call_sub hC (type_call_ownK F hT hC hi hb ?_))
  refine codeAny_mono hq fun r s' z => ?_
  rcases r with e | (v | _ | _ | _) <;> exact z
end
end PySem.HandSPX
set_option Elab.async false
set_option linter.all false
set_option maxRecDepth 100000
set_option maxHeartbeats 2000000
namespace L2.G
open PySem PySem.Spec PyProof.Rows L2H
/-! errors as values: C(k = e); C(), C over a base whose __init__ does nothing -/
structure ErrK (P : Program) (w : World) (K : PySem.W.Frag) (mg : Str → Option Value) (base : Heap) (k : Nat) (x : Str) (C : Addr) (fld : Str) : Prop where
  oex : OexA K C
  no : PySem.W.findIn K (.ref C) fld = some none
  gl : mg x = some (.ref C)
  ex : ∃ (f : Addr) (fd : FuncData) (ps : List Str), PySem.W.findIn K (.ref C) "__init__" = some (some (.ref f)) ∧ PySem.W.typeIn K (.ref f) = some (.type "function") ∧ FnOk P w K mg base CX0 k f fd ps (spKeep K fld) ∧ KBn K fd ps 1 [fld] (fun us ws => us ++ ws) (fun vs zs => vs ++ zs)
section
variable {X : Cx} {k j : Nat} {x fld : Str} {C : Addr} {kws : List Keyword} {tk : TA} {p pos : Pos}
theorem pe_errK (c : ErrK X.prog X.w X.K X.mg X.base k x C fld) (hr : Room j X.A) (hk : k + 1 ≤ j) (hg : Gl X x) (hkw : PK X kws tk)
    (hall : (backToKw pos (keywordEach kws X.env)).all (·.1.isSome) = true := by rfl) (hks : (backToKw pos (keywordEach kws X.env)).filterMap (·.1) = [fld] := by rfl) (hdb : (x == ("__debug__" : Str)) = false := by decide)
    (hpl : ((backTo pos (starEach [] X.env)).any (·.1) || (backToKw pos (keywordEach kws X.env)).any (·.1.isNone)) = false := by rfl) :
    PE X (.Call (.Name x p) [] kws pos) (tErrV C fld tk) := by
  refine ⟨fun pins s σ H Q I h => ?_⟩
  obtain ⟨f, fd, ps, fI, tI, Fn, b⟩ := c.ex
  obtain ⟨B, nw, ini, tl, cs, nm, q, N, bs, sn, sub, ab, col, dd, k0, k1, k2, k3, k5, xb, look⟩ := c.oex.cls
  refine wpAny_Call_Name_kw (ld_glob I hg c.gl ?_ hdb)
  refine PySem.W.callWith_KW0 (h₀ := X.base) I.ok.mod.kin c.oex.kC hall ?_ hpl
  refine thn (hkw.run pos pins s σ H _ I h) ?_
  rintro us ⟨hp, g, dr, tk, os⟩ ⟨vs, H1, I1, r1, y, rfl, q1⟩
  refine ⟨I1.kIn, ?_⟩
  rw [hks]
  obtain ⟨u, rfl, ru⟩ := vals1 r1
  show wpAny _ _ (call (.ref C) [] [(fld, u)]) _ _ _
  obtain ⟨a, ea⟩ : ∃ a, a = hp.objs.size + 1 := ⟨_, rfl⟩
  obtain ⟨hq, eq⟩ : ∃ hq, hq = (hp.push (PySem.W.kdv_tup [])).push (PySem.HandSPX.excO C hp.objs.size) := ⟨_, rfl⟩
  have up : ∀ b o, hp.get? b = some o → hq.get? b = some o := fun b o z => by rw [eq]; exact Heap.get?_push_of_some _ (Heap.get?_push_of_some _ z)
  have there : hq.get? a = some (PySem.HandSPX.excO C hp.objs.size) := by
    rw [eq, ea]
    heap_get
  have ge : hp.objs.size ≤ a := by rw [ea]; exact Nat.le_succ _
  have na : H1 a = none := I1.hok.fresh ge
  have I2 : Inv X pins σ (upd H1 a (exo a C none)) ⟨hq, g, dr, tk, os⟩ := I1.laid (t' := tk) up ge (exo_ok there)
  have r2 : Vals [V.ref a, y] [Value.ref a, u] := .cons rfl (.cons ru .nil)
  have spec : spKeep X.K fld [.ref a, y] (upd H1 a (exo a C none))
      (fun v H2 => v = .non ∧ ∃ d, H1 d = none ∧ d ≠ a ∧ H2 = upd (upd (upd H1 a (exo a C none)) d (exd d [(fld, y)])) a (exo a C (some d))) (fun _ _ _ => False) :=
    ⟨a, C, y, rfl, c.oex, c.no, upd_same, fun d hd ne => ⟨rfl, d, by rwa [upd_ne ne] at hd, ne, rfl⟩⟩
  have bb := b.to ⟨hq, g, dr, tk, os⟩ [Value.ref a] [u] I2.kIn rfl rfl
  refine wpAny_call (PySem.HandSPX.call_ownK xb.base (fun Y => refs_has Y tl cs) (I1.kIn _ _ look) (PySem.W.looks_findIn I1.kIn fI) (fun self => PySem.W.bind_fn I1.kIn self tI) ?_)
  rw [← eq, ← ea]
  refine codeAny_mono (Fn.run _ X.stack _ _ ⟨[Value.ref a], [(fld, u)]⟩ [Value.ref a, u] _ _ _ ((hr.mono hk).make C [] [(fld, u)]) (I2.env0.make C [] [(fld, u)]) bb r2 spec) fun r s3 hr3 => ?_
  match r, hr3 with
  | .error _, z => exact (show False from z).elim
  | .ok .next, z => exact False.elim z
  | .ok .brk, z => exact False.elim z
  | .ok .cont, z => exact False.elim z
  | .ok (.ret z), hr3 =>
    obtain ⟨v, H2, J, rv, rfl, d, nd, ne, e2⟩ := I2.after hr3
    refine ⟨rv, .ref a, H2, J, rfl, ?_⟩
    have e3 : H2 = upd (upd H1 d (exd d [(fld, y)])) a (exo a C (some d)) := by
      rw [e2]
      funext b
      by_cases hb : b = a
      · rw [hb, upd_same, upd_same]
      · rw [upd_ne hb, upd_ne hb]
        by_cases hd : b = d
        · rw [hd, upd_same, upd_same]
        · rw [upd_ne hd, upd_ne hd, upd_ne hb]
    rw [e3]
    exact q1 a d na nd ne
end
theorem d_errK {X : Cx} {g : Ga} {E : XK} {hid : List Nat} {k j : Nat} {x C fld : Str} {e : Expr} {me : PM D} {p pos kpos : Pos} (c : ErrK X.prog X.w X.K X.mg X.base k x (g.cm C) fld) (hr : Room j X.A) (hk : k + 1 ≤ j) (hg : Gl X x) (he : DE X g E hid e me)
    (hall : (backToKw pos (keywordEach [⟨some fld, e, kpos⟩] X.env)).all (·.1.isSome) = true := by rfl) (hks : (backToKw pos (keywordEach [⟨some fld, e, kpos⟩] X.env)).filterMap (·.1) = [fld] := by rfl) (hdb : (x == ("__debug__" : Str)) = false := by decide)
    (hpl : ((backTo pos (starEach [] X.env)).any (·.1) || (backToKw pos (keywordEach [⟨some fld, e, kpos⟩] X.env)).any (·.1.isNone)) = false := by rfl) :
    DE X g E hid (.Call (.Name x p) [] [⟨some fld, e, kpos⟩] pos) (errD C fld me) := by
  refine PE_imp (pe_errK c hr hk hg (pk_cons he pk_nil) hall hks hdb hpl) fun σ H Q ⟨st, c, Hs, sl, sm, cu, p⟩ => ⟨st, c, Hs, sl, sm, cu, (Post.bind p).mono fun y c1 Hs1 H1 _ F1 q v1 r1 => ⟨v1, rfl, fun a d na nd ne => ?_⟩⟩
  have Fd := Fn.new (o := exd d [(fld, v1)]) F1.sm F1.cu nd (fun ps => exd_tbl)
  have na2 : upd H1 d (exd d [(fld, v1)]) a = none := by rw [upd_ne (Ne.symm ne)]; exact na
  have Fa := Fn.new (o := exo a (g.cm C) (some d)) Fd.sm Fd.cu na2 (fun ps => exo_tbl)
  refine q _ _ (Fd.trans Fa) (.ref a) (rl_exc.mpr ⟨a, [(fld, v1)], rfl, .inr ⟨d, upd_same, ?_⟩, rfl, rll_cons.mpr ⟨v1, [], rfl, ?_, rll_nil.mpr rfl⟩⟩)
  · rw [upd_ne ne, upd_same]
  · exact Rl.mono (Fd.trans Fa).ss y v1 r1
end L2.G
set_option Elab.async false
set_option linter.all false
set_option maxRecDepth 100000
set_option maxHeartbeats 2000000
namespace L2.G
open PySem PySem.Spec PyProof.Rows L2H
/-! C(), C an error whose __init__ (its base's) does nothing -/
def spPass : Sp := fun vs H Q _ => vs.length = 1 ∧ Q .non H
structure Err0 (P : Program) (w : World) (K : PySem.W.Frag) (mg : Str → Option Value) (base : Heap) (k : Nat) (x : Str) (C : Addr) : Prop where
  oex : OexA K C
  gl : mg x = some (.ref C)
  ex : ∃ (f : Addr) (fd : FuncData) (ps : List Str), PySem.W.findIn K (.ref C) "__init__" = some (some (.ref f)) ∧ PySem.W.typeIn K (.ref f) = some (.type "function") ∧ FnOk P w K mg base CX0 k f fd ps spPass ∧ Binds K fd ps []
def tErr0 (C : Addr) : TE := fun σ H Q => ∀ a, H a = none → Q (.ref a) (upd H a (exo a C none))
theorem pe_err0 {X : Cx} {k j : Nat} {x : Str} {C : Addr} {p pos : Pos} (c : Err0 X.prog X.w X.K X.mg X.base k x C) (hr : Room j X.A) (hk : k + 1 ≤ j) (hg : Gl X x)
    (hall : (backToKw pos (keywordEach [] X.env)).all (·.1.isSome) = true := by rfl) (hks : (backToKw pos (keywordEach [] X.env)).filterMap (·.1) = [] := by rfl) (hdb : (x == ("__debug__" : Str)) = false := by decide)
    (hpl : ((backTo pos (starEach [] X.env)).any (·.1) || (backToKw pos (keywordEach [] X.env)).any (·.1.isNone)) = false := by rfl) :
    PE X (.Call (.Name x p) [] [] pos) (tErr0 C) := by
  refine ⟨fun pins s σ H Q I h => ?_⟩
  obtain ⟨f, fd, ps, fI, tI, Fn, b⟩ := c.ex
  obtain ⟨B, nw, ini, tl, cs, nm, q, N, bs, sn, sub, ab, col, dd, k0, k1, k2, k3, k5, xb, look⟩ := c.oex.cls
  refine wpAny_Call_Name_kw (ld_glob I hg c.gl ?_ hdb)
  refine PySem.W.callWith_KW0 (h₀ := X.base) I.ok.mod.kin c.oex.kC hall ?_ hpl
  refine thn (pk_nil.run pos pins s σ H (fun vs H1 => vs = [] ∧ tErr0 C σ H1 Q) I ⟨rfl, h⟩) ?_
  rintro us ⟨hp, g, dr, tk, os⟩ ⟨vs, H1, I1, r1, rfl, q1⟩
  refine ⟨I1.kIn, ?_⟩
  rw [hks]
  cases r1
  show wpAny _ _ (call (.ref C) [] []) _ _ _
  obtain ⟨a, ea⟩ : ∃ a, a = hp.objs.size + 1 := ⟨_, rfl⟩
  obtain ⟨hq, eq⟩ : ∃ hq, hq = (hp.push (PySem.W.kdv_tup [])).push (PySem.HandSPX.excO C hp.objs.size) := ⟨_, rfl⟩
  have up : ∀ b o, hp.get? b = some o → hq.get? b = some o := fun b o z => by rw [eq]; exact Heap.get?_push_of_some _ (Heap.get?_push_of_some _ z)
  have there : hq.get? a = some (PySem.HandSPX.excO C hp.objs.size) := by
    rw [eq, ea]
    heap_get
  have ge : hp.objs.size ≤ a := by rw [ea]; exact Nat.le_succ _
  have na : H1 a = none := I1.hok.fresh ge
  have I2 : Inv X pins σ (upd H1 a (exo a C none)) ⟨hq, g, dr, tk, os⟩ := I1.laid (t' := tk) up ge (exo_ok there)
  have r2 : Vals [V.ref a] [Value.ref a] := .cons rfl .nil
  have spec : spPass [.ref a] (upd H1 a (exo a C none)) (fun v H2 => v = .non ∧ H2 = upd H1 a (exo a C none)) (fun _ _ _ => False) := ⟨rfl, rfl, rfl⟩
  have ln : ([Value.ref a] ++ []).length = ps.length := by
    have z := Fn.len _ _ _ _ spec
    exact z
  have bb := b ⟨hq, g, dr, tk, os⟩ [Value.ref a] I2.kIn ln
  rw [List.append_nil] at bb
  refine wpAny_call (PySem.HandSPX.call_own xb.base (fun Y => refs_has Y tl cs) (I1.kIn _ _ look) (PySem.W.looks_findIn I1.kIn fI) (fun self => PySem.W.bind_fn I1.kIn self tI) (by rw [sizeLine_eq]; simp) ?_)
  rw [← eq, ← ea]
  refine codeAny_mono (Fn.run _ X.stack _ _ ⟨[Value.ref a], []⟩ [Value.ref a] _ _ _ ((hr.mono hk).make C [] []) (I2.env0.make C [] []) bb r2 spec) fun r s3 hr3 => ?_
  match r, hr3 with
  | .error _, z => exact (show False from z).elim
  | .ok .next, z => exact False.elim z
  | .ok .brk, z => exact False.elim z
  | .ok .cont, z => exact False.elim z
  | .ok (.ret z), hr3 =>
    obtain ⟨v, H2, J, rv, rfl, e2⟩ := I2.after hr3
    subst e2
    exact ⟨rv, .ref a, _, J, rfl, q1 a na⟩
theorem d_err0 {X : Cx} {g : Ga} {E : XK} {hid : List Nat} {k j : Nat} {x C : Str} {p pos : Pos} (c : Err0 X.prog X.w X.K X.mg X.base k x (g.cm C)) (hr : Room j X.A) (hk : k + 1 ≤ j) (hg : Gl X x)
    (hall : (backToKw pos (keywordEach [] X.env)).all (·.1.isSome) = true := by rfl) (hks : (backToKw pos (keywordEach [] X.env)).filterMap (·.1) = [] := by rfl) (hdb : (x == ("__debug__" : Str)) = false := by decide)
    (hpl : ((backTo pos (starEach [] X.env)).any (·.1) || (backToKw pos (keywordEach [] X.env)).any (·.1.isNone)) = false := by rfl) :
    DE X g E hid (.Call (.Name x p) [] [] pos) (cD (.exc C [] [])) := by
  refine PE_imp (pe_err0 c hr hk hg hall hks hdb hpl) fun σ H Q ⟨st, c, Hs, sl, sm, cu, p⟩ => fun a na => ?_
  exact p _ _ (Fn.new (o := exo a (g.cm C) none) sm cu na (fun ps => exo_tbl)) (.ref a) (rl_exc.mpr ⟨a, [], rfl, .inl ⟨rfl, upd_same⟩, rfl, rll_nil.mpr rfl⟩)
end L2.G
set_option Elab.async false
set_option linter.all false
set_option maxRecDepth 100000
set_option maxHeartbeats 4000000
namespace L2.G
open PySem PySem.Spec PyProof.Rows L2H LamX
def errTab (C : Str) : Option (Nat × List Nat) := (([("Broken", (22, [32, 35])), ("InUse", (19, [31, 34])), ("InvalidClaim", (10, [30, 33])), ("InvalidDead", (13, [30, 33])), ("InvalidDeeds", (17, [30, 33])), ("InvalidGroups", (15, [30, 33])), ("InvalidIndex", (11, [30, 33])), ("InvalidLength", (6, [30, 33])), ("InvalidLine", (12, [30, 33])), ("InvalidName", (9, [30, 33])), ("InvalidPace", (3, [30, 33])), ("InvalidPaces", (14, [30, 33])), ("InvalidPlace", (5, [30, 33])), ("InvalidText", (2, [30, 33])), ("InvalidTime", (7, [30, 33])), ("InvalidTimes", (16, [30, 33])), ("InvalidWidth", (4, [30, 33])), ("InvalidWindow", (8, [30, 33])), ("NotARecord", (1, [30, 33])), ("NotASign", (0, [30, 33])), ("OtherKind", (21, [32, 35])), ("TooMany", (20, [32, 35])), ("UnknownName", (18, [31, 34]))] : List (Str × (Nat × List Nat))).lookup C)
def excTab : List (Str × List Str) := [("NotASign", ["NotASign", "WrongValue", "ValueError"]), ("NotARecord", ["NotARecord", "WrongValue", "ValueError"]), ("InvalidText", ["InvalidText", "WrongValue", "ValueError"]), ("InvalidPace", ["InvalidPace", "WrongValue", "ValueError"]), ("InvalidWidth", ["InvalidWidth", "WrongValue", "ValueError"]), ("InvalidPlace", ["InvalidPlace", "WrongValue", "ValueError"]), ("InvalidLength", ["InvalidLength", "WrongValue", "ValueError"]), ("InvalidTime", ["InvalidTime", "WrongValue", "ValueError"]), ("InvalidWindow", ["InvalidWindow", "WrongValue", "ValueError"]), ("InvalidName", ["InvalidName", "WrongValue", "ValueError"]), ("InvalidClaim", ["InvalidClaim", "WrongValue", "ValueError"]), ("InvalidIndex", ["InvalidIndex", "WrongValue", "ValueError"]), ("InvalidLine", ["InvalidLine", "WrongValue", "ValueError"]), ("InvalidDead", ["InvalidDead", "WrongValue", "ValueError"]), ("InvalidPaces", ["InvalidPaces", "WrongValue", "ValueError"]), ("InvalidGroups", ["InvalidGroups", "WrongValue", "ValueError"]), ("InvalidTimes", ["InvalidTimes", "WrongValue", "ValueError"]), ("InvalidDeeds", ["InvalidDeeds", "WrongValue", "ValueError"]), ("UnknownName", ["UnknownName", "WrongName", "LookupError"]), ("InUse", ["InUse", "WrongName", "LookupError"]), ("TooMany", ["TooMany", "NoAnswer", "ArithmeticError"]), ("OtherKind", ["OtherKind", "NoAnswer", "ArithmeticError"]), ("Broken", ["Broken", "NoAnswer", "ArithmeticError"]), ("NothingToUndo", ["NothingToUndo", "NoAnswer", "ArithmeticError"]), ("WrongValue", ["WrongValue", "ValueError"]), ("WrongName", ["WrongName", "LookupError"]), ("NoAnswer", ["NoAnswer", "ArithmeticError"])]
def isTab (c : Str) : Str → Option Bool := fun C => (excTab.lookup C).map fun l => decide (c ∈ l)
def tgs : List Str := ["NotASign", "NotARecord", "InvalidText", "InvalidPace", "InvalidWidth", "InvalidPlace", "InvalidLength", "InvalidTime", "InvalidWindow", "InvalidName", "InvalidClaim", "InvalidIndex", "InvalidLine", "InvalidDead", "InvalidPaces", "InvalidGroups", "InvalidTimes", "InvalidDeeds", "UnknownName", "InUse", "TooMany", "OtherKind", "Broken", "NothingToUndo", "WrongValue", "WrongName", "NoAnswer", "ValueError", "LookupError", "ArithmeticError"]
def bsOf (l : List Str) : List Bool := tgs.map fun c => decide (c ∈ l)
def vsOf (f : Str → Addr) : List Value := [.ref (f "NotASign"), .ref (f "NotARecord"), .ref (f "InvalidText"), .ref (f "InvalidPace"), .ref (f "InvalidWidth"), .ref (f "InvalidPlace"), .ref (f "InvalidLength"), .ref (f "InvalidTime"), .ref (f "InvalidWindow"), .ref (f "InvalidName"), .ref (f "InvalidClaim"), .ref (f "InvalidIndex"), .ref (f "InvalidLine"), .ref (f "InvalidDead"), .ref (f "InvalidPaces"), .ref (f "InvalidGroups"), .ref (f "InvalidTimes"), .ref (f "InvalidDeeds"), .ref (f "UnknownName"), .ref (f "InUse"), .ref (f "TooMany"), .ref (f "OtherKind"), .ref (f "Broken"), .ref (f "NothingToUndo"), .ref (f "WrongValue"), .ref (f "WrongName"), .ref (f "NoAnswer"), .type "ValueError", .type "LookupError", .type "ArithmeticError"]
def fldTab (f : Str) : List Str := (([("given", ["NotASign", "NotARecord", "InvalidText", "InvalidPace", "InvalidWidth", "InvalidPlace", "InvalidLength", "InvalidTime", "InvalidWindow", "InvalidName", "InvalidClaim", "InvalidIndex", "InvalidLine", "UnknownName", "OtherKind"]), ("index", ["InvalidDead", "InvalidPaces", "InvalidGroups", "InvalidTimes", "InvalidDeeds", "InUse", "Broken"]), ("most", ["TooMany"])] : List (Str × List Str)).lookup f).getD []
def m_l_sip : Fd := noE sipD
def m_l_classes : Fd := (noE (fnD 1 4 (seqS (setS 1 (lstD [(unD (isXF (isTab "NotASign")) (vD 0)), (unD (isXF (isTab "NotARecord")) (vD 0)), (unD (isXF (isTab "InvalidText")) (vD 0)), (unD (isXF (isTab "InvalidPace")) (vD 0))]))
    (seqS (setS 1 (opD catF (vD 1) (lstD [(unD (isXF (isTab "InvalidWidth")) (vD 0)), (unD (isXF (isTab "InvalidPlace")) (vD 0)), (unD (isXF (isTab "InvalidLength")) (vD 0))])))
    (seqS (setS 1 (opD catF (vD 1) (lstD [(unD (isXF (isTab "InvalidTime")) (vD 0)), (unD (isXF (isTab "InvalidWindow")) (vD 0)), (unD (isXF (isTab "InvalidName")) (vD 0))])))
    (seqS (setS 1 (opD catF (vD 1) (lstD [(unD (isXF (isTab "InvalidClaim")) (vD 0)), (unD (isXF (isTab "InvalidIndex")) (vD 0)), (unD (isXF (isTab "InvalidLine")) (vD 0))])))
    (seqS (setS 1 (opD catF (vD 1) (lstD [(unD (isXF (isTab "InvalidDead")) (vD 0)), (unD (isXF (isTab "InvalidPaces")) (vD 0)), (unD (isXF (isTab "InvalidGroups")) (vD 0))])))
    (seqS (setS 1 (opD catF (vD 1) (lstD [(unD (isXF (isTab "InvalidTimes")) (vD 0)), (unD (isXF (isTab "InvalidDeeds")) (vD 0)), (unD (isXF (isTab "UnknownName")) (vD 0))])))
    (seqS (setS 1 (opD catF (vD 1) (lstD [(unD (isXF (isTab "InUse")) (vD 0)), (unD (isXF (isTab "TooMany")) (vD 0)), (unD (isXF (isTab "OtherKind")) (vD 0)), (unD (isXF (isTab "Broken")) (vD 0))])))
    (seqS (appS 1 (unD (isXF (isTab "NothingToUndo")) (vD 0)))
    (seqS (setS 2 (lstD [(unD (isXF (isTab "WrongValue")) (vD 0)), (unD (isXF (isTab "WrongName")) (vD 0)), (unD (isXF (isTab "NoAnswer")) (vD 0))]))
    (seqS (setS 2 (opD addF (vD 2) (lstD [(unD (isXF (isTab "ValueError")) (vD 0)), (unD (isXF (isTab "LookupError")) (vD 0)), (unD (isXF (isTab "ArithmeticError")) (vD 0))])))
    (retS (opD addF (lcD (.nm 3) [3] (itR1 (cD (.int 24))) (trD (opD ixF (vD 1) (vD 3))) (vD 3)) (lcD (.nm 3) [3] (itR1 (cD (.int 6))) (trD (opD ixF (vD 2) (vD 3))) (opD addF (cD (.int 30)) (vD 3)))))))))))))))))
def m_l_given : Fd := (noE (fnD 1 2 (seqS (setS 1 (lstD [(lstD [(errD "NotASign" "given" (vD 0)), (errD "NotASign" "given" (vD 0))]), (lstD [(errD "NotARecord" "given" (vD 0)), (errD "NotARecord" "given" (vD 0))])]))
    (seqS (setS 1 (opD catF (vD 1) (lstD [(lstD [(errD "InvalidText" "given" (vD 0)), (errD "InvalidText" "given" (vD 0))]), (lstD [(errD "InvalidPace" "given" (vD 0)), (errD "InvalidPace" "given" (vD 0))])])))
    (seqS (appS 1 (lstD [(errD "InvalidWidth" "given" (vD 0)), (errD "InvalidWidth" "given" (vD 0))]))
    (seqS (appS 1 (lstD [(errD "InvalidPlace" "given" (vD 0)), (errD "InvalidPlace" "given" (vD 0))]))
    (seqS (appS 1 (lstD [(errD "InvalidLength" "given" (vD 0)), (errD "InvalidLength" "given" (vD 0))]))
    (seqS (setS 1 (opD catF (vD 1) (lstD [(lstD [(errD "InvalidTime" "given" (vD 0)), (errD "InvalidTime" "given" (vD 0))]), (lstD [(errD "InvalidWindow" "given" (vD 0)), (errD "InvalidWindow" "given" (vD 0))])])))
    (seqS (setS 1 (opD catF (vD 1) (lstD [(lstD [(errD "InvalidName" "given" (vD 0)), (errD "InvalidName" "given" (vD 0))]), (lstD [(errD "InvalidClaim" "given" (vD 0)), (errD "InvalidClaim" "given" (vD 0))])])))
    (retS (opD addF (vD 1) (lstD [(lstD [(errD "InvalidIndex" "given" (vD 0)), (errD "InvalidIndex" "given" (vD 0))]), (lstD [(errD "InvalidLine" "given" (vD 0)), (errD "InvalidLine" "given" (vD 0))])]))))))))))))
def m_l_indexed : Fd := (noE (fnD 1 2 (seqS (setS 1 (lstD [(lstD [(errD "InvalidDead" "index" (vD 0)), (errD "InvalidDead" "index" (vD 0))]), (lstD [(errD "InvalidPaces" "index" (vD 0)), (errD "InvalidPaces" "index" (vD 0))])]))
    (seqS (appS 1 (lstD [(errD "InvalidGroups" "index" (vD 0)), (errD "InvalidGroups" "index" (vD 0))]))
    (retS (opD addF (vD 1) (lstD [(lstD [(errD "InvalidTimes" "index" (vD 0)), (errD "InvalidTimes" "index" (vD 0))]), (lstD [(errD "InvalidDeeds" "index" (vD 0)), (errD "InvalidDeeds" "index" (vD 0))])])))))))
def m_l_pick : Fd := (noE (fnD 2 2 (retS (opD ixF (vD 1) (caD m_l_sip [(vD 0), (biD lenF [(vD 1)])])))))
def m_l_right : Fd := (noE (fnD 1 6 (seqS (setS 1 (lstD [(cD .non), (cD (.int 0)), (unD negF (cD (.int 3))), (cD (.bl true)), (cD (.str "a")), (cD (.str "")), (tupD []), (tupD [(cD (.int 1)), (cD (.int 2))]), (lstD []), (lstD [(cD (.int 7))]), (cD .dic), (cD (.dct [.inr "a"] [.int 1])), (opD powF (cD (.int 10)) (cD (.int 30))), (tupD [(cD (.str "set")), (cD (.int 3))])]))
    (seqS (setS 2 (caD m_l_pick [(vD 0), (vD 1)]))
    (seqS (forS (.tp [(.nm 3), (.nm 4)]) (itE (itL (caD m_l_given [(vD 2)]))) (ifS (tbD (opD (eqF true) (lcD (.nm 5) [5] (itL (vD 4)) yesT (opD addF (caD m_l_classes [(vD 5)]) (lstD [(biD reprF [(unD (xfF (fldTab "given") "given") (vD 5))])]))) (opD mulF (lstD [(lstD [(vD 3), (cD (.int 30)), (cD (.int 33)), (biD reprF [(vD 2)])])]) (cD (.int 2))))) (retS (cD (.bl false))) passS))
    (seqS (forS (.tp [(.nm 3), (.nm 4)]) (itE (itL (caD m_l_indexed [(vD 2)]))) (ifS (tbD (opD (eqF true) (lcD (.nm 5) [5] (itL (vD 4)) yesT (opD addF (caD m_l_classes [(vD 5)]) (lstD [(biD reprF [(unD (xfF (fldTab "index") "index") (vD 5))])]))) (opD mulF (lstD [(lstD [(opD addF (cD (.int 13)) (vD 3)), (cD (.int 30)), (cD (.int 33)), (biD reprF [(vD 2)])])]) (cD (.int 2))))) (retS (cD (.bl false))) passS))
    (seqS (setS 4 (lstD [(errD "UnknownName" "given" (vD 2)), (errD "UnknownName" "given" (vD 2))]))
    (seqS (ifS (tbD (opD (eqF true) (lcD (.nm 5) [5] (itL (vD 4)) yesT (opD addF (caD m_l_classes [(vD 5)]) (lstD [(biD reprF [(unD (xfF (fldTab "given") "given") (vD 5))])]))) (opD mulF (lstD [(lstD [(cD (.int 18)), (cD (.int 31)), (cD (.int 34)), (biD reprF [(vD 2)])])]) (cD (.int 2))))) (retS (cD (.bl false))) passS)
    (seqS (setS 4 (lstD [(errD "OtherKind" "given" (vD 2)), (errD "OtherKind" "given" (vD 2))]))
    (seqS (ifS (tbD (opD (eqF true) (lcD (.nm 5) [5] (itL (vD 4)) yesT (opD addF (caD m_l_classes [(vD 5)]) (lstD [(biD reprF [(unD (xfF (fldTab "given") "given") (vD 5))])]))) (opD mulF (lstD [(lstD [(cD (.int 21)), (cD (.int 32)), (cD (.int 35)), (biD reprF [(vD 2)])])]) (cD (.int 2))))) (retS (cD (.bl false))) passS)
    (seqS (setS 4 (lstD [(errD "InUse" "index" (vD 2)), (errD "InUse" "index" (vD 2))]))
    (seqS (ifS (tbD (opD (eqF true) (lcD (.nm 5) [5] (itL (vD 4)) yesT (opD addF (caD m_l_classes [(vD 5)]) (lstD [(biD reprF [(unD (xfF (fldTab "index") "index") (vD 5))])]))) (opD mulF (lstD [(lstD [(cD (.int 19)), (cD (.int 31)), (cD (.int 34)), (biD reprF [(vD 2)])])]) (cD (.int 2))))) (retS (cD (.bl false))) passS)
    (seqS (setS 4 (lstD [(errD "TooMany" "most" (vD 2)), (errD "TooMany" "most" (vD 2))]))
    (seqS (ifS (tbD (opD (eqF true) (lcD (.nm 5) [5] (itL (vD 4)) yesT (opD addF (caD m_l_classes [(vD 5)]) (lstD [(biD reprF [(unD (xfF (fldTab "most") "most") (vD 5))])]))) (opD mulF (lstD [(lstD [(cD (.int 20)), (cD (.int 32)), (cD (.int 35)), (biD reprF [(vD 2)])])]) (cD (.int 2))))) (retS (cD (.bl false))) passS)
    (seqS (setS 4 (lstD [(errD "Broken" "index" (vD 2)), (errD "Broken" "index" (vD 2))]))
    (retS (opD (eqF false) (lcD (.nm 5) [5] (itL (vD 4)) yesT (opD addF (caD m_l_classes [(vD 5)]) (lstD [(biD reprF [(unD (xfF (fldTab "index") "index") (vD 5))])]))) (opD mulF (lstD [(lstD [(cD (.int 22)), (cD (.int 32)), (cD (.int 35)), (biD reprF [(vD 2)])])]) (cD (.int 2))))))))))))))))))))
noncomputable def m_law : Fd := (noE (fnD 1 5 (seqS (setS 1 (lstD [(cD (.int 8)), (cD (.int 40)), (cD (.int 9)), (cD (.int 12)), (cD (.int 6)), (cD (.int 30)), (cD (.int 1000000000000000000000000000000))]))
    (seqS (ifS (tbD (opD (eqF true) (biD reprF [(vD 1)]) (biD reprF [(lstD [(cD (.int 8)), (cD (.int 40)), (cD (.int 9)), (cD (.int 12)), (cD (.int 6)), (cD (.int 30)), (opD powF (cD (.int 10)) (cD (.int 30)))])]))) (retS (cD (.bl false))) passS)
    (seqS (setS 2 (lstD [(cD (.exc "NothingToUndo" [] [])), (cD (.exc "WrongValue" [] [])), (cD (.exc "WrongName" [] [])), (cD (.exc "NoAnswer" [] []))]))
    (seqS (ifS (tbD (opD (eqF true) (lcD (.nm 3) [3] (itL (vD 2)) yesT (caD m_l_classes [(vD 3)])) (lstD [(lstD [(cD (.int 23)), (cD (.int 32)), (cD (.int 35))]), (lstD [(cD (.int 30)), (cD (.int 33))]), (lstD [(cD (.int 31)), (cD (.int 34))]), (lstD [(cD (.int 32)), (cD (.int 35))])]))) (retS (cD (.bl false))) passS)
    (retS (biD allF [(lcD (.nm 4) [4] (itR1 (biD maxF [(cD (.int 2)), (biD minF [(biD lenF [(vD 0)]), (cD (.int 8))])])) yesT (cupD m_l_right [(vD 0), (vD 4)]))]))))))))
end L2.G
set_option Elab.async false
set_option linter.all false
set_option maxRecDepth 100000
set_option maxHeartbeats 4000000
namespace L2.G
open PySem PySem.Spec PyProof.Rows L2H LamX
def top (i : Nat) : Stmt := PySem.Challenge.pw_glimpserounds_k01_constants_and_errors.main.body.getD i (.Pass ⟨0, 0, 0, 0⟩)
abbrev s_WrongValue_init : Stmt := inClass (top 1) 0
abbrev s_NotASign_init : Stmt := inClass (top 2) 0
abbrev s_NotARecord_init : Stmt := inClass (top 3) 0
abbrev s_InvalidText_init : Stmt := inClass (top 4) 0
abbrev s_InvalidPace_init : Stmt := inClass (top 5) 0
abbrev s_InvalidWidth_init : Stmt := inClass (top 6) 0
abbrev s_InvalidPlace_init : Stmt := inClass (top 7) 0
abbrev s_InvalidLength_init : Stmt := inClass (top 8) 0
abbrev s_InvalidTime_init : Stmt := inClass (top 9) 0
abbrev s_InvalidWindow_init : Stmt := inClass (top 10) 0
abbrev s_InvalidName_init : Stmt := inClass (top 11) 0
abbrev s_InvalidClaim_init : Stmt := inClass (top 12) 0
abbrev s_InvalidIndex_init : Stmt := inClass (top 13) 0
abbrev s_InvalidLine_init : Stmt := inClass (top 14) 0
abbrev s_InvalidDead_init : Stmt := inClass (top 15) 0
abbrev s_InvalidPaces_init : Stmt := inClass (top 16) 0
abbrev s_InvalidGroups_init : Stmt := inClass (top 17) 0
abbrev s_InvalidTimes_init : Stmt := inClass (top 18) 0
abbrev s_InvalidDeeds_init : Stmt := inClass (top 19) 0
abbrev s_WrongName_init : Stmt := inClass (top 20) 0
abbrev s_UnknownName_init : Stmt := inClass (top 21) 0
abbrev s_InUse_init : Stmt := inClass (top 22) 0
abbrev s_NoAnswer_init : Stmt := inClass (top 23) 0
abbrev s_TooMany_init : Stmt := inClass (top 24) 0
abbrev s_OtherKind_init : Stmt := inClass (top 25) 0
abbrev s_Broken_init : Stmt := inClass (top 26) 0
abbrev s_l_cup : Stmt := top 36
abbrev s_l_sip : Stmt := top 37
abbrev s_l_pick : Stmt := top 38
abbrev s_l_classes : Stmt := top 39
abbrev s_l_given : Stmt := top 40
abbrev s_l_indexed : Stmt := top 41
abbrev s_l_right : Stmt := top 42
abbrev s_law : Stmt := top 43
theorem sc_l_classes : FnScope ["_law_e", "_law_found", "_law_above", "_law_at"] ["_law_e"] (defScope s_l_classes) := ⟨rfl, rfl, rfl, by decide +kernel, rfl, by decide +kernel, by decide +kernel⟩
theorem sc_l_given : FnScope ["_law_thing", "_law_found"] ["_law_thing"] (defScope s_l_given) := ⟨rfl, rfl, rfl, by decide +kernel, rfl, by decide +kernel, by decide +kernel⟩
theorem sc_l_indexed : FnScope ["_law_thing", "_law_found"] ["_law_thing"] (defScope s_l_indexed) := ⟨rfl, rfl, rfl, by decide +kernel, rfl, by decide +kernel, by decide +kernel⟩
theorem sc_l_pick : FnScope ["_law_cup_here", "_law_things"] ["_law_cup_here", "_law_things"] (defScope s_l_pick) := ⟨rfl, rfl, rfl, by decide +kernel, rfl, by decide +kernel, by decide +kernel⟩
theorem sc_l_right : FnScope ["_law_cup_here", "_law_things", "_law_thing", "_law_at", "_law_both", "_law_e"] ["_law_cup_here"] (defScope s_l_right) := ⟨rfl, rfl, rfl, by decide +kernel, rfl, by decide +kernel, by decide +kernel⟩
theorem sc_law : FnScope ["_law_script", "_law_seen", "_law_bare", "_law_e", "_law_spot"] ["_law_script"] (defScope s_law) := ⟨rfl, rfl, rfl, by decide +kernel, rfl, by decide +kernel, by decide +kernel⟩
section
variable {P : Program} {w : World} {K : PySem.W.Frag} {mg : Str → Option Value} {base : Heap} {cm : Str → Addr} {cs : List Str} {T : List (Addr × Str)}
theorem ok_l_classes {cdv : Value} {f : Addr} {fd : FuncData} (F : Fun K "_law_classes" "_law_classes" s_l_classes f fd) (hc : fd.code = cdv) (B : Bn mg) (xt_Broken : XT K cm (.ref (cm "Broken")) (isTab "Broken")) (v_Broken : mg "Broken" = some (.ref (cm "Broken"))) (xt_InUse : XT K cm (.ref (cm "InUse")) (isTab "InUse")) (v_InUse : mg "InUse" = some (.ref (cm "InUse"))) (xt_InvalidClaim : XT K cm (.ref (cm "InvalidClaim")) (isTab "InvalidClaim")) (v_InvalidClaim : mg "InvalidClaim" = some (.ref (cm "InvalidClaim"))) (xt_InvalidDead : XT K cm (.ref (cm "InvalidDead")) (isTab "InvalidDead")) (v_InvalidDead : mg "InvalidDead" = some (.ref (cm "InvalidDead"))) (xt_InvalidDeeds : XT K cm (.ref (cm "InvalidDeeds")) (isTab "InvalidDeeds")) (v_InvalidDeeds : mg "InvalidDeeds" = some (.ref (cm "InvalidDeeds"))) (xt_InvalidGroups : XT K cm (.ref (cm "InvalidGroups")) (isTab "InvalidGroups")) (v_InvalidGroups : mg "InvalidGroups" = some (.ref (cm "InvalidGroups"))) (xt_InvalidIndex : XT K cm (.ref (cm "InvalidIndex")) (isTab "InvalidIndex")) (v_InvalidIndex : mg "InvalidIndex" = some (.ref (cm "InvalidIndex"))) (xt_InvalidLength : XT K cm (.ref (cm "InvalidLength")) (isTab "InvalidLength")) (v_InvalidLength : mg "InvalidLength" = some (.ref (cm "InvalidLength"))) (xt_InvalidLine : XT K cm (.ref (cm "InvalidLine")) (isTab "InvalidLine")) (v_InvalidLine : mg "InvalidLine" = some (.ref (cm "InvalidLine"))) (xt_InvalidName : XT K cm (.ref (cm "InvalidName")) (isTab "InvalidName")) (v_InvalidName : mg "InvalidName" = some (.ref (cm "InvalidName"))) (xt_InvalidPace : XT K cm (.ref (cm "InvalidPace")) (isTab "InvalidPace")) (v_InvalidPace : mg "InvalidPace" = some (.ref (cm "InvalidPace"))) (xt_InvalidPaces : XT K cm (.ref (cm "InvalidPaces")) (isTab "InvalidPaces")) (v_InvalidPaces : mg "InvalidPaces" = some (.ref (cm "InvalidPaces"))) (xt_InvalidPlace : XT K cm (.ref (cm "InvalidPlace")) (isTab "InvalidPlace")) (v_InvalidPlace : mg "InvalidPlace" = some (.ref (cm "InvalidPlace"))) (xt_InvalidText : XT K cm (.ref (cm "InvalidText")) (isTab "InvalidText")) (v_InvalidText : mg "InvalidText" = some (.ref (cm "InvalidText"))) (xt_InvalidTime : XT K cm (.ref (cm "InvalidTime")) (isTab "InvalidTime")) (v_InvalidTime : mg "InvalidTime" = some (.ref (cm "InvalidTime"))) (xt_InvalidTimes : XT K cm (.ref (cm "InvalidTimes")) (isTab "InvalidTimes")) (v_InvalidTimes : mg "InvalidTimes" = some (.ref (cm "InvalidTimes"))) (xt_InvalidWidth : XT K cm (.ref (cm "InvalidWidth")) (isTab "InvalidWidth")) (v_InvalidWidth : mg "InvalidWidth" = some (.ref (cm "InvalidWidth"))) (xt_InvalidWindow : XT K cm (.ref (cm "InvalidWindow")) (isTab "InvalidWindow")) (v_InvalidWindow : mg "InvalidWindow" = some (.ref (cm "InvalidWindow"))) (xt_NoAnswer : XT K cm (.ref (cm "NoAnswer")) (isTab "NoAnswer")) (v_NoAnswer : mg "NoAnswer" = some (.ref (cm "NoAnswer"))) (xt_NotARecord : XT K cm (.ref (cm "NotARecord")) (isTab "NotARecord")) (v_NotARecord : mg "NotARecord" = some (.ref (cm "NotARecord"))) (xt_NotASign : XT K cm (.ref (cm "NotASign")) (isTab "NotASign")) (v_NotASign : mg "NotASign" = some (.ref (cm "NotASign"))) (xt_NothingToUndo : XT K cm (.ref (cm "NothingToUndo")) (isTab "NothingToUndo")) (v_NothingToUndo : mg "NothingToUndo" = some (.ref (cm "NothingToUndo"))) (xt_OtherKind : XT K cm (.ref (cm "OtherKind")) (isTab "OtherKind")) (v_OtherKind : mg "OtherKind" = some (.ref (cm "OtherKind"))) (xt_TooMany : XT K cm (.ref (cm "TooMany")) (isTab "TooMany")) (v_TooMany : mg "TooMany" = some (.ref (cm "TooMany"))) (xt_UnknownName : XT K cm (.ref (cm "UnknownName")) (isTab "UnknownName")) (v_UnknownName : mg "UnknownName" = some (.ref (cm "UnknownName"))) (xt_WrongName : XT K cm (.ref (cm "WrongName")) (isTab "WrongName")) (v_WrongName : mg "WrongName" = some (.ref (cm "WrongName"))) (xt_WrongValue : XT K cm (.ref (cm "WrongValue")) (isTab "WrongValue")) (v_WrongValue : mg "WrongValue" = some (.ref (cm "WrongValue"))) (xt_ArithmeticError : XT K cm (.type "ArithmeticError") (isTab "ArithmeticError")) (nv_ArithmeticError : mg "ArithmeticError" = none) (xt_LookupError : XT K cm (.type "LookupError") (isTab "LookupError")) (nv_LookupError : mg "LookupError" = none) (xt_ValueError : XT K cm (.type "ValueError") (isTab "ValueError")) (nv_ValueError : mg "ValueError" = none) : FnOkG P w K mg base CX0 1 f fd ["_law_e"] (spL K cm cs T m_l_classes) :=
  F.okL (ow := [1]) hc sc_l_classes fun A outer s H Hs E cup qt hr => (b_cons (s_setO (ow1 := []) (ps_set (i := 1) sc_l_classes.nd rfl (Or.inr rfl) (do_lst (da_cons (d_isXC xt_NotASign rfl B.isinstance (d_v 0 (pv 0)) rfl v_NotASign) (da_cons (d_isXC xt_NotARecord rfl B.isinstance (d_v 0 (pv 0)) rfl v_NotARecord) (da_cons (d_isXC xt_InvalidText rfl B.isinstance (d_v 0 (pv 0)) rfl v_InvalidText) (da_cons (d_isXC xt_InvalidPace rfl B.isinstance (d_v 0 (pv 0)) rfl v_InvalidPace) da_nil)))))))
      (b_cons (s_setO (ow1 := []) (ps_set (i := 1) sc_l_classes.nd rfl (Or.inr rfl) (do_cat (d_v 1 (pv 1)) (d_lst (da_cons (d_isXC xt_InvalidWidth rfl B.isinstance (d_v 0 (pv 0)) rfl v_InvalidWidth) (da_cons (d_isXC xt_InvalidPlace rfl B.isinstance (d_v 0 (pv 0)) rfl v_InvalidPlace) (da_cons (d_isXC xt_InvalidLength rfl B.isinstance (d_v 0 (pv 0)) rfl v_InvalidLength) da_nil)))))))
      (b_cons (s_setO (ow1 := []) (ps_set (i := 1) sc_l_classes.nd rfl (Or.inr rfl) (do_cat (d_v 1 (pv 1)) (d_lst (da_cons (d_isXC xt_InvalidTime rfl B.isinstance (d_v 0 (pv 0)) rfl v_InvalidTime) (da_cons (d_isXC xt_InvalidWindow rfl B.isinstance (d_v 0 (pv 0)) rfl v_InvalidWindow) (da_cons (d_isXC xt_InvalidName rfl B.isinstance (d_v 0 (pv 0)) rfl v_InvalidName) da_nil)))))))
      (b_cons (s_setO (ow1 := []) (ps_set (i := 1) sc_l_classes.nd rfl (Or.inr rfl) (do_cat (d_v 1 (pv 1)) (d_lst (da_cons (d_isXC xt_InvalidClaim rfl B.isinstance (d_v 0 (pv 0)) rfl v_InvalidClaim) (da_cons (d_isXC xt_InvalidIndex rfl B.isinstance (d_v 0 (pv 0)) rfl v_InvalidIndex) (da_cons (d_isXC xt_InvalidLine rfl B.isinstance (d_v 0 (pv 0)) rfl v_InvalidLine) da_nil)))))))
      (b_cons (s_setO (ow1 := []) (ps_set (i := 1) sc_l_classes.nd rfl (Or.inr rfl) (do_cat (d_v 1 (pv 1)) (d_lst (da_cons (d_isXC xt_InvalidDead rfl B.isinstance (d_v 0 (pv 0)) rfl v_InvalidDead) (da_cons (d_isXC xt_InvalidPaces rfl B.isinstance (d_v 0 (pv 0)) rfl v_InvalidPaces) (da_cons (d_isXC xt_InvalidGroups rfl B.isinstance (d_v 0 (pv 0)) rfl v_InvalidGroups) da_nil)))))))
      (b_cons (s_setO (ow1 := []) (ps_set (i := 1) sc_l_classes.nd rfl (Or.inr rfl) (do_cat (d_v 1 (pv 1)) (d_lst (da_cons (d_isXC xt_InvalidTimes rfl B.isinstance (d_v 0 (pv 0)) rfl v_InvalidTimes) (da_cons (d_isXC xt_InvalidDeeds rfl B.isinstance (d_v 0 (pv 0)) rfl v_InvalidDeeds) (da_cons (d_isXC xt_UnknownName rfl B.isinstance (d_v 0 (pv 0)) rfl v_UnknownName) da_nil)))))))
      (b_cons (s_setO (ow1 := []) (ps_set (i := 1) sc_l_classes.nd rfl (Or.inr rfl) (do_cat (d_v 1 (pv 1)) (d_lst (da_cons (d_isXC xt_InUse rfl B.isinstance (d_v 0 (pv 0)) rfl v_InUse) (da_cons (d_isXC xt_TooMany rfl B.isinstance (d_v 0 (pv 0)) rfl v_TooMany) (da_cons (d_isXC xt_OtherKind rfl B.isinstance (d_v 0 (pv 0)) rfl v_OtherKind) (da_cons (d_isXC xt_Broken rfl B.isinstance (d_v 0 (pv 0)) rfl v_Broken) da_nil))))))))
      (b_cons (s_app (ow1 := [1]) (i := 1) (ps_expr (pe_bm PySem.F.plainAttrs_list PySem.F.slot_list_append PySem.F.type_list_append mt_append (pv 1) (pa_cons (d_isXC xt_NothingToUndo rfl B.isinstance (d_v 0 (pv 0)) rfl v_NothingToUndo) pa_nil))))
      (b_cons (s_set (ow1 := [1]) (ps_set (i := 2) sc_l_classes.nd rfl (Or.inr rfl) (d_lst (da_cons (d_isXC xt_WrongValue rfl B.isinstance (d_v 0 (pv 0)) rfl v_WrongValue) (da_cons (d_isXC xt_WrongName rfl B.isinstance (d_v 0 (pv 0)) rfl v_WrongName) (da_cons (d_isXC xt_NoAnswer rfl B.isinstance (d_v 0 (pv 0)) rfl v_NoAnswer) da_nil))))))
      (b_cons (s_set (ow1 := [1]) (ps_set (i := 2) sc_l_classes.nd rfl (Or.inr rfl) (d_op o_add (d_v 2 (pv 2)) (d_lst (da_cons (d_isXT xt_ValueError rfl B.isinstance (d_v 0 (pv 0)) rfl nv_ValueError rfl) (da_cons (d_isXT xt_LookupError rfl B.isinstance (d_v 0 (pv 0)) rfl nv_LookupError rfl) (da_cons (d_isXT xt_ArithmeticError rfl B.isinstance (d_v 0 (pv 0)) rfl nv_ArithmeticError rfl) da_nil)))))))
      (b_one (s_ret (ow1 := []) (d_op o_add (d_own (do_lc (own := [("_law_at", 3)]) (t := (.nm 3)) rfl sc_l_classes.nd (di_r1 d_int B.range) (blkOk_by (N := ["_law_e", "_law_found", "_law_above", "_law_at"]) (sc := defScope s_l_classes) (by decide +kernel)) (fun _ _ _ _ _ => (pg_name (i := 3) sc_l_classes.nd rfl (Or.inl rfl))) (fun _ _ _ _ _ => (dts_one (dt_tru rfl (d_ix i_ix (d_v 1 (pv 1)) (d_v 3 (pv 3)) (fun _ _ => rfl))))) (fun _ _ _ _ _ => (d_v 3 (pv 3))))) (d_own (do_lc (own := [("_law_at", 3)]) (t := (.nm 3)) rfl sc_l_classes.nd (di_r1 d_int B.range) (blkOk_by (N := ["_law_e", "_law_found", "_law_above", "_law_at"]) (sc := defScope s_l_classes) (by decide +kernel)) (fun _ _ _ _ _ => (pg_name (i := 3) sc_l_classes.nd rfl (Or.inl rfl))) (fun _ _ _ _ _ => (dts_one (dt_tru rfl (d_ix i_ix (d_v 2 (pv 2)) (d_v 3 (pv 3)) (fun _ _ => rfl))))) (fun _ _ _ _ _ => (d_op o_add d_int (d_v 3 (pv 3)))))))))))))))))))
theorem ok_l_given {cdv : Value} {f : Addr} {fd : FuncData} (F : Fun K "_law_given" "_law_given" s_l_given f fd) (hc : fd.code = cdv) (B : Bn mg) (e_InvalidClaim : ErrC P w K mg base 1 "InvalidClaim" (cm "InvalidClaim") "given") (e_InvalidIndex : ErrC P w K mg base 1 "InvalidIndex" (cm "InvalidIndex") "given") (e_InvalidLength : ErrC P w K mg base 1 "InvalidLength" (cm "InvalidLength") "given") (e_InvalidLine : ErrC P w K mg base 1 "InvalidLine" (cm "InvalidLine") "given") (e_InvalidName : ErrC P w K mg base 1 "InvalidName" (cm "InvalidName") "given") (e_InvalidPace : ErrC P w K mg base 1 "InvalidPace" (cm "InvalidPace") "given") (e_InvalidPlace : ErrC P w K mg base 1 "InvalidPlace" (cm "InvalidPlace") "given") (e_InvalidText : ErrC P w K mg base 1 "InvalidText" (cm "InvalidText") "given") (e_InvalidTime : ErrC P w K mg base 1 "InvalidTime" (cm "InvalidTime") "given") (e_InvalidWidth : ErrC P w K mg base 1 "InvalidWidth" (cm "InvalidWidth") "given") (e_InvalidWindow : ErrC P w K mg base 1 "InvalidWindow" (cm "InvalidWindow") "given") (e_NotARecord : ErrC P w K mg base 1 "NotARecord" (cm "NotARecord") "given") (e_NotASign : ErrC P w K mg base 1 "NotASign" (cm "NotASign") "given") (ek_InvalidClaim : ErrK P w K mg base 1 "InvalidClaim" (cm "InvalidClaim") "given") (ek_InvalidIndex : ErrK P w K mg base 1 "InvalidIndex" (cm "InvalidIndex") "given") (ek_InvalidLength : ErrK P w K mg base 1 "InvalidLength" (cm "InvalidLength") "given") (ek_InvalidLine : ErrK P w K mg base 1 "InvalidLine" (cm "InvalidLine") "given") (ek_InvalidName : ErrK P w K mg base 1 "InvalidName" (cm "InvalidName") "given") (ek_InvalidPace : ErrK P w K mg base 1 "InvalidPace" (cm "InvalidPace") "given") (ek_InvalidPlace : ErrK P w K mg base 1 "InvalidPlace" (cm "InvalidPlace") "given") (ek_InvalidText : ErrK P w K mg base 1 "InvalidText" (cm "InvalidText") "given") (ek_InvalidTime : ErrK P w K mg base 1 "InvalidTime" (cm "InvalidTime") "given") (ek_InvalidWidth : ErrK P w K mg base 1 "InvalidWidth" (cm "InvalidWidth") "given") (ek_InvalidWindow : ErrK P w K mg base 1 "InvalidWindow" (cm "InvalidWindow") "given") (ek_NotARecord : ErrK P w K mg base 1 "NotARecord" (cm "NotARecord") "given") (ek_NotASign : ErrK P w K mg base 1 "NotASign" (cm "NotASign") "given") : FnOkG P w K mg base CX0 3 f fd ["_law_thing"] (spL K cm cs T m_l_given) :=
  F.okL (ow := [1]) hc sc_l_given fun A outer s H Hs E cup qt hr => (b_cons (s_setO (ow1 := []) (ps_set (i := 1) sc_l_given.nd rfl (Or.inl rfl) (do_lst (da_cons (d_lst (da_cons (d_err e_NotASign hr (by decide) rfl (d_v 0 (pv 0))) (da_cons (d_errK ek_NotASign hr (by decide) rfl (d_v 0 (pv 0))) da_nil))) (da_cons (d_lst (da_cons (d_err e_NotARecord hr (by decide) rfl (d_v 0 (pv 0))) (da_cons (d_errK ek_NotARecord hr (by decide) rfl (d_v 0 (pv 0))) da_nil))) da_nil)))))
      (b_cons (s_setO (ow1 := []) (ps_set (i := 1) sc_l_given.nd rfl (Or.inl rfl) (do_cat (d_v 1 (pv 1)) (d_lst (da_cons (d_lst (da_cons (d_err e_InvalidText hr (by decide) rfl (d_v 0 (pv 0))) (da_cons (d_errK ek_InvalidText hr (by decide) rfl (d_v 0 (pv 0))) da_nil))) (da_cons (d_lst (da_cons (d_err e_InvalidPace hr (by decide) rfl (d_v 0 (pv 0))) (da_cons (d_errK ek_InvalidPace hr (by decide) rfl (d_v 0 (pv 0))) da_nil))) da_nil))))))
      (b_cons (s_app (ow1 := [1]) (i := 1) (ps_expr (pe_bm PySem.F.plainAttrs_list PySem.F.slot_list_append PySem.F.type_list_append mt_append (pv 1) (pa_cons (d_lst (da_cons (d_err e_InvalidWidth hr (by decide) rfl (d_v 0 (pv 0))) (da_cons (d_errK ek_InvalidWidth hr (by decide) rfl (d_v 0 (pv 0))) da_nil))) pa_nil))))
      (b_cons (s_app (ow1 := [1]) (i := 1) (ps_expr (pe_bm PySem.F.plainAttrs_list PySem.F.slot_list_append PySem.F.type_list_append mt_append (pv 1) (pa_cons (d_lst (da_cons (d_err e_InvalidPlace hr (by decide) rfl (d_v 0 (pv 0))) (da_cons (d_errK ek_InvalidPlace hr (by decide) rfl (d_v 0 (pv 0))) da_nil))) pa_nil))))
      (b_cons (s_app (ow1 := [1]) (i := 1) (ps_expr (pe_bm PySem.F.plainAttrs_list PySem.F.slot_list_append PySem.F.type_list_append mt_append (pv 1) (pa_cons (d_lst (da_cons (d_err e_InvalidLength hr (by decide) rfl (d_v 0 (pv 0))) (da_cons (d_errK ek_InvalidLength hr (by decide) rfl (d_v 0 (pv 0))) da_nil))) pa_nil))))
      (b_cons (s_setO (ow1 := []) (ps_set (i := 1) sc_l_given.nd rfl (Or.inl rfl) (do_cat (d_v 1 (pv 1)) (d_lst (da_cons (d_lst (da_cons (d_err e_InvalidTime hr (by decide) rfl (d_v 0 (pv 0))) (da_cons (d_errK ek_InvalidTime hr (by decide) rfl (d_v 0 (pv 0))) da_nil))) (da_cons (d_lst (da_cons (d_err e_InvalidWindow hr (by decide) rfl (d_v 0 (pv 0))) (da_cons (d_errK ek_InvalidWindow hr (by decide) rfl (d_v 0 (pv 0))) da_nil))) da_nil))))))
      (b_cons (s_setO (ow1 := []) (ps_set (i := 1) sc_l_given.nd rfl (Or.inl rfl) (do_cat (d_v 1 (pv 1)) (d_lst (da_cons (d_lst (da_cons (d_err e_InvalidName hr (by decide) rfl (d_v 0 (pv 0))) (da_cons (d_errK ek_InvalidName hr (by decide) rfl (d_v 0 (pv 0))) da_nil))) (da_cons (d_lst (da_cons (d_err e_InvalidClaim hr (by decide) rfl (d_v 0 (pv 0))) (da_cons (d_errK ek_InvalidClaim hr (by decide) rfl (d_v 0 (pv 0))) da_nil))) da_nil))))))
      (b_one (s_ret (ow1 := []) (d_op o_add (d_v 1 (pv 1)) (d_lst (da_cons (d_lst (da_cons (d_err e_InvalidIndex hr (by decide) rfl (d_v 0 (pv 0))) (da_cons (d_errK ek_InvalidIndex hr (by decide) rfl (d_v 0 (pv 0))) da_nil))) (da_cons (d_lst (da_cons (d_err e_InvalidLine hr (by decide) rfl (d_v 0 (pv 0))) (da_cons (d_errK ek_InvalidLine hr (by decide) rfl (d_v 0 (pv 0))) da_nil))) da_nil)))))))))))))
theorem ok_l_indexed {cdv : Value} {f : Addr} {fd : FuncData} (F : Fun K "_law_indexed" "_law_indexed" s_l_indexed f fd) (hc : fd.code = cdv) (B : Bn mg) (e_InvalidDead : ErrC P w K mg base 1 "InvalidDead" (cm "InvalidDead") "index") (e_InvalidDeeds : ErrC P w K mg base 1 "InvalidDeeds" (cm "InvalidDeeds") "index") (e_InvalidGroups : ErrC P w K mg base 1 "InvalidGroups" (cm "InvalidGroups") "index") (e_InvalidPaces : ErrC P w K mg base 1 "InvalidPaces" (cm "InvalidPaces") "index") (e_InvalidTimes : ErrC P w K mg base 1 "InvalidTimes" (cm "InvalidTimes") "index") (ek_InvalidDead : ErrK P w K mg base 1 "InvalidDead" (cm "InvalidDead") "index") (ek_InvalidDeeds : ErrK P w K mg base 1 "InvalidDeeds" (cm "InvalidDeeds") "index") (ek_InvalidGroups : ErrK P w K mg base 1 "InvalidGroups" (cm "InvalidGroups") "index") (ek_InvalidPaces : ErrK P w K mg base 1 "InvalidPaces" (cm "InvalidPaces") "index") (ek_InvalidTimes : ErrK P w K mg base 1 "InvalidTimes" (cm "InvalidTimes") "index") : FnOkG P w K mg base CX0 3 f fd ["_law_thing"] (spL K cm cs T m_l_indexed) :=
  F.okL (ow := [1]) hc sc_l_indexed fun A outer s H Hs E cup qt hr => (b_cons (s_setO (ow1 := []) (ps_set (i := 1) sc_l_indexed.nd rfl (Or.inl rfl) (do_lst (da_cons (d_lst (da_cons (d_err e_InvalidDead hr (by decide) rfl (d_v 0 (pv 0))) (da_cons (d_errK ek_InvalidDead hr (by decide) rfl (d_v 0 (pv 0))) da_nil))) (da_cons (d_lst (da_cons (d_err e_InvalidPaces hr (by decide) rfl (d_v 0 (pv 0))) (da_cons (d_errK ek_InvalidPaces hr (by decide) rfl (d_v 0 (pv 0))) da_nil))) da_nil)))))
      (b_cons (s_app (ow1 := [1]) (i := 1) (ps_expr (pe_bm PySem.F.plainAttrs_list PySem.F.slot_list_append PySem.F.type_list_append mt_append (pv 1) (pa_cons (d_lst (da_cons (d_err e_InvalidGroups hr (by decide) rfl (d_v 0 (pv 0))) (da_cons (d_errK ek_InvalidGroups hr (by decide) rfl (d_v 0 (pv 0))) da_nil))) pa_nil))))
      (b_one (s_ret (ow1 := []) (d_op o_add (d_v 1 (pv 1)) (d_lst (da_cons (d_lst (da_cons (d_err e_InvalidTimes hr (by decide) rfl (d_v 0 (pv 0))) (da_cons (d_errK ek_InvalidTimes hr (by decide) rfl (d_v 0 (pv 0))) da_nil))) (da_cons (d_lst (da_cons (d_err e_InvalidDeeds hr (by decide) rfl (d_v 0 (pv 0))) (da_cons (d_errK ek_InvalidDeeds hr (by decide) rfl (d_v 0 (pv 0))) da_nil))) da_nil))))))))
theorem ok_l_pick {cdv : Value} {f : Addr} {fd : FuncData} (F : Fun K "_law_pick" "_law_pick" s_l_pick f fd) (hc : fd.code = cdv) (B : Bn mg) (c_l_sip : CalG P w K mg base 1 "_law_sip" (spL K cm cs T m_l_sip)) : FnOkG P w K mg base CX0 2 f fd ["_law_cup_here", "_law_things"] (spL K cm cs T m_l_pick) :=
  F.okL (ow := []) hc sc_l_pick fun A outer s H Hs E cup qt hr => (b_one (s_ret (ow1 := []) (d_ix i_ix (d_v 1 (pv 1)) (d_cl c_l_sip (noE_no _) qt hr (by decide) rfl (da_cons (d_v 0 (pv 0)) (da_cons (d_bi b_len rfl B.len boot_len (da_cons (d_v 1 (pv 1)) da_nil)) da_nil))) (fun _ _ => rfl))))
theorem ok_l_right {cdv : Value} {f : Addr} {fd : FuncData} (F : Fun K "_law_right" "_law_right" s_l_right f fd) (hc : fd.code = cdv) (B : Bn mg) (c_l_classes : CalG P w K mg base 1 "_law_classes" (spL K cm cs T m_l_classes)) (c_l_given : CalG P w K mg base 3 "_law_given" (spL K cm cs T m_l_given)) (c_l_indexed : CalG P w K mg base 3 "_law_indexed" (spL K cm cs T m_l_indexed)) (c_l_pick : CalG P w K mg base 2 "_law_pick" (spL K cm cs T m_l_pick)) (e_Broken : ErrC P w K mg base 1 "Broken" (cm "Broken") "index") (e_InUse : ErrC P w K mg base 1 "InUse" (cm "InUse") "index") (e_OtherKind : ErrC P w K mg base 1 "OtherKind" (cm "OtherKind") "given") (e_TooMany : ErrC P w K mg base 1 "TooMany" (cm "TooMany") "most") (e_UnknownName : ErrC P w K mg base 1 "UnknownName" (cm "UnknownName") "given") (ek_Broken : ErrK P w K mg base 1 "Broken" (cm "Broken") "index") (ek_InUse : ErrK P w K mg base 1 "InUse" (cm "InUse") "index") (ek_OtherKind : ErrK P w K mg base 1 "OtherKind" (cm "OtherKind") "given") (ek_TooMany : ErrK P w K mg base 1 "TooMany" (cm "TooMany") "most") (ek_UnknownName : ErrK P w K mg base 1 "UnknownName" (cm "UnknownName") "given") (xf_given : XF K cm (fldTab "given") "given") (xf_index : XF K cm (fldTab "index") "index") (xf_most : XF K cm (fldTab "most") "most") : FnOkG P w K mg base CX0 4 f fd ["_law_cup_here"] (spL K cm cs T m_l_right) :=
  F.okL (ow := []) hc sc_l_right fun A outer s H Hs E cup qt hr => (b_cons (s_set (ow1 := []) (ps_set (i := 1) sc_l_right.nd rfl (Or.inl rfl) (d_lst (da_cons d_non (da_cons d_int (da_cons (d_neg d_int) (da_cons d_bl (da_cons d_str (da_cons d_str (da_cons (d_tup da_nil) (da_cons (d_tup (da_cons d_int (da_cons d_int da_nil))) (da_cons (d_lst da_nil) (da_cons (d_lst (da_cons d_int da_nil)) (da_cons d_dic (da_cons d_dct1 (da_cons (d_op o_pow d_int d_int) (da_cons (d_tup (da_cons d_str (da_cons d_int da_nil))) da_nil)))))))))))))))))
      (b_cons (s_set (ow1 := []) (ps_set (i := 2) sc_l_right.nd rfl (Or.inl rfl) (d_cl c_l_pick (noE_no _) qt hr (by decide) rfl (da_cons (d_v 0 (pv 0)) (da_cons (d_v 1 (pv 1)) da_nil)))))
      (b_cons (s_for (ow1 := []) (t := (.tp [(.nm 3), (.nm 4)])) PassesOwn.never rfl (di_enL (d_cl c_l_given (noE_no _) qt hr (by decide) rfl (da_cons (d_v 2 (pv 2)) da_nil)) B.enumerate) (pg_tup rfl (pgs_cons (pg_name (i := 3) sc_l_right.nd rfl (Or.inl rfl)) (pgs_cons (pg_name (i := 4) sc_l_right.nd rfl (Or.inl rfl)) pgs_nil))) (fun _ => (b_one (s_if (ow1 := []) (ow' := []) (dt_cmp (o_ne (ru hr)) (d_own (do_lc (own := [("_law_e", 5)]) (t := (.nm 5)) rfl sc_l_right.nd (di_list (d_v 4 (pv 4))) (blkOk_by (N := ["_law_cup_here", "_law_things", "_law_thing", "_law_at", "_law_both", "_law_e"]) (sc := defScope s_l_right) (by decide +kernel)) (fun _ _ _ _ _ => (pg_name (i := 5) sc_l_right.nd rfl (Or.inl rfl))) (fun _ _ _ _ _ => dts_nil) (fun _ _ _ _ _ => (d_op o_add (d_cl c_l_classes (noE_no _) qt hr (by decide) rfl (da_cons (d_v 5 (pv 5)) da_nil)) (d_lst (da_cons (d_bi (b_repr qt (ruH hr)) rfl B.repr boot_repr (da_cons (d_xf xf_given (d_v 5 (pv 5))) da_nil)) da_nil)))))) (d_op o_mul (d_lst (da_cons (d_lst (da_cons (d_v 3 (pv 3)) (da_cons d_int (da_cons d_int (da_cons (d_bi (b_repr qt (ruH hr)) rfl B.repr boot_repr (da_cons (d_v 2 (pv 2)) da_nil)) da_nil))))) da_nil)) d_int) (nomark _)) (b_one (s_ret (ow1 := []) d_bl)) b_nil))))
      (b_cons (s_for (ow1 := []) (t := (.tp [(.nm 3), (.nm 4)])) PassesOwn.never rfl (di_enL (d_cl c_l_indexed (noE_no _) qt hr (by decide) rfl (da_cons (d_v 2 (pv 2)) da_nil)) B.enumerate) (pg_tup rfl (pgs_cons (pg_name (i := 3) sc_l_right.nd rfl (Or.inl rfl)) (pgs_cons (pg_name (i := 4) sc_l_right.nd rfl (Or.inl rfl)) pgs_nil))) (fun _ => (b_one (s_if (ow1 := []) (ow' := []) (dt_cmp (o_ne (ru hr)) (d_own (do_lc (own := [("_law_e", 5)]) (t := (.nm 5)) rfl sc_l_right.nd (di_list (d_v 4 (pv 4))) (blkOk_by (N := ["_law_cup_here", "_law_things", "_law_thing", "_law_at", "_law_both", "_law_e"]) (sc := defScope s_l_right) (by decide +kernel)) (fun _ _ _ _ _ => (pg_name (i := 5) sc_l_right.nd rfl (Or.inl rfl))) (fun _ _ _ _ _ => dts_nil) (fun _ _ _ _ _ => (d_op o_add (d_cl c_l_classes (noE_no _) qt hr (by decide) rfl (da_cons (d_v 5 (pv 5)) da_nil)) (d_lst (da_cons (d_bi (b_repr qt (ruH hr)) rfl B.repr boot_repr (da_cons (d_xf xf_index (d_v 5 (pv 5))) da_nil)) da_nil)))))) (d_op o_mul (d_lst (da_cons (d_lst (da_cons (d_op o_add d_int (d_v 3 (pv 3))) (da_cons d_int (da_cons d_int (da_cons (d_bi (b_repr qt (ruH hr)) rfl B.repr boot_repr (da_cons (d_v 2 (pv 2)) da_nil)) da_nil))))) da_nil)) d_int) (nomark _)) (b_one (s_ret (ow1 := []) d_bl)) b_nil))))
      (b_cons (s_set (ow1 := []) (ps_set (i := 4) sc_l_right.nd rfl (Or.inl rfl) (d_lst (da_cons (d_err e_UnknownName hr (by decide) rfl (d_v 2 (pv 2))) (da_cons (d_errK ek_UnknownName hr (by decide) rfl (d_v 2 (pv 2))) da_nil)))))
      (b_cons (s_if (ow1 := []) (ow' := []) (dt_cmp (o_ne (ru hr)) (d_own (do_lc (own := [("_law_e", 5)]) (t := (.nm 5)) rfl sc_l_right.nd (di_list (d_v 4 (pv 4))) (blkOk_by (N := ["_law_cup_here", "_law_things", "_law_thing", "_law_at", "_law_both", "_law_e"]) (sc := defScope s_l_right) (by decide +kernel)) (fun _ _ _ _ _ => (pg_name (i := 5) sc_l_right.nd rfl (Or.inl rfl))) (fun _ _ _ _ _ => dts_nil) (fun _ _ _ _ _ => (d_op o_add (d_cl c_l_classes (noE_no _) qt hr (by decide) rfl (da_cons (d_v 5 (pv 5)) da_nil)) (d_lst (da_cons (d_bi (b_repr qt (ruH hr)) rfl B.repr boot_repr (da_cons (d_xf xf_given (d_v 5 (pv 5))) da_nil)) da_nil)))))) (d_op o_mul (d_lst (da_cons (d_lst (da_cons d_int (da_cons d_int (da_cons d_int (da_cons (d_bi (b_repr qt (ruH hr)) rfl B.repr boot_repr (da_cons (d_v 2 (pv 2)) da_nil)) da_nil))))) da_nil)) d_int) (nomark _)) (b_one (s_ret (ow1 := []) d_bl)) b_nil)
      (b_cons (s_set (ow1 := []) (ps_set (i := 4) sc_l_right.nd rfl (Or.inl rfl) (d_lst (da_cons (d_err e_OtherKind hr (by decide) rfl (d_v 2 (pv 2))) (da_cons (d_errK ek_OtherKind hr (by decide) rfl (d_v 2 (pv 2))) da_nil)))))
      (b_cons (s_if (ow1 := []) (ow' := []) (dt_cmp (o_ne (ru hr)) (d_own (do_lc (own := [("_law_e", 5)]) (t := (.nm 5)) rfl sc_l_right.nd (di_list (d_v 4 (pv 4))) (blkOk_by (N := ["_law_cup_here", "_law_things", "_law_thing", "_law_at", "_law_both", "_law_e"]) (sc := defScope s_l_right) (by decide +kernel)) (fun _ _ _ _ _ => (pg_name (i := 5) sc_l_right.nd rfl (Or.inl rfl))) (fun _ _ _ _ _ => dts_nil) (fun _ _ _ _ _ => (d_op o_add (d_cl c_l_classes (noE_no _) qt hr (by decide) rfl (da_cons (d_v 5 (pv 5)) da_nil)) (d_lst (da_cons (d_bi (b_repr qt (ruH hr)) rfl B.repr boot_repr (da_cons (d_xf xf_given (d_v 5 (pv 5))) da_nil)) da_nil)))))) (d_op o_mul (d_lst (da_cons (d_lst (da_cons d_int (da_cons d_int (da_cons d_int (da_cons (d_bi (b_repr qt (ruH hr)) rfl B.repr boot_repr (da_cons (d_v 2 (pv 2)) da_nil)) da_nil))))) da_nil)) d_int) (nomark _)) (b_one (s_ret (ow1 := []) d_bl)) b_nil)
      (b_cons (s_set (ow1 := []) (ps_set (i := 4) sc_l_right.nd rfl (Or.inl rfl) (d_lst (da_cons (d_err e_InUse hr (by decide) rfl (d_v 2 (pv 2))) (da_cons (d_errK ek_InUse hr (by decide) rfl (d_v 2 (pv 2))) da_nil)))))
      (b_cons (s_if (ow1 := []) (ow' := []) (dt_cmp (o_ne (ru hr)) (d_own (do_lc (own := [("_law_e", 5)]) (t := (.nm 5)) rfl sc_l_right.nd (di_list (d_v 4 (pv 4))) (blkOk_by (N := ["_law_cup_here", "_law_things", "_law_thing", "_law_at", "_law_both", "_law_e"]) (sc := defScope s_l_right) (by decide +kernel)) (fun _ _ _ _ _ => (pg_name (i := 5) sc_l_right.nd rfl (Or.inl rfl))) (fun _ _ _ _ _ => dts_nil) (fun _ _ _ _ _ => (d_op o_add (d_cl c_l_classes (noE_no _) qt hr (by decide) rfl (da_cons (d_v 5 (pv 5)) da_nil)) (d_lst (da_cons (d_bi (b_repr qt (ruH hr)) rfl B.repr boot_repr (da_cons (d_xf xf_index (d_v 5 (pv 5))) da_nil)) da_nil)))))) (d_op o_mul (d_lst (da_cons (d_lst (da_cons d_int (da_cons d_int (da_cons d_int (da_cons (d_bi (b_repr qt (ruH hr)) rfl B.repr boot_repr (da_cons (d_v 2 (pv 2)) da_nil)) da_nil))))) da_nil)) d_int) (nomark _)) (b_one (s_ret (ow1 := []) d_bl)) b_nil)
      (b_cons (s_set (ow1 := []) (ps_set (i := 4) sc_l_right.nd rfl (Or.inl rfl) (d_lst (da_cons (d_err e_TooMany hr (by decide) rfl (d_v 2 (pv 2))) (da_cons (d_errK ek_TooMany hr (by decide) rfl (d_v 2 (pv 2))) da_nil)))))
      (b_cons (s_if (ow1 := []) (ow' := []) (dt_cmp (o_ne (ru hr)) (d_own (do_lc (own := [("_law_e", 5)]) (t := (.nm 5)) rfl sc_l_right.nd (di_list (d_v 4 (pv 4))) (blkOk_by (N := ["_law_cup_here", "_law_things", "_law_thing", "_law_at", "_law_both", "_law_e"]) (sc := defScope s_l_right) (by decide +kernel)) (fun _ _ _ _ _ => (pg_name (i := 5) sc_l_right.nd rfl (Or.inl rfl))) (fun _ _ _ _ _ => dts_nil) (fun _ _ _ _ _ => (d_op o_add (d_cl c_l_classes (noE_no _) qt hr (by decide) rfl (da_cons (d_v 5 (pv 5)) da_nil)) (d_lst (da_cons (d_bi (b_repr qt (ruH hr)) rfl B.repr boot_repr (da_cons (d_xf xf_most (d_v 5 (pv 5))) da_nil)) da_nil)))))) (d_op o_mul (d_lst (da_cons (d_lst (da_cons d_int (da_cons d_int (da_cons d_int (da_cons (d_bi (b_repr qt (ruH hr)) rfl B.repr boot_repr (da_cons (d_v 2 (pv 2)) da_nil)) da_nil))))) da_nil)) d_int) (nomark _)) (b_one (s_ret (ow1 := []) d_bl)) b_nil)
      (b_cons (s_set (ow1 := []) (ps_set (i := 4) sc_l_right.nd rfl (Or.inl rfl) (d_lst (da_cons (d_err e_Broken hr (by decide) rfl (d_v 2 (pv 2))) (da_cons (d_errK ek_Broken hr (by decide) rfl (d_v 2 (pv 2))) da_nil)))))
      (b_one (s_ret (ow1 := []) (d_cmp (o_eq (ru hr)) (d_own (do_lc (own := [("_law_e", 5)]) (t := (.nm 5)) rfl sc_l_right.nd (di_list (d_v 4 (pv 4))) (blkOk_by (N := ["_law_cup_here", "_law_things", "_law_thing", "_law_at", "_law_both", "_law_e"]) (sc := defScope s_l_right) (by decide +kernel)) (fun _ _ _ _ _ => (pg_name (i := 5) sc_l_right.nd rfl (Or.inl rfl))) (fun _ _ _ _ _ => dts_nil) (fun _ _ _ _ _ => (d_op o_add (d_cl c_l_classes (noE_no _) qt hr (by decide) rfl (da_cons (d_v 5 (pv 5)) da_nil)) (d_lst (da_cons (d_bi (b_repr qt (ruH hr)) rfl B.repr boot_repr (da_cons (d_xf xf_index (d_v 5 (pv 5))) da_nil)) da_nil)))))) (d_op o_mul (d_lst (da_cons (d_lst (da_cons d_int (da_cons d_int (da_cons d_int (da_cons (d_bi (b_repr qt (ruH hr)) rfl B.repr boot_repr (da_cons (d_v 2 (pv 2)) da_nil)) da_nil))))) da_nil)) d_int) (nomark _)))))))))))))))))
theorem ok_law {cdv : Value} {f : Addr} {fd : FuncData} (F : Fun K "law" "law" s_law f fd) (hc : fd.code = cdv) (B : Bn mg) (c_l_classes : CalG P w K mg base 1 "_law_classes" (spL K cm cs T m_l_classes)) (c_l_right : CalG P w K mg base 4 "_law_right" (spL K cm cs T m_l_right)) (g_GREATEST : ∃ t, mg "GREATEST" = some (.int 1000000000000000000000000000000 t)) (g_MOST_GLANCES : ∃ t, mg "MOST_GLANCES" = some (.int 12 t)) (g_MOST_LENGTH : ∃ t, mg "MOST_LENGTH" = some (.int 40 t)) (g_MOST_PACE : ∃ t, mg "MOST_PACE" = some (.int 9 t)) (g_MOST_PAIRS : ∃ t, mg "MOST_PAIRS" = some (.int 30 t)) (g_MOST_TIMES : ∃ t, mg "MOST_TIMES" = some (.int 6 t)) (g_MOST_WIDTH : ∃ t, mg "MOST_WIDTH" = some (.int 8 t)) (c_l_cup : CalG P w K mg base 1 "_law_cup" (spCupX K)) (e0_NoAnswer : Err0 P w K mg base 1 "NoAnswer" (cm "NoAnswer")) (e0_NothingToUndo : Err0 P w K mg base 1 "NothingToUndo" (cm "NothingToUndo")) (e0_WrongName : Err0 P w K mg base 1 "WrongName" (cm "WrongName")) (e0_WrongValue : Err0 P w K mg base 1 "WrongValue" (cm "WrongValue")) : FnOkG P w K mg base CX0 5 f fd ["_law_script"] (spD0 K cm cs T m_law) :=
  F.okL0 (ow := []) hc sc_law fun A outer s H Hs E qt hr => (b_cons (s_set (ow1 := []) (ps_set (i := 1) sc_law.nd rfl (Or.inl rfl) (d_lst (da_cons (d_gi g_MOST_WIDTH) (da_cons (d_gi g_MOST_LENGTH) (da_cons (d_gi g_MOST_PACE) (da_cons (d_gi g_MOST_GLANCES) (da_cons (d_gi g_MOST_TIMES) (da_cons (d_gi g_MOST_PAIRS) (da_cons (d_gi g_GREATEST) da_nil))))))))))
      (b_cons (s_if (ow1 := []) (ow' := []) (dt_cmp (o_ne (ru hr)) (d_bi (b_repr qt (ruH hr)) rfl B.repr boot_repr (da_cons (d_v 1 (pv 1)) da_nil)) (d_bi (b_repr qt (ruH hr)) rfl B.repr boot_repr (da_cons (d_lst (da_cons d_int (da_cons d_int (da_cons d_int (da_cons d_int (da_cons d_int (da_cons d_int (da_cons (d_op o_pow d_int d_int) da_nil)))))))) da_nil)) (nomark _)) (b_one (s_ret (ow1 := []) d_bl)) b_nil)
      (b_cons (s_set (ow1 := []) (ps_set (i := 2) sc_law.nd rfl (Or.inl rfl) (d_lst (da_cons (d_err0 e0_NothingToUndo hr (by decide) rfl) (da_cons (d_err0 e0_WrongValue hr (by decide) rfl) (da_cons (d_err0 e0_WrongName hr (by decide) rfl) (da_cons (d_err0 e0_NoAnswer hr (by decide) rfl) da_nil)))))))
      (b_cons (s_if (ow1 := []) (ow' := []) (dt_cmp (o_ne (ru hr)) (d_own (do_lc (own := [("_law_e", 3)]) (t := (.nm 3)) rfl sc_law.nd (di_list (d_v 2 (pv 2))) (blkOk_by (N := ["_law_script", "_law_seen", "_law_bare", "_law_e", "_law_spot"]) (sc := defScope s_law) (by decide +kernel)) (fun _ _ _ _ _ => (pg_name (i := 3) sc_law.nd rfl (Or.inl rfl))) (fun _ _ _ _ _ => dts_nil) (fun _ _ _ _ _ => (d_cl c_l_classes (noE_no _) qt hr (by decide) rfl (da_cons (d_v 3 (pv 3)) da_nil))))) (d_lst (da_cons (d_lst (da_cons d_int (da_cons d_int (da_cons d_int da_nil)))) (da_cons (d_lst (da_cons d_int (da_cons d_int da_nil))) (da_cons (d_lst (da_cons d_int (da_cons d_int da_nil))) (da_cons (d_lst (da_cons d_int (da_cons d_int da_nil))) da_nil))))) (nomark _)) (b_one (s_ret (ow1 := []) d_bl)) b_nil)
      (b_one (s_ret (ow1 := []) (d_bi (b_all rfl) rfl B.all boot_all (da_cons (d_own (do_lc (own := [("_law_spot", 4)]) (t := (.nm 4)) rfl sc_law.nd (di_r1 (d_bi (b_max rfl) rfl B.max boot_max (da_cons d_int (da_cons (d_bi (b_min rfl) rfl B.min boot_min (da_cons (d_bi b_len rfl B.len boot_len (da_cons (d_v 0 (pv 0)) da_nil)) (da_cons d_int da_nil))) da_nil))) B.range) (blkOk_by (N := ["_law_script", "_law_seen", "_law_bare", "_law_e", "_law_spot"]) (sc := defScope s_law) (by decide +kernel)) (fun _ _ _ _ _ => (pg_name (i := 4) sc_law.nd rfl (Or.inl rfl))) (fun _ _ _ _ _ => dts_nil) (fun _ _ _ _ _ => (d_cup c_l_cup c_l_right qt hr (by decide) (by decide) rfl rfl (da_cons (d_v 0 (pv 0)) (da_cons (d_v 4 (pv 4)) da_nil)))))) da_nil))))))))
end
end L2.G
set_option Elab.async false
set_option linter.all false
set_option maxRecDepth 100000
set_option maxHeartbeats 4000000
namespace L2.G
open PySem PySem.Spec PyProof.Rows L2H
theorem sc_Broken_init : FnScope ["self", "index"] ["self", "index"] (defScope s_Broken_init) := ⟨rfl, rfl, rfl, by decide +kernel, rfl, by decide +kernel, by decide +kernel⟩
theorem sc_InUse_init : FnScope ["self", "index"] ["self", "index"] (defScope s_InUse_init) := ⟨rfl, rfl, rfl, by decide +kernel, rfl, by decide +kernel, by decide +kernel⟩
theorem sc_InvalidClaim_init : FnScope ["self", "given"] ["self", "given"] (defScope s_InvalidClaim_init) := ⟨rfl, rfl, rfl, by decide +kernel, rfl, by decide +kernel, by decide +kernel⟩
theorem sc_InvalidDead_init : FnScope ["self", "index"] ["self", "index"] (defScope s_InvalidDead_init) := ⟨rfl, rfl, rfl, by decide +kernel, rfl, by decide +kernel, by decide +kernel⟩
theorem sc_InvalidDeeds_init : FnScope ["self", "index"] ["self", "index"] (defScope s_InvalidDeeds_init) := ⟨rfl, rfl, rfl, by decide +kernel, rfl, by decide +kernel, by decide +kernel⟩
theorem sc_InvalidGroups_init : FnScope ["self", "index"] ["self", "index"] (defScope s_InvalidGroups_init) := ⟨rfl, rfl, rfl, by decide +kernel, rfl, by decide +kernel, by decide +kernel⟩
theorem sc_InvalidIndex_init : FnScope ["self", "given"] ["self", "given"] (defScope s_InvalidIndex_init) := ⟨rfl, rfl, rfl, by decide +kernel, rfl, by decide +kernel, by decide +kernel⟩
theorem sc_InvalidLength_init : FnScope ["self", "given"] ["self", "given"] (defScope s_InvalidLength_init) := ⟨rfl, rfl, rfl, by decide +kernel, rfl, by decide +kernel, by decide +kernel⟩
theorem sc_InvalidLine_init : FnScope ["self", "given"] ["self", "given"] (defScope s_InvalidLine_init) := ⟨rfl, rfl, rfl, by decide +kernel, rfl, by decide +kernel, by decide +kernel⟩
theorem sc_InvalidName_init : FnScope ["self", "given"] ["self", "given"] (defScope s_InvalidName_init) := ⟨rfl, rfl, rfl, by decide +kernel, rfl, by decide +kernel, by decide +kernel⟩
theorem sc_InvalidPace_init : FnScope ["self", "given"] ["self", "given"] (defScope s_InvalidPace_init) := ⟨rfl, rfl, rfl, by decide +kernel, rfl, by decide +kernel, by decide +kernel⟩
theorem sc_InvalidPaces_init : FnScope ["self", "index"] ["self", "index"] (defScope s_InvalidPaces_init) := ⟨rfl, rfl, rfl, by decide +kernel, rfl, by decide +kernel, by decide +kernel⟩
theorem sc_InvalidPlace_init : FnScope ["self", "given"] ["self", "given"] (defScope s_InvalidPlace_init) := ⟨rfl, rfl, rfl, by decide +kernel, rfl, by decide +kernel, by decide +kernel⟩
theorem sc_InvalidText_init : FnScope ["self", "given"] ["self", "given"] (defScope s_InvalidText_init) := ⟨rfl, rfl, rfl, by decide +kernel, rfl, by decide +kernel, by decide +kernel⟩
theorem sc_InvalidTime_init : FnScope ["self", "given"] ["self", "given"] (defScope s_InvalidTime_init) := ⟨rfl, rfl, rfl, by decide +kernel, rfl, by decide +kernel, by decide +kernel⟩
theorem sc_InvalidTimes_init : FnScope ["self", "index"] ["self", "index"] (defScope s_InvalidTimes_init) := ⟨rfl, rfl, rfl, by decide +kernel, rfl, by decide +kernel, by decide +kernel⟩
theorem sc_InvalidWidth_init : FnScope ["self", "given"] ["self", "given"] (defScope s_InvalidWidth_init) := ⟨rfl, rfl, rfl, by decide +kernel, rfl, by decide +kernel, by decide +kernel⟩
theorem sc_InvalidWindow_init : FnScope ["self", "given"] ["self", "given"] (defScope s_InvalidWindow_init) := ⟨rfl, rfl, rfl, by decide +kernel, rfl, by decide +kernel, by decide +kernel⟩
theorem sc_NotARecord_init : FnScope ["self", "given"] ["self", "given"] (defScope s_NotARecord_init) := ⟨rfl, rfl, rfl, by decide +kernel, rfl, by decide +kernel, by decide +kernel⟩
theorem sc_NotASign_init : FnScope ["self", "given"] ["self", "given"] (defScope s_NotASign_init) := ⟨rfl, rfl, rfl, by decide +kernel, rfl, by decide +kernel, by decide +kernel⟩
theorem sc_OtherKind_init : FnScope ["self", "given"] ["self", "given"] (defScope s_OtherKind_init) := ⟨rfl, rfl, rfl, by decide +kernel, rfl, by decide +kernel, by decide +kernel⟩
theorem sc_TooMany_init : FnScope ["self", "most"] ["self", "most"] (defScope s_TooMany_init) := ⟨rfl, rfl, rfl, by decide +kernel, rfl, by decide +kernel, by decide +kernel⟩
theorem sc_UnknownName_init : FnScope ["self", "given"] ["self", "given"] (defScope s_UnknownName_init) := ⟨rfl, rfl, rfl, by decide +kernel, rfl, by decide +kernel, by decide +kernel⟩
theorem sc_WrongValue_init : FnScope ["self"] ["self"] (defScope s_WrongValue_init) := ⟨rfl, rfl, rfl, by decide +kernel, rfl, by decide +kernel, by decide +kernel⟩
theorem sc_WrongName_init : FnScope ["self"] ["self"] (defScope s_WrongName_init) := ⟨rfl, rfl, rfl, by decide +kernel, rfl, by decide +kernel, by decide +kernel⟩
theorem sc_NoAnswer_init : FnScope ["self"] ["self"] (defScope s_NoAnswer_init) := ⟨rfl, rfl, rfl, by decide +kernel, rfl, by decide +kernel, by decide +kernel⟩
section
variable {P : Program} {w : World} {K : PySem.W.Frag} {mg : Str → Option Value} {base : Heap}
theorem ok_Broken_err {f : Addr} {fd : FuncData} (F : Fun K "__init__" "Broken.__init__" s_Broken_init f fd) : FnOk P w K mg base CX0 1 f fd ["self", "index"] (spKeep K "index") := by
  refine F.ok sc_Broken_init (fun vs H Q E h => ?_) (fun cdv A outer s H vs Q E hr h => ?_)
  · obtain ⟨a, C, y, rfl, _⟩ := h
    rfl
  · obtain ⟨a, C, y, rfl, ox, no, ha, k⟩ := h
    refine ⟨_, pss_one (ps_ostA (pv 0) (pv 1)), ?_⟩
    exact ⟨y, rfl, .ref a, rfl, a, C, rfl, ox, no, ha, k⟩
theorem ok_InUse_err {f : Addr} {fd : FuncData} (F : Fun K "__init__" "InUse.__init__" s_InUse_init f fd) : FnOk P w K mg base CX0 1 f fd ["self", "index"] (spKeep K "index") := by
  refine F.ok sc_InUse_init (fun vs H Q E h => ?_) (fun cdv A outer s H vs Q E hr h => ?_)
  · obtain ⟨a, C, y, rfl, _⟩ := h
    rfl
  · obtain ⟨a, C, y, rfl, ox, no, ha, k⟩ := h
    refine ⟨_, pss_one (ps_ostA (pv 0) (pv 1)), ?_⟩
    exact ⟨y, rfl, .ref a, rfl, a, C, rfl, ox, no, ha, k⟩
theorem ok_InvalidClaim_err {f : Addr} {fd : FuncData} (F : Fun K "__init__" "InvalidClaim.__init__" s_InvalidClaim_init f fd) : FnOk P w K mg base CX0 1 f fd ["self", "given"] (spKeep K "given") := by
  refine F.ok sc_InvalidClaim_init (fun vs H Q E h => ?_) (fun cdv A outer s H vs Q E hr h => ?_)
  · obtain ⟨a, C, y, rfl, _⟩ := h
    rfl
  · obtain ⟨a, C, y, rfl, ox, no, ha, k⟩ := h
    refine ⟨_, pss_one (ps_ostA (pv 0) (pv 1)), ?_⟩
    exact ⟨y, rfl, .ref a, rfl, a, C, rfl, ox, no, ha, k⟩
theorem ok_InvalidDead_err {f : Addr} {fd : FuncData} (F : Fun K "__init__" "InvalidDead.__init__" s_InvalidDead_init f fd) : FnOk P w K mg base CX0 1 f fd ["self", "index"] (spKeep K "index") := by
  refine F.ok sc_InvalidDead_init (fun vs H Q E h => ?_) (fun cdv A outer s H vs Q E hr h => ?_)
  · obtain ⟨a, C, y, rfl, _⟩ := h
    rfl
  · obtain ⟨a, C, y, rfl, ox, no, ha, k⟩ := h
    refine ⟨_, pss_one (ps_ostA (pv 0) (pv 1)), ?_⟩
    exact ⟨y, rfl, .ref a, rfl, a, C, rfl, ox, no, ha, k⟩
theorem ok_InvalidDeeds_err {f : Addr} {fd : FuncData} (F : Fun K "__init__" "InvalidDeeds.__init__" s_InvalidDeeds_init f fd) : FnOk P w K mg base CX0 1 f fd ["self", "index"] (spKeep K "index") := by
  refine F.ok sc_InvalidDeeds_init (fun vs H Q E h => ?_) (fun cdv A outer s H vs Q E hr h => ?_)
  · obtain ⟨a, C, y, rfl, _⟩ := h
    rfl
  · obtain ⟨a, C, y, rfl, ox, no, ha, k⟩ := h
    refine ⟨_, pss_one (ps_ostA (pv 0) (pv 1)), ?_⟩
    exact ⟨y, rfl, .ref a, rfl, a, C, rfl, ox, no, ha, k⟩
theorem ok_InvalidGroups_err {f : Addr} {fd : FuncData} (F : Fun K "__init__" "InvalidGroups.__init__" s_InvalidGroups_init f fd) : FnOk P w K mg base CX0 1 f fd ["self", "index"] (spKeep K "index") := by
  refine F.ok sc_InvalidGroups_init (fun vs H Q E h => ?_) (fun cdv A outer s H vs Q E hr h => ?_)
  · obtain ⟨a, C, y, rfl, _⟩ := h
    rfl
  · obtain ⟨a, C, y, rfl, ox, no, ha, k⟩ := h
    refine ⟨_, pss_one (ps_ostA (pv 0) (pv 1)), ?_⟩
    exact ⟨y, rfl, .ref a, rfl, a, C, rfl, ox, no, ha, k⟩
theorem ok_InvalidIndex_err {f : Addr} {fd : FuncData} (F : Fun K "__init__" "InvalidIndex.__init__" s_InvalidIndex_init f fd) : FnOk P w K mg base CX0 1 f fd ["self", "given"] (spKeep K "given") := by
  refine F.ok sc_InvalidIndex_init (fun vs H Q E h => ?_) (fun cdv A outer s H vs Q E hr h => ?_)
  · obtain ⟨a, C, y, rfl, _⟩ := h
    rfl
  · obtain ⟨a, C, y, rfl, ox, no, ha, k⟩ := h
    refine ⟨_, pss_one (ps_ostA (pv 0) (pv 1)), ?_⟩
    exact ⟨y, rfl, .ref a, rfl, a, C, rfl, ox, no, ha, k⟩
theorem ok_InvalidLength_err {f : Addr} {fd : FuncData} (F : Fun K "__init__" "InvalidLength.__init__" s_InvalidLength_init f fd) : FnOk P w K mg base CX0 1 f fd ["self", "given"] (spKeep K "given") := by
  refine F.ok sc_InvalidLength_init (fun vs H Q E h => ?_) (fun cdv A outer s H vs Q E hr h => ?_)
  · obtain ⟨a, C, y, rfl, _⟩ := h
    rfl
  · obtain ⟨a, C, y, rfl, ox, no, ha, k⟩ := h
    refine ⟨_, pss_one (ps_ostA (pv 0) (pv 1)), ?_⟩
    exact ⟨y, rfl, .ref a, rfl, a, C, rfl, ox, no, ha, k⟩
theorem ok_InvalidLine_err {f : Addr} {fd : FuncData} (F : Fun K "__init__" "InvalidLine.__init__" s_InvalidLine_init f fd) : FnOk P w K mg base CX0 1 f fd ["self", "given"] (spKeep K "given") := by
  refine F.ok sc_InvalidLine_init (fun vs H Q E h => ?_) (fun cdv A outer s H vs Q E hr h => ?_)
  · obtain ⟨a, C, y, rfl, _⟩ := h
    rfl
  · obtain ⟨a, C, y, rfl, ox, no, ha, k⟩ := h
    refine ⟨_, pss_one (ps_ostA (pv 0) (pv 1)), ?_⟩
    exact ⟨y, rfl, .ref a, rfl, a, C, rfl, ox, no, ha, k⟩
theorem ok_InvalidName_err {f : Addr} {fd : FuncData} (F : Fun K "__init__" "InvalidName.__init__" s_InvalidName_init f fd) : FnOk P w K mg base CX0 1 f fd ["self", "given"] (spKeep K "given") := by
  refine F.ok sc_InvalidName_init (fun vs H Q E h => ?_) (fun cdv A outer s H vs Q E hr h => ?_)
  · obtain ⟨a, C, y, rfl, _⟩ := h
    rfl
  · obtain ⟨a, C, y, rfl, ox, no, ha, k⟩ := h
    refine ⟨_, pss_one (ps_ostA (pv 0) (pv 1)), ?_⟩
    exact ⟨y, rfl, .ref a, rfl, a, C, rfl, ox, no, ha, k⟩
theorem ok_InvalidPace_err {f : Addr} {fd : FuncData} (F : Fun K "__init__" "InvalidPace.__init__" s_InvalidPace_init f fd) : FnOk P w K mg base CX0 1 f fd ["self", "given"] (spKeep K "given") := by
  refine F.ok sc_InvalidPace_init (fun vs H Q E h => ?_) (fun cdv A outer s H vs Q E hr h => ?_)
  · obtain ⟨a, C, y, rfl, _⟩ := h
    rfl
  · obtain ⟨a, C, y, rfl, ox, no, ha, k⟩ := h
    refine ⟨_, pss_one (ps_ostA (pv 0) (pv 1)), ?_⟩
    exact ⟨y, rfl, .ref a, rfl, a, C, rfl, ox, no, ha, k⟩
theorem ok_InvalidPaces_err {f : Addr} {fd : FuncData} (F : Fun K "__init__" "InvalidPaces.__init__" s_InvalidPaces_init f fd) : FnOk P w K mg base CX0 1 f fd ["self", "index"] (spKeep K "index") := by
  refine F.ok sc_InvalidPaces_init (fun vs H Q E h => ?_) (fun cdv A outer s H vs Q E hr h => ?_)
  · obtain ⟨a, C, y, rfl, _⟩ := h
    rfl
  · obtain ⟨a, C, y, rfl, ox, no, ha, k⟩ := h
    refine ⟨_, pss_one (ps_ostA (pv 0) (pv 1)), ?_⟩
    exact ⟨y, rfl, .ref a, rfl, a, C, rfl, ox, no, ha, k⟩
theorem ok_InvalidPlace_err {f : Addr} {fd : FuncData} (F : Fun K "__init__" "InvalidPlace.__init__" s_InvalidPlace_init f fd) : FnOk P w K mg base CX0 1 f fd ["self", "given"] (spKeep K "given") := by
  refine F.ok sc_InvalidPlace_init (fun vs H Q E h => ?_) (fun cdv A outer s H vs Q E hr h => ?_)
  · obtain ⟨a, C, y, rfl, _⟩ := h
    rfl
  · obtain ⟨a, C, y, rfl, ox, no, ha, k⟩ := h
    refine ⟨_, pss_one (ps_ostA (pv 0) (pv 1)), ?_⟩
    exact ⟨y, rfl, .ref a, rfl, a, C, rfl, ox, no, ha, k⟩
theorem ok_InvalidText_err {f : Addr} {fd : FuncData} (F : Fun K "__init__" "InvalidText.__init__" s_InvalidText_init f fd) : FnOk P w K mg base CX0 1 f fd ["self", "given"] (spKeep K "given") := by
  refine F.ok sc_InvalidText_init (fun vs H Q E h => ?_) (fun cdv A outer s H vs Q E hr h => ?_)
  · obtain ⟨a, C, y, rfl, _⟩ := h
    rfl
  · obtain ⟨a, C, y, rfl, ox, no, ha, k⟩ := h
    refine ⟨_, pss_one (ps_ostA (pv 0) (pv 1)), ?_⟩
    exact ⟨y, rfl, .ref a, rfl, a, C, rfl, ox, no, ha, k⟩
theorem ok_InvalidTime_err {f : Addr} {fd : FuncData} (F : Fun K "__init__" "InvalidTime.__init__" s_InvalidTime_init f fd) : FnOk P w K mg base CX0 1 f fd ["self", "given"] (spKeep K "given") := by
  refine F.ok sc_InvalidTime_init (fun vs H Q E h => ?_) (fun cdv A outer s H vs Q E hr h => ?_)
  · obtain ⟨a, C, y, rfl, _⟩ := h
    rfl
  · obtain ⟨a, C, y, rfl, ox, no, ha, k⟩ := h
    refine ⟨_, pss_one (ps_ostA (pv 0) (pv 1)), ?_⟩
    exact ⟨y, rfl, .ref a, rfl, a, C, rfl, ox, no, ha, k⟩
theorem ok_InvalidTimes_err {f : Addr} {fd : FuncData} (F : Fun K "__init__" "InvalidTimes.__init__" s_InvalidTimes_init f fd) : FnOk P w K mg base CX0 1 f fd ["self", "index"] (spKeep K "index") := by
  refine F.ok sc_InvalidTimes_init (fun vs H Q E h => ?_) (fun cdv A outer s H vs Q E hr h => ?_)
  · obtain ⟨a, C, y, rfl, _⟩ := h
    rfl
  · obtain ⟨a, C, y, rfl, ox, no, ha, k⟩ := h
    refine ⟨_, pss_one (ps_ostA (pv 0) (pv 1)), ?_⟩
    exact ⟨y, rfl, .ref a, rfl, a, C, rfl, ox, no, ha, k⟩
theorem ok_InvalidWidth_err {f : Addr} {fd : FuncData} (F : Fun K "__init__" "InvalidWidth.__init__" s_InvalidWidth_init f fd) : FnOk P w K mg base CX0 1 f fd ["self", "given"] (spKeep K "given") := by
  refine F.ok sc_InvalidWidth_init (fun vs H Q E h => ?_) (fun cdv A outer s H vs Q E hr h => ?_)
  · obtain ⟨a, C, y, rfl, _⟩ := h
    rfl
  · obtain ⟨a, C, y, rfl, ox, no, ha, k⟩ := h
    refine ⟨_, pss_one (ps_ostA (pv 0) (pv 1)), ?_⟩
    exact ⟨y, rfl, .ref a, rfl, a, C, rfl, ox, no, ha, k⟩
theorem ok_InvalidWindow_err {f : Addr} {fd : FuncData} (F : Fun K "__init__" "InvalidWindow.__init__" s_InvalidWindow_init f fd) : FnOk P w K mg base CX0 1 f fd ["self", "given"] (spKeep K "given") := by
  refine F.ok sc_InvalidWindow_init (fun vs H Q E h => ?_) (fun cdv A outer s H vs Q E hr h => ?_)
  · obtain ⟨a, C, y, rfl, _⟩ := h
    rfl
  · obtain ⟨a, C, y, rfl, ox, no, ha, k⟩ := h
    refine ⟨_, pss_one (ps_ostA (pv 0) (pv 1)), ?_⟩
    exact ⟨y, rfl, .ref a, rfl, a, C, rfl, ox, no, ha, k⟩
theorem ok_NotARecord_err {f : Addr} {fd : FuncData} (F : Fun K "__init__" "NotARecord.__init__" s_NotARecord_init f fd) : FnOk P w K mg base CX0 1 f fd ["self", "given"] (spKeep K "given") := by
  refine F.ok sc_NotARecord_init (fun vs H Q E h => ?_) (fun cdv A outer s H vs Q E hr h => ?_)
  · obtain ⟨a, C, y, rfl, _⟩ := h
    rfl
  · obtain ⟨a, C, y, rfl, ox, no, ha, k⟩ := h
    refine ⟨_, pss_one (ps_ostA (pv 0) (pv 1)), ?_⟩
    exact ⟨y, rfl, .ref a, rfl, a, C, rfl, ox, no, ha, k⟩
theorem ok_NotASign_err {f : Addr} {fd : FuncData} (F : Fun K "__init__" "NotASign.__init__" s_NotASign_init f fd) : FnOk P w K mg base CX0 1 f fd ["self", "given"] (spKeep K "given") := by
  refine F.ok sc_NotASign_init (fun vs H Q E h => ?_) (fun cdv A outer s H vs Q E hr h => ?_)
  · obtain ⟨a, C, y, rfl, _⟩ := h
    rfl
  · obtain ⟨a, C, y, rfl, ox, no, ha, k⟩ := h
    refine ⟨_, pss_one (ps_ostA (pv 0) (pv 1)), ?_⟩
    exact ⟨y, rfl, .ref a, rfl, a, C, rfl, ox, no, ha, k⟩
theorem ok_OtherKind_err {f : Addr} {fd : FuncData} (F : Fun K "__init__" "OtherKind.__init__" s_OtherKind_init f fd) : FnOk P w K mg base CX0 1 f fd ["self", "given"] (spKeep K "given") := by
  refine F.ok sc_OtherKind_init (fun vs H Q E h => ?_) (fun cdv A outer s H vs Q E hr h => ?_)
  · obtain ⟨a, C, y, rfl, _⟩ := h
    rfl
  · obtain ⟨a, C, y, rfl, ox, no, ha, k⟩ := h
    refine ⟨_, pss_one (ps_ostA (pv 0) (pv 1)), ?_⟩
    exact ⟨y, rfl, .ref a, rfl, a, C, rfl, ox, no, ha, k⟩
theorem ok_TooMany_err {f : Addr} {fd : FuncData} (F : Fun K "__init__" "TooMany.__init__" s_TooMany_init f fd) : FnOk P w K mg base CX0 1 f fd ["self", "most"] (spKeep K "most") := by
  refine F.ok sc_TooMany_init (fun vs H Q E h => ?_) (fun cdv A outer s H vs Q E hr h => ?_)
  · obtain ⟨a, C, y, rfl, _⟩ := h
    rfl
  · obtain ⟨a, C, y, rfl, ox, no, ha, k⟩ := h
    refine ⟨_, pss_one (ps_ostA (pv 0) (pv 1)), ?_⟩
    exact ⟨y, rfl, .ref a, rfl, a, C, rfl, ox, no, ha, k⟩
theorem ok_UnknownName_err {f : Addr} {fd : FuncData} (F : Fun K "__init__" "UnknownName.__init__" s_UnknownName_init f fd) : FnOk P w K mg base CX0 1 f fd ["self", "given"] (spKeep K "given") := by
  refine F.ok sc_UnknownName_init (fun vs H Q E h => ?_) (fun cdv A outer s H vs Q E hr h => ?_)
  · obtain ⟨a, C, y, rfl, _⟩ := h
    rfl
  · obtain ⟨a, C, y, rfl, ox, no, ha, k⟩ := h
    refine ⟨_, pss_one (ps_ostA (pv 0) (pv 1)), ?_⟩
    exact ⟨y, rfl, .ref a, rfl, a, C, rfl, ox, no, ha, k⟩
theorem ok_WrongValue_pass {f : Addr} {fd : FuncData} (F : Fun K "__init__" "WrongValue.__init__" s_WrongValue_init f fd) : FnOk P w K mg base CX0 1 f fd ["self"] spPass := by
  refine F.ok sc_WrongValue_init (fun vs H Q E h => h.1) (fun cdv A outer s H vs Q E hr h => ?_)
  exact ⟨_, pss_one ps_pass, h.2⟩
theorem ok_WrongName_pass {f : Addr} {fd : FuncData} (F : Fun K "__init__" "WrongName.__init__" s_WrongName_init f fd) : FnOk P w K mg base CX0 1 f fd ["self"] spPass := by
  refine F.ok sc_WrongName_init (fun vs H Q E h => h.1) (fun cdv A outer s H vs Q E hr h => ?_)
  exact ⟨_, pss_one ps_pass, h.2⟩
theorem ok_NoAnswer_pass {f : Addr} {fd : FuncData} (F : Fun K "__init__" "NoAnswer.__init__" s_NoAnswer_init f fd) : FnOk P w K mg base CX0 1 f fd ["self"] spPass := by
  refine F.ok sc_NoAnswer_init (fun vs H Q E h => h.1) (fun cdv A outer s H vs Q E hr h => ?_)
  exact ⟨_, pss_one ps_pass, h.2⟩
end
/-! what the head needs of the errors' classes -/
def exB (K : PySem.W.Frag) (D : Addr) : Bool := (decide (PySem.W.findIn K (.ref D) "__getattribute__" = some (some (.builtin "BaseException.__getattribute__"))) && (decide (PySem.W.findIn K (.ref D) "__getattr__" = some none) && (decide (PySem.W.subIn K (.ref D) (.type "BaseException") = some true) && PySem.W.hasDictIn K D))) && (decide (PySem.W.findIn K (.ref D) "__class__" = some (some (.builtin "object.__class__"))) && decide (PySem.W.mroIn K D (.type "object") = some true))
def xB (K : PySem.W.Frag) (D : Addr) (vs : List Value) (bs : List Bool) : Bool := exB K D && (vs.zip bs).all fun p => decide (PySem.W.kitOne K (.ref D) p.1 = some p.2)
theorem exB_x {K : PySem.W.Frag} {D : Addr} (h : exB K D = true) : XfC K D := by
  unfold exB at h
  simp only [Bool.and_eq_true, decide_eq_true_eq] at h
  exact ⟨h.1.1, h.1.2.1, h.1.2.2.1, h.1.2.2.2⟩
theorem exB_c {K : PySem.W.Frag} {D : Addr} (h : exB K D = true) (hn : PySem.W.specialIn K (.builtin "object.__class__") "__get__" = some (some (.builtin "getset_descriptor.__get__"))) (ht : PySem.W.takesIn K (.builtin "object.__class__") = some true) : ExcC K D := by
  unfold exB at h
  simp only [Bool.and_eq_true, decide_eq_true_eq] at h
  exact ⟨h.1.1, h.1.2.1, h.1.2.2.1, h.1.2.2.2, h.2.1, hn, ht, h.2.2⟩
theorem lk_mem {β : Type} {C : Str} {b : β} : ∀ {l : List (Str × β)}, l.lookup C = some b → (C, b) ∈ l
  | [], h => by cases h
  | (k, v) :: l, h => by
    rw [List.lookup_cons] at h
    split at h
    · rename_i e
      cases h
      rw [eq_of_beq e]
      exact List.mem_cons_self
    · exact List.mem_cons_of_mem _ (lk_mem h)
theorem xt_of {K : PySem.W.Frag} {cm : Str → Addr} (hn : PySem.W.specialIn K (.builtin "object.__class__") "__get__" = some (some (.builtin "getset_descriptor.__get__"))) (ht : PySem.W.takesIn K (.builtin "object.__class__") = some true) (all : ∀ p ∈ excTab, xB K (cm p.1) (vsOf cm) (bsOf p.2) = true) (j : Nat) {c2 : Str} {cv : Value} (h1 : (vsOf cm)[j]? = some cv) (h2 : tgs[j]? = some c2) : XT K cm cv (isTab c2) := by
  intro C b e
  unfold isTab at e
  obtain ⟨l, hl, rfl⟩ := Option.map_eq_some_iff.mp e
  have h := all _ (lk_mem hl)
  unfold xB at h
  obtain ⟨ha, hb⟩ := Bool.and_eq_true_iff.mp h
  refine ⟨exB_c ha hn ht, ?_⟩
  have hz : ((vsOf cm).zip (bsOf l))[j]? = some (cv, decide (c2 ∈ l)) := by
    rw [List.getElem?_zip_eq_some]
    refine ⟨h1, ?_⟩
    unfold bsOf
    rw [List.getElem?_map, h2]
    rfl
  have := List.all_eq_true.mp hb _ (List.mem_of_getElem? hz)
  exact of_decide_eq_true this
section
variable {P : Program} {w : World} {K : PySem.W.Frag} {mg : Str → Option Value} {base : Heap}
end
end L2.G
set_option Elab.async false
set_option linter.all false
set_option maxRecDepth 100000
set_option maxHeartbeats 4000000
namespace L2.G
open PySem PySem.Spec PyProof.Rows L2H
local macro_rules | `(tactic| walk_at "rd") => `(tactic| first | simp only [cxOf, tSeq, tMethK, tMeth, tMake, tMakeK, tProp, rLenI, rTxtI, rTruI, rEqI, tJs, tFmt, wipe, tBM, tBM0, tyV, cJoin, rIxS, sFld, tAsg, tOp, tUn, tCB, tCons, tNil, tVar, tC, rI, rI0, rU, cIx, cSet, cLen, cInt, cDivmod, cTup, cIsiB, cIsiC, cFld, tyN, isB_NoneType_int, isB_NoneType_str, isB_NoneType_bool, isB_NoneType_tuple, isB_bool_int, isB_bool_str, isB_bool_bool, isB_bool_tuple, isB_int_int, isB_int_str, isB_int_bool, isB_int_tuple, isB_str_int, isB_str_str, isB_str_bool, isB_str_tuple, isB_list_int, isB_list_str, isB_list_bool, isB_list_tuple, isB_tuple_int, isB_tuple_str, isB_tuple_bool, isB_tuple_tuple, isB_dict_int, isB_dict_str, isB_dict_bool, isB_dict_tuple, gSub, start, tIfS, tTest, tB, tNot, tAnd, tOr, tAndV, tOrV, tNotV, tChain, tIf, tSl, tPart, tNoPart, rSlL, rSlS, tLst, tTup, tYes, tRet, tNext, tDrop, gCons, gNil, gName, tCall, tPar, rEq, rNe, scal_ss, scal_ii, scal_bb, scal_nn, tNever,
  List.map_cons, List.map_nil, List.length_cons, List.length_nil, List.replicate, List.cons_append, List.nil_append, List.append_nil, List.getElem?_cons_zero, List.getElem?_cons_succ, List.set_cons_zero, List.set_cons_succ, List.getElem?_nil, Nat.reduceAdd, Nat.reduceSub, List.replicate_succ, List.replicate_zero,
  Option.some.injEq, V.int.injEq, V.ref.injEq, V.str.injEq, V.bl.injEq, V.ty.injEq, List.cons.injEq, and_true, true_and, and_assoc, exists_false, false_and, or_false, false_or, and_false, exists_eq_left', exists_and_left, exists_eq_left, upd_same, atI0, atI1, ixN20, ixN21, decide_eq_true_eq, if_true, if_false, reduceIte, Bool.false_eq_true, Bool.not_true, Bool.not_false, Bool.not_eq_true', decide_eq_false_iff_not,  reduceCtorEq, eq_self, decide_true, decide_false, not_true_eq_false, not_false_eq_true, id_eq] | skip)
theorem sc_l_sip : FnScope ["_law_cup_here", "_law_many", "_law_part"] ["_law_cup_here", "_law_many"] (defScope s_l_sip) := ⟨rfl, rfl, rfl, by decide +kernel, rfl, by decide +kernel, by decide +kernel⟩
theorem sc_l_cup : FnScope ["_law_script", "_law_spot", "_law_cell", "_law_part"] ["_law_script", "_law_spot"] (defScope s_l_cup) := ⟨rfl, rfl, rfl, by decide +kernel, rfl, by decide +kernel, by decide +kernel⟩
section
variable {P : Program} {w : World} {K : PySem.W.Frag} {mg : Str → Option Value} {base : Heap}
theorem ok_sip {f : Addr} {fd : FuncData} (F : Fun K "_law_sip" "_law_sip" s_l_sip f fd) (B : Bn mg) : FnOk P w K mg base CX0 1 f fd ["_law_cup_here", "_law_many"] spSipX := by
  refine F.ok sc_l_sip (fun vs H Q E h => ?_) (fun cdv A outer s H vs Q E hr h => ?_)
  · obtain ⟨p, n, a, b, rfl, _⟩ := h
    rfl
  · obtain ⟨p, n, a, b, rfl, hp, a0, a1, b0, n0, n1, k⟩ := h
    refine ⟨_, (pss_cons (ps_asg (pe_op op_mod (pe_callTy int_c rfl B.int boot_int (pa_cons (pe_op op_add (pe_op op_mul (pe_ix ix_c (pv 0) pe_int (fun _ _ => rfl)) pe_int) pe_int) pa_nil)) pe_int) (pg_sub (pv 0) pe_int set_c))
      (pss_cons (ps_if (pt_cmpR op_gt (pe_ix ix_c (pv 0) pe_int (fun _ _ => rfl)) pe_int (nomark _)) (pss_cons (ps_asg (pe_callB divmod_c rfl B.divmod boot_divmod (pa_cons (pe_ix ix_c (pv 0) pe_int (fun _ _ => rfl)) (pa_cons (pv 1) pa_nil))) (pg_tupC 2 rfl (pgs_cons (pg_sub (pv 0) pe_int set_c) (pgs_cons (pg_name (i := 2) sc_l_sip.nd rfl (Or.inl rfl)) pgs_nil))))
      (pss_one (ps_ret (pv 2)))) pss_nil)
      (pss_one (ps_ret (pe_op op_mod (pe_callTy int_c rfl B.int boot_int (pa_cons (pe_op op_fdiv (pe_ix ix_c (pv 0) pe_int (fun _ _ => rfl)) pe_int) pa_nil)) (pv 1)))))), ?_⟩
    walk_at "rd"
    simp only [hp]
    walk_at "rd"
    have m1 : CMul a 48271 := .inr ⟨by decide, by decide⟩
    refine ⟨m1, by decide, ?_⟩
    split
    · rename_i hb
      refine ⟨⟨n0, n1⟩, fun q hq => ?_⟩
      have npq : p ≠ q := fun e => by subst e; rw [upd_same] at hq; cases hq
      walk_at "rd"
      simp only [upd_ne npq]
      walk_at "rd"
      have es : sipF a b n = (b % n, ((a * 48271 + 11) % 2147483629, b / n)) := by unfold sipF; rw [if_pos hb]
      rw [es] at k
      refine k _ upd_same fun c o hc e => ?_
      rw [upd_ne hc, upd_ne, upd_ne hc]
      · exact e
      · intro z
        subst z
        rw [upd_ne hc, e] at hq
        cases hq
    · rename_i hb
      refine ⟨⟨by decide, by decide⟩, n0, ?_⟩
      have es : sipF a b n = (((a * 48271 + 11) % 2147483629 / 1021) % n, ((a * 48271 + 11) % 2147483629, b)) := by unfold sipF; rw [if_neg hb]
      rw [es] at k
      refine k _ upd_same fun c o hc e => ?_
      rw [upd_ne hc]
      exact e
theorem all_int_cut {ns : List Int} {lo hi : Option Int} {i : Nat} {x : V} (h : (cutV (ns.map V.int) lo hi)[i]? = some x) : ∃ n : Int, x = .int n := by
  have hm : x ∈ cutV (ns.map V.int) lo hi := List.mem_of_getElem? h
  unfold cutV at hm
  obtain ⟨n, _, e⟩ := List.mem_map.mp (List.mem_of_mem_drop (List.mem_of_mem_take hm))
  exact ⟨n, e.symm⟩
theorem ok_cup {f : Addr} {fd : FuncData} (F : Fun K "_law_cup" "_law_cup" s_l_cup f fd) (B : Bn mg) : FnOk P w K mg base CX0 1 f fd ["_law_script", "_law_spot"] (spCupX K) := by
  refine F.ok sc_l_cup (fun vs H Q E h => ?_) (fun cdv A outer s H vs Q E hr h => ?_)
  · obtain ⟨a, ns, j, rfl, _⟩ := h
    rfl
  · obtain ⟨a, ns, j, rfl, hS, l0, j0, k⟩ := h
    have hlen : LenV K (.ref a) H ns.length := .inl ⟨_, hS, by simp⟩
    refine ⟨_, (pss_cons (ps_cut (ps_set (i := 2) sc_l_cup.nd rfl (Or.inl rfl) (pe_ifExp (pt_cmpR op_lt (pv 1) (pe_callB call_len rfl B.len boot_len (pa_cons (pv 0) pa_nil)) (nomark _)) (pe_ix ix_list (pv 0) (pv 1) (fun _ _ => rfl)) (pe_op op_add (pe_op op_mul pe_int (pv 1)) pe_int))))
      (pss_cons (ps_for PassesOwn.never rfl (pi_list (pe_cut (pe_ifExp (pt_cmpR op_ge (pv 1) (pe_callB call_len rfl B.len boot_len (pa_cons (pv 0) pa_nil)) (nomark _)) (pe_slice sl_list (pv 0) po_none (po_some pe_int)) (pe_lst pa_nil)))) (pg_name (i := 3) sc_l_cup.nd rfl (Or.inl rfl)) (pss_one (ps_set (i := 2) sc_l_cup.nd rfl (Or.inl rfl) (pe_op op_mod (pe_callTy int_c rfl B.int boot_int (pa_cons (pe_op op_add (pe_op op_mul (pv 2) pe_int) (pv 3)) pa_nil)) pe_int))))
      (pss_one (ps_ret (pe_lst (pa_cons (pe_op op_mod (pe_callTy int_c rfl B.int boot_int (pa_cons (pe_op op_add (pe_op op_add (pe_op op_mul (pv 2) pe_int) (pe_op op_mul pe_int (pv 1))) pe_int) pa_nil)) pe_int) (pa_cons (pe_ifExp (PW.pt (pw_or (pt_cmpR op_lt (pv 2) pe_int (nomark _)) (pw_or1 (pt_cmpR op_ge (pv 2) (pe_op op_pow pe_int pe_int) (nomark _))))) (pe_callB call_abs rfl B.abs boot_abs (pa_cons (pv 2) pa_nil)) pe_int) pa_nil))))))), ?_⟩
    obtain ⟨R0, hR0⟩ : ∃ R : St → Hp → Prop, R = fun σ H' => H' = H ∧ ∃ c : Int, σ = [some (.ref a), some (.int j), some (.int c), none] := ⟨_, rfl⟩
    walk_at "rd"
    refine ⟨R0, ?_, ?_⟩
    · walk_at "rd"
      refine ⟨ns.length, hlen, ?_⟩
      split
      · rename_i hj
        have hj' : j < ns.length := by omega
        refine ⟨_, _, _, .int (ns[j]), rfl, rfl, hS, atI_nat (by simp [hj']), ?_⟩
        rw [hR0]
        exact ⟨rfl, _, rfl⟩
      · refine ⟨.inl ⟨by decide, by decide⟩, ?_⟩
        rw [hR0]
        exact ⟨rfl, _, rfl⟩
    · rw [hR0]
      rintro _ H0 ⟨rfl, c, rfl⟩
      obtain ⟨R1, hR1⟩ : ∃ R : VK, R = fun v H1 => ∃ (q : Addr) (xs : List V), v = .ref q ∧ Same H0 H1 ∧ H1 q = some (.lst xs) ∧ ∀ (i : Nat) x, xs[i]? = some x → ∃ n : Int, x = .int n := ⟨_, rfl⟩
      refine for_lstC R1 ?_ ?_
      · walk_at "rd"
        refine ⟨ns.length, hlen, ?_⟩
        split
        · refine ⟨_, hS, fun p hp => ?_⟩
          rw [hR1]
          exact ⟨p, _, rfl, Evl.Ex.new hp, upd_same, fun i x e => all_int_cut e⟩
        · refine ⟨by decide, fun p hp => ?_⟩
          rw [hR1]
          exact ⟨p, _, rfl, Evl.Ex.new hp, upd_same, fun i x e => by simp at e⟩
      · rw [hR1]
        rintro _ H1 ⟨q, xs, rfl, s1, hq, hx⟩
        obtain ⟨Pv, hPv⟩ : ∃ Pv : Nat → St → Hp → Prop, Pv = fun i σ H2 => H2 = H1 ∧ ∃ (c' : Int) (v : Option V), σ = [some (.ref a), some (.int j), some (.int c'), v] := ⟨_, rfl⟩
        refine ⟨q, xs, Pv, rfl, by rw [hPv]; exact ⟨rfl, c, none, rfl⟩, ?_, ?_, ?_⟩
        · rw [hPv]
          rintro i _ _ _ ⟨rfl, _⟩
          exact .inl (.inl hq)
        · intro i x σ2 H2 hi hp
          rw [hPv] at hp
          obtain ⟨rfl, c', v, rfl⟩ := hp
          obtain ⟨n, rfl⟩ := hx i x hi
          walk_at "rd"
          refine ⟨.inr ⟨by decide, by decide⟩, by decide, ?_⟩
          rw [hPv]
          exact ⟨rfl, _, _, rfl⟩
        · intro σ2 H2 hp
          rw [hPv] at hp
          obtain ⟨rfl, c', v, rfl⟩ := hp
          walk_at "rd"
          have fin : ∀ (b : Int) (p : Addr), 0 ≤ b → H2 p = none → Q (.ref p) (upd H2 p (.lst [.int ((c' * 4099 + 271 * ↑j + 17) % 2147483629), .int b])) := fun b p hb hp =>
            k p _ b _ (s1.free hp) (s1.trans (Evl.Ex.new hp)) upd_same (Int.emod_nonneg _ (by decide)) (Int.emod_lt_of_pos _ (by decide)) hb
          refine ⟨.inr ⟨by decide, by decide⟩, .inl ⟨by decide, by decide⟩, by decide, ?_⟩
          split
          · exact ⟨by decide, fun p hp => fin _ p (by omega) hp⟩
          · refine ⟨⟨by decide, by decide, by decide⟩, ?_⟩
            split
            · exact ⟨by decide, fun p hp => fin _ p (by omega) hp⟩
            · exact ⟨by decide, fun p hp => fin _ p (by omega) hp⟩
end
end L2.G
set_option Elab.async false
set_option linter.all false
set_option maxRecDepth 100000
set_option maxHeartbeats 2000000
namespace L2.G
open PySem PySem.Spec PyProof.Rows L2H
/-! what the proofs by data share: draws, loops, comprehensions, steps -/
def CuOk (c : Cu) : Prop := ∃ a b : Int, c = some (a, b) ∧ 0 ≤ a ∧ a < 2147483629 ∧ 0 ≤ b
theorem sip_in {n : Int} {c : Cu} (h : CuOk c) (hn : 0 < n) (h2 : n < 1073741824) : ∃ (i : Int) (c' : Cu), m_l_sip [.cup, .int n] c = .ok (.int i) c' ∧ 0 ≤ i ∧ i < n ∧ CuOk c' := by
  obtain ⟨a, b, rfl, a0, a1, b0⟩ := h
  have e : m_l_sip [.cup, .int n] (some (a, b)) = .ok (.int (sipF a b n).1) (some (sipF a b n).2) := by
    unfold m_l_sip noE sipD
    simp only [a0, a1, b0, hn, h2, and_self, if_true]
  refine ⟨_, _, e, ?_, ?_, (sipF a b n).2.1, (sipF a b n).2.2, rfl, ?_, ?_, ?_⟩ <;> unfold sipF <;> split <;> dsimp only
  · exact Int.emod_nonneg _ (by omega)
  · exact Int.emod_nonneg _ (by omega)
  · exact Int.emod_lt_of_pos _ hn
  · exact Int.emod_lt_of_pos _ hn
  · exact Int.emod_nonneg _ (by decide)
  · exact Int.emod_nonneg _ (by decide)
  · exact Int.emod_lt_of_pos _ (by decide)
  · exact Int.emod_lt_of_pos _ (by decide)
  · exact Int.ediv_nonneg b0 (by omega)
  · exact b0
theorem pick_in {ds : List D} {c : Cu} (h : CuOk c) (hn : 0 < ds.length) (h2 : ds.length < 1073741824) : ∃ d ∈ ds, ∃ c', m_l_pick [.cup, .lst ds] c = .ok d c' ∧ CuOk c' := by
  obtain ⟨i, c', e, i0, i1, hc⟩ := sip_in (n := (ds.length : Int)) h (by omega) (by omega)
  have hi : i.toNat < ds.length := by omega
  refine ⟨ds[i.toNat], List.getElem_mem hi, c', ?_, hc⟩
  have ea : atI ds i = some ds[i.toNat] := by
    simp only [atI, ixN]
    rw [if_pos i0, if_pos i1]
    simp [hi]
  simp [m_l_pick, noE, fnD, retS, opD, vD, caD, aD, biD, lenF, e, R.bind, ofO, ixF, ea]
/-- a list comprehension by a rule of its elements -/
theorem lcG_in {t : Tg} {ws : List Nat} {elt : PM D} {st : PSt} {Pd : D → Prop} (h : ∀ x c, CuOk c → ∃ st', asgT t x (wipeD st ws) = some st' ∧ ∃ d c', elt st' c = .ok d c' ∧ Pd d ∧ CuOk c') :
    ∀ (items : List D) (c : Cu), CuOk c → ∃ ds c', lcG t ws yesT elt st items c = .ok ds c' ∧ ds.length = items.length ∧ (∀ d ∈ ds, Pd d) ∧ CuOk c'
  | [], c, hc => ⟨[], c, by unfold lcG; rfl, rfl, by simp, hc⟩
  | x :: items, c, hc => by
    obtain ⟨st', e1, d, c1, e2, p, hc1⟩ := h x c hc
    obtain ⟨ds, c2, e3, l, q, hc2⟩ := lcG_in (ws := ws) h items c1 hc1
    refine ⟨d :: ds, c2, ?_, by simp [l], by simpa using ⟨p, q⟩, hc2⟩
    unfold lcG
    simp [e1, e2, e3, yesT, R.bind, nE]
theorem chr_a : (Str.ofString "a" : Str) = ⟨#[97]⟩ := by decide +kernel
theorem chr_b : (Str.ofString "b" : Str) = ⟨#[98]⟩ := by decide +kernel
theorem chr_c : (Str.ofString "c" : Str) = ⟨#[99]⟩ := by decide +kernel
theorem chr_m : (Str.ofString "-" : Str) = ⟨#[45]⟩ := by decide +kernel
theorem chr_0 : (Str.ofString "" : Str) = ⟨#[]⟩ := by decide +kernel
/-- texts of one sign each, joined -/
theorem join_in {l : List Nat} (h : l.length ≤ 1000) (hx : ∀ x ∈ l, x < 0x110000) : joinF (.str "") [.lst (l.map fun x => D.str ⟨#[x]⟩)] = some (.str ⟨l.toArray⟩) := by
  have so : strsOf (l.map fun x => D.str ⟨#[x]⟩) = some (l.map fun x => (⟨#[x]⟩ : Str)) := by
    clear h hx
    induction l with
    | nil => rfl
    | cons z zs ih => simp [strsOf, ih]
  have sz : sizeLine ≥ 1000 := by decide
  simp only [joinF, so, Option.bind_some, join_signs]
  rw [if_pos]
  refine ⟨?_, txtOk_iff.mpr ⟨by simp; omega, by simpa using hx⟩⟩
  have e1 : ((l.map fun x => (⟨#[x]⟩ : Str)).map (·.length)).sum = l.length := by
    clear h hx so
    induction l with
    | nil => rfl
    | cons z zs ih => simp only [List.map_cons, List.sum_cons, ih, List.length_cons]; show 1 + _ = _; omega
  rw [e1, chr_0]
  show l.length + _ * 0 ≤ _
  omega
theorem rgD_len : ∀ (n : Nat) (k : Int), (rgD k n).length = n
  | 0, k => rfl
  | n + 1, k => by simp [rgD, rgD_len n]
theorem strs_in {S : List Nat} : ∀ {ds : List D}, (∀ d ∈ ds, ∃ x ∈ S, d = .str ⟨#[x]⟩) → ∃ l : List Nat, ds = (l.map fun x => D.str ⟨#[x]⟩) ∧ ∀ x ∈ l, x ∈ S
  | [], _ => ⟨[], rfl, by simp⟩
  | d :: ds, q => by
    obtain ⟨z, hz, rfl⟩ := q d (by simp)
    obtain ⟨zs, e, hs⟩ := strs_in (S := S) (ds := ds) fun d hd => q d (List.mem_cons_of_mem _ hd)
    subst e
    refine ⟨z :: zs, rfl, fun x hx => ?_⟩
    rcases List.mem_cons.mp hx with rfl | h
    · exact hz
    · exact hs x h
/-- a list comprehension that keeps some of what is walked -/
theorem lcT_in {k : Nat} {ws : List Nat} {test : PM Bool} {st : PSt} (hk : k < (wipeD st ws).length) (h : ∀ x c, CuOk c → ∃ b c', test ((wipeD st ws).set k (some x)) c = .ok b c' ∧ CuOk c') :
    ∀ (items : List D) (c : Cu), CuOk c → ∃ ds c', lcG (.nm k) ws test (vD k) st items c = .ok ds c' ∧ ds.Sublist items ∧ CuOk c'
  | [], c, hc => ⟨[], c, by unfold lcG; rfl, .slnil, hc⟩
  | x :: items, c, hc => by
    obtain ⟨b, c1, e1, hc1⟩ := h x c hc
    obtain ⟨ds, c2, e3, l, hc2⟩ := lcT_in hk h items c1 hc1
    cases b with
    | true => exact ⟨x :: ds, c2, by unfold lcG; simp [asgT, e1, e3, vD, nE, R.bind, hk], l.cons₂ x, hc2⟩
    | false => exact ⟨ds, c2, by unfold lcG; simp [asgT, e1, e3, vD, nE, R.bind, hk], l.cons x, hc2⟩
theorem lcM_in {t : Tg} {ws : List Nat} {elt : PM D} {st : PSt} {Pd : D → Prop} : ∀ (items : List D) (c : Cu), CuOk c → (∀ x ∈ items, ∀ c, CuOk c → ∃ st', asgT t x (wipeD st ws) = some st' ∧ ∃ d c', elt st' c = .ok d c' ∧ Pd d ∧ CuOk c') →
    ∃ ds c', lcG t ws yesT elt st items c = .ok ds c' ∧ ds.length = items.length ∧ (∀ d ∈ ds, Pd d) ∧ CuOk c'
  | [], c, hc, _ => ⟨[], c, by unfold lcG; rfl, rfl, by simp, hc⟩
  | x :: items, c, hc, h => by
    obtain ⟨st', e1, d, c1, e2, p, hc1⟩ := h x (by simp) c hc
    obtain ⟨ds, c2, e3, l, q, hc2⟩ := lcM_in (t := t) (ws := ws) (elt := elt) (st := st) (Pd := Pd) items c1 hc1 fun x hx => h x (List.mem_cons_of_mem _ hx)
    refine ⟨d :: ds, c2, ?_, by simp [l], by simpa using ⟨p, q⟩, hc2⟩
    unfold lcG
    simp [e1, e2, e3, yesT, R.bind, nE]
theorem rgD_mem {n : Nat} {k : Int} {d : D} (h : d ∈ rgD k n) : ∃ j : Int, d = .int j ∧ k ≤ j ∧ j < k + n := by
  simp only [rgD, List.mem_map, List.mem_range] at h
  obtain ⟨i, hi, rfl⟩ := h
  exact ⟨_, rfl, by omega, by omega⟩
/-- a loop that comes to its end, by what holds behind each step -/
theorem loop_in {t : Tg} {f : PM Fl} {Inv : Nat → PSt → Cu → Prop} : ∀ (items : List D) (i : Nat) (st : PSt) (c : Cu), Inv i st c →
    (∀ j x, items[j]? = some x → ∀ st c, Inv (i + j) st c → ∃ st1, asgT t x st = some st1 ∧ ∃ st' c', f st1 c = .ok (.nx st') c' ∧ Inv (i + j + 1) st' c') →
    ∃ st' c', loopS t f items st c = .ok (.nx st') c' ∧ Inv (i + items.length) st' c'
  | [], i, st, c, h, _ => ⟨st, c, rfl, h⟩
  | x :: items, i, st, c, h, s => by
    obtain ⟨st1, e1, st', c', e2, h2⟩ := s 0 x rfl st c h
    obtain ⟨st3, c3, e3, h3⟩ := loop_in items (i + 1) st' c' h2 fun j x hx st c hi => by
      have := s (j + 1) x (by simpa using hx) st c (by rwa [show i + (j + 1) = i + 1 + j by omega])
      rwa [show i + (j + 1) + 1 = i + 1 + j + 1 by omega] at this
    refine ⟨st3, c3, ?_, by rwa [List.length_cons, show i + (items.length + 1) = i + 1 + items.length by omega]⟩
    simp only [loopS, e1, ofO, R.bind, e2, e3]
theorem enD_cons (i : Nat) (x : D) (xs : List D) : enD i (x :: xs) = .tup [.int (i : Nat), x] :: enD (i + 1) xs := rfl
def LETL : List Nat := [45, 97, 98, 99, 100, 101, 102, 103, 104, 105, 106, 107, 108, 109, 110, 111, 112, 113, 114, 115, 116, 117, 118, 119, 120, 121, 122]
def CAPL : List Nat := [65, 66, 67, 68, 69, 70, 71, 72, 73, 74, 75, 76, 77, 78, 79, 80, 81, 82, 83, 84, 85, 86, 87, 88, 89, 90]
theorem s_let : (Str.ofString "-abcdefghijklmnopqrstuvwxyz" : Str) = ⟨LETL.toArray⟩ := by decide +kernel
theorem s_cap : (Str.ofString "ABCDEFGHIJKLMNOPQRSTUVWXYZ" : Str) = ⟨CAPL.toArray⟩ := by decide +kernel
theorem s_q : (Str.ofString "?" : Str) = ⟨#[63]⟩ := by decide +kernel
theorem eqStr (n : Bool) (a b : Str) : eqF n (.str a) (.str b) = some (.bl (if n then !decide (a = b) else decide (a = b))) := by
  simp [eqF, okD, eqD, toP, PyData.eqv]
  cases n <;> simp <;> exact Bool.eq_iff_iff.mpr (by simp)
theorem eqInt (n : Bool) (a b : Int) : eqF n (.int a) (.int b) = some (.bl (if n then !decide (a = b) else decide (a = b))) := by
  simp [eqF, okD, eqD, toP, PyData.eqv]
  cases n <;> simp <;> exact Bool.eq_iff_iff.mpr (by simp)
theorem all_true {ds : List D} (h : ∀ d ∈ ds, d = .bl true) : allF [.lst ds] = some (.bl true) := by
  have e : blsOf ds = some (ds.map fun _ => true) := by
    induction ds with
    | nil => rfl
    | cons d ds ih =>
      rw [h d (by simp), blsOf, ih fun d hd => h d (List.mem_cons_of_mem _ hd)]
      rfl
  simp [allF, e]
/-- a comprehension whose elements change nothing -/
theorem lcP_in {t : Tg} {ws : List Nat} {elt : PM D} {st : PSt} {f : D → D} {c : Cu} : ∀ (items : List D), (∀ x ∈ items, ∃ st', asgT t x (wipeD st ws) = some st' ∧ elt st' c = .ok (f x) c) →
    lcG t ws yesT elt st items c = .ok (items.map f) c
  | [], _ => by unfold lcG; rfl
  | x :: items, h => by
    obtain ⟨st', e1, e2⟩ := h x (by simp)
    have e3 := lcP_in (t := t) (ws := ws) (elt := elt) (st := st) (f := f) (c := c) items fun x hx => h x (List.mem_cons_of_mem _ hx)
    unfold lcG
    simp [e1, e2, e3, yesT, R.bind, nE]
theorem seq_nx {f g : PM Fl} {st st' : PSt} {c c' : Cu} (h : f st c = .ok (.nx st') c') : seqS f g st c = g st' c' := by
  simp only [seqS, h, R.bind]
theorem seq_rt {f g : PM Fl} {st : PSt} {c c' : Cu} {d : D} (h : f st c = .ok (.rt d) c') : seqS f g st c = .ok (.rt d) c' := by
  simp only [seqS, h, R.bind]
theorem set_ok {i : Nat} {m : PM D} {st : PSt} {c c' : Cu} {d : D} (h : m st c = .ok d c') : setS i m st c = .ok (.nx (st.set i (some d))) c' := by
  simp only [setS, h, R.bind]
theorem ex_ok {m : PM D} {st : PSt} {c c' : Cu} {d : D} (h : m st c = .ok d c') : exS m st c = .ok (.nx st) c' := by
  simp only [exS, h, R.bind]
theorem ret_ok {m : PM D} {st : PSt} {c c' : Cu} {d : D} (h : m st c = .ok d c') : retS m st c = .ok (.rt d) c' := by
  simp only [retS, h, R.bind]
theorem if_no {t : PM Bool} {f g : PM Fl} {st : PSt} {c c' : Cu} (h : t st c = .ok false c') : ifS t f g st c = g st c' := by
  simp [ifS, h, R.bind]
theorem if_yes {t : PM Bool} {f g : PM Fl} {st : PSt} {c c' : Cu} (h : t st c = .ok true c') : ifS t f g st c = f st c' := by
  simp [ifS, h, R.bind]
theorem fn_rt {k n : Nat} {f : PM Fl} {ds : List D} {c c' : Cu} {d : D} (hk : ds.length = k) (h : f (ds.map some ++ List.replicate (n - k) none) c = .ok (.rt d) c') : fnD k n f ds c = .ok d c' := by
  simp only [fnD, hk, if_true, h, R.bind]
theorem fn_nx {k n : Nat} {f : PM Fl} {ds : List D} {c c' : Cu} {st : PSt} (hk : ds.length = k) (h : f (ds.map some ++ List.replicate (n - k) none) c = .ok (.nx st) c') : fnD k n f ds c = .ok .non c' := by
  simp only [fnD, hk, if_true, h, R.bind]
theorem noE_ok {m : Fd} {ds : List D} {c c' : Cu} {d : D} (h : m ds c = .ok d c') : noE m ds c = .ok d c' := by
  simp only [noE, h]
theorem ca_ok {m : Fd} {ms : List (PM D)} {st : PSt} {c c1 c' : Cu} {ds : List D} {d : D} (h : aD ms st c = .ok ds c1) (h2 : m ds c1 = .ok d c') : caD m ms st c = .ok d c' := by
  simp only [caD, h, R.bind, h2]
theorem pr_ok {C : Str} {m : Fd} {mo : PM D} {st : PSt} {c c1 c' : Cu} {ns : List Str} {ds : List D} {d : D} (h : mo st c = .ok (.ins C ns ds) c1) (h2 : m [.ins C ns ds] c1 = .ok d c') : prD C m mo st c = .ok d c' := by
  simp only [prD, h, R.bind, if_true, h2]
theorem for_ok {t : Tg} {it : PM (List D)} {f : PM Fl} {st : PSt} {c c1 : Cu} {ds : List D} (h : it st c = .ok ds c1) : forS t it f st c = loopS t f ds st c1 := by
  simp only [forS, h, R.bind]
/-- a comprehension that keeps what a test lets, and changes nothing -/
theorem lcF_in {k : Nat} {ws : List Nat} {test : PM Bool} {st : PSt} {c : Cu} (p : D → Bool) (hk : k < (wipeD st ws).length) : ∀ items : List D, (∀ x ∈ items, test ((wipeD st ws).set k (some x)) c = .ok (p x) c) →
    lcG (.nm k) ws test (vD k) st items c = .ok (items.filter p) c
  | [], _ => by unfold lcG; rfl
  | x :: items, h => by
    have e1 := h x (by simp)
    have e3 := lcF_in p hk items fun x hx => h x (List.mem_cons_of_mem _ hx)
    cases b : p x with
    | true => unfold lcG; simp [asgT, e1, e3, vD, nE, R.bind, hk, b]
    | false => unfold lcG; simp [asgT, e1, e3, vD, nE, R.bind, hk, b]
theorem in_ints (n : Bool) (j : Int) (l : List Int) : inF n (.int j) (.tup (l.map .int)) = some (.bl (if n then !decide (j ∈ l) else decide (j ∈ l))) := by
  have e1 : (l.map D.int).all (okD 0) = true := by simp [okD]
  have e2 : ((l.map D.int).any fun z => eqD z (.int j)) = decide (j ∈ l) := by
    rw [List.any_map]
    apply Bool.eq_iff_iff.mpr
    simp [eqD, toP, PyData.eqv]
  simp only [inF, e1, e2]
  simp [okD]
theorem ne_nil {ds : List Str} : eqF true (.lst (ds.map .str)) (.lst []) = some (.bl (decide (ds ≠ []))) := by
  have e1 : okD 60 (.lst (ds.map .str)) = true := by
    rw [show (60 : Nat) = 59 + 1 from rfl, okD_lst]
    simp [okD]
  have e2 : okD 60 (.lst []) = true := by rfl
  have e3 : eqD (.lst (ds.map .str)) (.lst []) = decide (ds = []) := by
    cases ds with
    | nil => rfl
    | cons x xs => rfl
  simp only [eqF, e1, e2, e3]
  simp
mutual
theorem eqv_rf : ∀ d : D, PyData.eqv (toP d) (toP d) = true
  | .non => by simp [toP, PyData.eqv]
  | .bl b => by simp [toP, PyData.eqv]
  | .int i => by simp [toP, PyData.eqv]
  | .str z => by simp [toP, PyData.eqv]
  | .tup ds => by
    simp only [toP, PyData.eqv]
    exact eqvs_rf ds
  | .lst ds => by
    simp only [toP, PyData.eqv]
    exact eqvs_rf ds
  | .dic => by simp [toP, PyData.eqv]
  | .ins _ _ _ => by simp [toP, PyData.eqv]
  | .dct _ _ => by simp [toP, PyData.eqv]
  | .exc _ _ _ => by simp [toP, PyData.eqv]
  | .cup => by simp [toP, PyData.eqv]
  | .scr _ => by simp [toP, PyData.eqv]
theorem eqvs_rf : ∀ ds : List D, PyData.eqvAll (toPs ds) (toPs ds) = true
  | [] => by simp [toPs, PyData.eqvAll]
  | d :: ds => by
    simp only [toPs, PyData.eqvAll, eqv_rf d, eqvs_rf ds, Bool.and_self]
end
theorem eqD_rf (d : D) : eqD d d = true := eqv_rf d
theorem eqvs_len : ∀ xs ys : List PyData, xs.length ≠ ys.length → PyData.eqvAll xs ys = false
  | [], [], h => absurd rfl h
  | [], _ :: _, _ => by simp [PyData.eqvAll]
  | _ :: _, [], _ => by simp [PyData.eqvAll]
  | x :: xs, y :: ys, h => by
    simp only [PyData.eqvAll, eqvs_len xs ys (by simpa using h), Bool.and_false]
theorem rgD_succ (a : Int) (n : Nat) : rgD a (n + 1) = .int a :: rgD (a + 1) n := by
  simp only [rgD, List.range_succ_eq_map, List.map_cons, List.map_map]
  congr 1
  · simp
  · apply List.map_congr_left
    intro i _
    simp only [Function.comp_apply]
    congr 1
    omega
theorem step_seq {f g : PM Fl} {st st1 : PSt} {c c1 : Cu} (P : R Fl → Prop) (h : f st c = .ok (.nx st1) c1) (k : P (g st1 c1)) : P (seqS f g st c) := by
  rw [seq_nx h]
  exact k
theorem for_seq {t : Tg} {it : PM (List D)} {f g : PM Fl} {st : PSt} {c c1 : Cu} {items : List D} (P : R Fl → Prop) (Inv : Nat → PSt → Cu → Prop) (hit : it st c = .ok items c1) (h0 : Inv 0 st c1)
    (step : ∀ j x, items[j]? = some x → ∀ st c, Inv j st c → ∃ st1, asgT t x st = some st1 ∧ ∃ st' c', f st1 c = .ok (.nx st') c' ∧ Inv (j + 1) st' c')
    (fin : ∀ st' c', Inv items.length st' c' → P (g st' c')) : P (seqS (forS t it f) g st c) := by
  obtain ⟨st', c', e, hi⟩ := loop_in (t := t) (f := f) (Inv := Inv) items 0 st c1 h0 (by simpa using step)
  rw [Nat.zero_add] at hi
  rw [seq_nx ((for_ok hit).trans e)]
  exact fin st' c' hi
theorem or_ff {a b : PM Bool} {st : PSt} {c c1 c2 : Cu} (h : a st c = .ok false c1) (h2 : b st c1 = .ok false c2) : orT a b st c = .ok false c2 := by
  simp [orT, h, h2, R.bind]
theorem tb_ok {m : PM D} {st : PSt} {c c1 : Cu} {b : Bool} (h : m st c = .ok (.bl b) c1) : tbD m st c = .ok b c1 := by
  simp [tbD, h, R.bind]
theorem op_ok {f : D → D → Option D} {a b : PM D} {st : PSt} {c c1 c2 : Cu} {x y z : D} (h : a st c = .ok x c1) (h2 : b st c1 = .ok y c2) (h3 : f x y = some z) : opD f a b st c = .ok z c2 := by
  simp [opD, h, h2, R.bind, h3, ofO]
theorem bi1_ok {f : List D → Option D} {a : PM D} {st : PSt} {c c1 : Cu} {x z : D} (h : a st c = .ok x c1) (h3 : f [x] = some z) : biD f [a] st c = .ok z c1 := by
  simp [biD, aD, h, R.bind, h3, ofO]
theorem not_ok {a : PM Bool} {st : PSt} {c c1 : Cu} {b : Bool} (h : a st c = .ok b c1) : notT a st c = .ok (!b) c1 := by
  simp [notT, h, R.bind]
theorem eqStr_ne (z : Str) : eqF true (.str z) (.str z) = some (.bl false) := by simp [eqStr]
theorem eqInt_ne (z : Int) : eqF true (.int z) (.int z) = some (.bl false) := by simp [eqInt]
theorem okD_mono : ∀ (n m : Nat) (d : D), n ≤ m → okD n d = true → okD m d = true := by
  intro n
  induction n with
  | zero => intro m d hm h; cases d <;> cases m <;> simp_all [okD]
  | succ n ih =>
    intro m d hm h
    obtain ⟨m, rfl⟩ : ∃ k, m = k + 1 := ⟨m - 1, by omega⟩
    cases d <;> simp_all [okD, okDs_all]
end L2.G
set_option Elab.async false
set_option linter.all false
set_option maxRecDepth 100000
set_option maxHeartbeats 4000000
namespace L2.G
open PySem PySem.Spec PyProof.Rows L2H
/-! k01 -/
theorem lcDk {t : Tg} {ws : List Nat} {it : PM (List D)} {ts : PM Bool} {elt : PM D} {st : PSt} {c c1 c2 : Cu} {items ds : List D} (h : it st c = .ok items c1) (h2 : lcG t ws ts elt st items c1 = .ok ds c2) : lcD t ws it ts elt st c = .ok (.lst ds) c2 := by
  simp only [lcD, h, R.bind, h2]
def things : List D := [.non, .int 0, .int (-3), .bl true, .str "a", .str "", .tup [], .tup [.int 1, .int 2], .lst [], .lst [.int 7], .dic, .dct [.inr "a"] [.int 1], .int 1000000000000000000000000000000, .tup [.str "set", .int 3]]
theorem right_in {c : Cu} (hc : CuOk c) : ∃ c', m_l_right [.cup] c = .ok (.bl true) c' := by
  let Q : R Fl → Prop := fun r => ∃ c', r = .ok (.rt (.bl true)) c'
  suffices h : Q _ from by
    obtain ⟨c', e⟩ := h
    exact ⟨c', noE_ok (fn_rt rfl e)⟩
  show Q (seqS _ _ [some .cup, none, none, none, none, none] c)
  refine step_seq Q (st1 := [some .cup, some (.lst things), none, none, none, none]) (c1 := c) (by kernel_rfl) ?_
  obtain ⟨d, hd, c', e, hc'⟩ := pick_in (ds := things) hc (by decide) (by decide)
  refine step_seq Q (st1 := [some .cup, some (.lst things), some d, none, none, none]) (c1 := c') ((set_ok (ca_ok (c1 := c) (ds := [.cup, .lst things]) rfl e)).trans rfl) ?_
  simp only [things, List.mem_cons, List.not_mem_nil, or_false] at hd
  refine ⟨c', ?_⟩
  rcases hd with rfl | rfl | rfl | rfl | rfl | rfl | rfl | rfl | rfl | rfl | rfl | rfl | rfl | rfl <;> kernel_rfl
theorem law_in (ns : List Int) (hn : ns.length ≤ 63) : m_law [.scr ns] none = .ok (.bl true) none := by
  let Q : R Fl → Prop := fun r => r = .ok (.rt (.bl true)) none
  refine noE_ok (fn_rt rfl ?_)
  show Q (seqS _ _ [some (.scr ns), none, none, none, none] none)
  let L1 : D := .lst [.int 8, .int 40, .int 9, .int 12, .int 6, .int 30, .int 1000000000000000000000000000000]
  let L2 : D := .lst [.exc "NothingToUndo" [] [], .exc "WrongValue" [] [], .exc "WrongName" [] [], .exc "NoAnswer" [] []]
  refine step_seq Q (st1 := [some (.scr ns), some L1, none, none, none]) (c1 := none) (by kernel_rfl) ?_
  refine step_seq Q (st1 := [some (.scr ns), some L1, none, none, none]) (c1 := none) (by kernel_rfl) ?_
  refine step_seq Q (st1 := [some (.scr ns), some L1, some L2, none, none]) (c1 := none) (by kernel_rfl) ?_
  refine step_seq Q (st1 := [some (.scr ns), some L1, some L2, none, none]) (c1 := none) (by kernel_rfl) ?_
  let S : PSt := [some (.scr ns), some L1, some L2, none, none]
  let n : Int := if (2 : Int) < (if 8 < (ns.length : Int) then 8 else (ns.length : Int)) then (if 8 < (ns.length : Int) then 8 else (ns.length : Int)) else 2
  have hn2 : n ≤ 8 ∧ 0 ≤ n := by
    show (if (2 : Int) < (if 8 < (ns.length : Int) then 8 else (ns.length : Int)) then (if 8 < (ns.length : Int) then 8 else (ns.length : Int)) else 2) ≤ 8 ∧ 0 ≤ (if (2 : Int) < (if 8 < (ns.length : Int) then 8 else (ns.length : Int)) then (if 8 < (ns.length : Int) then 8 else (ns.length : Int)) else 2)
    split <;> split <;> omega
  have it : itR1 (biD maxF [(cD (.int 2)), (biD minF [(biD lenF [(vD 0)]), (cD (.int 8))])]) S none = .ok (rgD 0 n.toNat) none := by
    have hm : biD maxF [(cD (.int 2)), (biD minF [(biD lenF [(vD 0)]), (cD (.int 8))])] S none = .ok (.int n) none := by
      simp [S, biD, aD, cD, vD, R.bind, ofO, lenF, minF, maxF, n]
    simp only [itR1, hm, R.bind]
    rw [if_pos (by omega)]
  have cu : ∀ a b : Int, 0 ≤ a → a < 2147483629 → 0 ≤ b → ∃ c', m_l_right [.cup] (some (a, b)) = .ok (.bl true) c' := fun a b h1 h2 h3 => right_in ⟨a, b, rfl, h1, h2, h3⟩
  have lc := lcP_in (c := none) (t := .nm 4) (ws := [4]) (elt := cupD m_l_right [(vD 0), (vD 4)]) (st := S) (f := fun _ => .bl true) (rgD 0 n.toNat) (by
    intro x hx
    obtain ⟨j, rfl, j0, j1⟩ := rgD_mem hx
    refine ⟨_, rfl, ?_⟩
    have ha : aD [(vD 0), (vD 4)] ((wipeD S [4]).set 4 (some (.int j))) none = .ok [.scr ns, .int j] none := rfl
    simp only [cupD, ha, R.bind]
    rw [if_pos ⟨⟨hn, by omega, by omega⟩, cu⟩])
  have al : allF [.lst ((rgD 0 n.toNat).map fun _ => D.bl true)] = some (.bl true) := all_true (by simp)
  exact ret_ok (bi1_ok (x := .lst ((rgD 0 n.toNat).map fun _ => D.bl true)) (lcDk it lc) al)
end L2.G
set_option Elab.async false
set_option linter.all false
set_option maxRecDepth 100000
set_option maxHeartbeats 4000000
namespace L2.G
open PySem PySem.Spec PyProof.Rows L2H
/-! what the heads of all laws share -/
theorem _root_.L2.Fun.toD {K : PySem.W.Frag} {x qual : Str} {st : Stmt} {f : Addr} {fd : FuncData} (F : Fun K x qual st f fd) : FunD K x qual (defArgs st) (defBody st) (defScope st) [] [] f fd := by
  obtain ⟨⟨oc, od, kV, doc, pm, an, cdv, ct, osl, e, lk, hcd⟩, kp⟩ := F
  exact ⟨⟨oc, od, .none, kV, doc, pm, an, cdv, ct, osl, e, lk, hcd, .inl ⟨rfl, rfl⟩, .inl rfl⟩, kp⟩
/-- the law at its start: nothing is tracked but the script and the empty tables -/
theorem law_start {K : PySem.W.Frag} {cm : Str → Addr} {cs : List Str} {T : List (Addr × Str)} {tb : List (Addr × Addr)} {m : Fd} (hm : ∀ ns : List Int, ns.length ≤ 63 → m [.scr ns] none = .ok (.bl true) none) (hT : ∀ p ∈ T, ∃ q ∈ tb, q.2 = p.1) :
    ∀ (H : Hp) (a : Addr) (ns : List Int), ns.length ≤ 63 → OnlyT tb H → (∀ p ∈ tb, H p.2 = some (.tbl #[])) → SqL K H a (ns.map V.int) → spD0 K cm cs T m [.ref a] H (fun v _ => v = .bl true) fun _ _ _ => False := by
  intro H a ns hl hO hH hS
  let Hs : Hp := fun b => match H b with
    | some (.tbl _) => none
    | o => o
  have h1 : ∀ b o, Nt o → H b = some o → Hs b = some o := fun b o t e => by
    show (match H b with | some (.tbl _) => none | o => o) = some o
    rw [e]
    cases o <;> first | rfl | exact absurd rfl (t _)
  have h2 : ∀ b o, Hs b = some o → H b = some o ∧ Nt o := fun b o e => by
    have e' : (match H b with | some (.tbl _) => none | o => o) = some o := e
    split at e'
    · cases e'
    · rename_i hn
      refine ⟨e', fun ps z => ?_⟩
      subst z
      exact hn ps e'
  have h3 : ∀ b ps, H b = some (.tbl ps) → Hs b = none := fun b ps e => by
    show (match H b with | some (.tbl _) => none | o => o) = none
    rw [e]
  have tbl : ∀ p ∈ T, H p.1 = some (.tbl #[]) := fun p hp => by
    obtain ⟨q, hq, e⟩ := hT p hp
    rw [← e]
    exact hH q hq
  refine ⟨Hs, [.scr ns], fun b o e => (h2 b o e).1, ⟨trivial, fun p hp => LamX.TabS.nil (tbl p hp), fun p hp => h3 _ _ (tbl p hp), fun b ps e => (h2 b _ e).2 ps rfl⟩, rll_cons.mpr ⟨_, _, rfl, rl_scr.mpr ⟨a, rfl, ?_⟩, rll_nil.mpr rfl⟩, ?_⟩
  · rcases hS with (h | ⟨o, h⟩) | h
    · exact .inl (.inl (h1 _ _ (fun _ z => by cases z) h))
    · exact .inl (.inr ⟨o, h1 _ _ (fun _ z => by cases z) h⟩)
    · exact .inr h
  · rw [hm ns hl]
    intro Hs' H' F v rv
    exact rl_bl.mp rv
/-- the end of a law with tables; what the top says of the tables is handed on -/
theorem walk_ofGT2 {l : PySem.W.OpenLaw} {n k : Nat} {q : Program} {loose : List Str} {XP : (Str → Option Value) → Heap → Prop} {YP : World → Heap → Prop} {d : DefRec} {K : Params → PySem.W.Frag} {x : Str}
    (hn : l.most = some n) (hn2 : n ≤ sizeLine) (hdf : d.params.defaults = []) (hr : Room k callerA) (hY : ∀ (w : World) (h : Heap), YP w h → (K w.params).In h)
    (F : ∀ (w : World) (mg : Str → Option Value) (fa : Addr) (h : Heap), YP w h → (K w.params).In h → h.Ns mainGlobals mg → mg d.name = some (.ref fa) →
      (∀ (y : Str) (e : DefRec) (c P : Addr), (recsOf q).find? (fun e => e.name == y) = some e → PySem.W.tabIn (K w.params) y = some (c, P) → PySem.W.CodeHd h c P ∧ h.get? P = some { cls := .none, data := .fields #[] }) → LawG l w (K w.params) k n x mg fa h) :
    PySem.W.WalkO q loose XP YP l.row.toRowW d [] (fun f vs => PySem.call f vs) := by
  refine Att.attach_call hn hdf fun w s₀ s₁ mg mb fa o pm cd doc a vs ns G Y ho hd hcd hmg hobj hints hlen hg => ?_
  obtain ⟨fd, cs, sp, hT, nT, C, hb, hsp, hF⟩ := F w mg fa _ Y (hY w _ Y) G.T.g hmg fun y e c P h1 h2 => PySem.W.tab_of G.T (hY w _ Y) h1 h2
  exact law_callGT (hY w _ Y) G.T.g G.T.b G.T.builtins G.T.nolimit hg hT nT C G.T.bmain hobj hints (Nat.le_trans hlen hn2) hr hF hb fun H hO hH hS => hsp H a ns hlen hO hH hS
theorem mro_no {C : Addr} : ∀ t ∈ tyNs, (fastBuiltinMro t).map (fun m : List Value => m.contains (.ref C)) = some false := by
  intro t ht
  have e : ∀ t ∈ tyNs, ∃ m, fastBuiltinMro t = some m ∧ m.all (fun v => match v with | .type _ => true | _ => false) = true := by
    have h : (tyNs.all fun t => match fastBuiltinMro t with | some m => m.all (fun v => match v with | .type _ => true | _ => false) | none => false) = true := by decide +kernel
    intro t ht
    have q := List.all_eq_true.mp h t ht
    split at q
    · rename_i m hm
      exact ⟨m, hm, q⟩
    · cases q
  obtain ⟨m, hm, q⟩ := e t ht
  rw [hm]
  show some (m.contains (.ref C)) = some false
  congr 1
  cases c : m.contains (Value.ref C) with
  | false => rfl
  | true =>
    have hmem : Value.ref C ∈ m := by simpa using c
    have z := List.all_eq_true.mp q _ hmem
    cases z
theorem kit_no {K : PySem.W.Frag} {C : Addr} (hd : PySem.W.hasDictIn K C = true) (ty : PySem.W.typeIn K (.ref C) = some (.type "type")) : ∀ t ∈ tyNs, PySem.W.kitOne K (.type t) (.ref C) = some false := by
  intro t ht
  have hc : (PySem.W.clsIn K C).isSome = true := by
    obtain ⟨cd, hc, _⟩ := PySem.W.any_some hd
    rw [hc]
    rfl
  have e1 : (Value.type t == Value.ref C) = false := rfl
  have e2 : PySem.W.subIn K (.type t) (.ref C) = some false := mro_no t ht
  unfold PySem.W.kitOne PySem.W.kitCls
  rw [e1]
  simp [e2, hc, ty]
theorem kit_bt {K : PySem.W.Frag} {C : Addr} {T : String} (hm : PySem.W.kitMeta T = true) (h : PySem.W.mroIn K C (.type T) = some false) : PySem.W.kitOne K (.ref C) (.type T) = some false := by
  have e1 : (Value.ref C == Value.type T) = false := rfl
  unfold PySem.W.kitOne PySem.W.kitCls
  rw [e1]
  simp [hm, PySem.W.subIn, h]
theorem kit_rf {K : PySem.W.Frag} {C C' : Addr} (hn : C ≠ C') (hd : PySem.W.hasDictIn K C' = true) (ty : PySem.W.typeIn K (.ref C') = some (.type "type")) (h : PySem.W.mroIn K C (.ref C') = some false) : PySem.W.kitOne K (.ref C) (.ref C') = some false := by
  have hc : (PySem.W.clsIn K C').isSome = true := by
    obtain ⟨cd, hc, _⟩ := PySem.W.any_some hd
    rw [hc]
    rfl
  have e1 : (Value.ref C == Value.ref C') = false := by simpa using hn
  unfold PySem.W.kitOne PySem.W.kitCls
  rw [e1]
  simp [hc, ty, PySem.W.subIn, h]
theorem kit_bt1 {K : PySem.W.Frag} {C : Addr} {T : String} (hm : PySem.W.kitMeta T = true) (h : PySem.W.mroIn K C (.type T) = some true) : PySem.W.kitOne K (.ref C) (.type T) = some true := by
  have e1 : (Value.ref C == Value.type T) = false := rfl
  unfold PySem.W.kitOne PySem.W.kitCls
  rw [e1]
  simp [hm, PySem.W.subIn, h]
theorem kit_rf1 {K : PySem.W.Frag} {C C' : Addr} (hd : PySem.W.hasDictIn K C' = true) (ty : PySem.W.typeIn K (.ref C') = some (.type "type")) (h : PySem.W.mroIn K C (.ref C') = some true) : PySem.W.kitOne K (.ref C) (.ref C') = some true := by
  have hc : (PySem.W.clsIn K C').isSome = true := by
    obtain ⟨cd, hc, _⟩ := PySem.W.any_some hd
    rw [hc]
    rfl
  unfold PySem.W.kitOne PySem.W.kitCls
  simp [hc, ty, PySem.W.subIn, h]
theorem kit_self {K : PySem.W.Frag} {C : Addr} : PySem.W.kitOne K (.ref C) (.ref C) = some true := by
  simp [PySem.W.kitOne]
theorem exm3 {K : PySem.W.Frag} {v a b c : Value} {x y z : Bool} (h1 : PySem.W.exmOne K v a = some x) (h2 : PySem.W.exmOne K v b = some y) (h3 : PySem.W.exmOne K v c = some z) (h : (x || (y || (z || false))) = true) : PySem.W.exmAny K v [a, b, c] = some true := by
  simp only [PySem.W.exmAny, h1, h2, h3]
  rw [h]
theorem err_mem {α : Type} {C : Str} {v : α} : ∀ {l : List (Str × α)}, l.lookup C = some v → (C, v) ∈ l
  | [], e => by cases e
  | (x, y) :: l, e => by
    rw [List.lookup_cons] at e
    by_cases h : C = x
    · subst h
      simp at e
      subst e
      exact List.mem_cons_self
    · have : (C == x) = false := by simpa using h
      rw [this] at e
      exact List.mem_cons_of_mem _ (err_mem e)
theorem tab_mk {K : PySem.W.Frag} {q : Str} {f cc pp : Addr} {oc o1 : Value} {od o2 : Option Addr} {sl o3 : Array (Option Value)} {fd : FuncData} {vs : Array Value} (a : PySem.W.nsIn K mainGlobals q = some (some (.ref f))) (l : K.lookup f = some ⟨oc, od, .func fd, sl⟩) (hc : fd.code = .ref cc) (cl : K.lookup cc = some ⟨o1, o2, .fields vs, o3⟩) (cv : vs[11]? = some (.ref pp)) : PySem.W.tabIn K q = some (cc, pp) := by
  unfold PySem.W.tabIn
  rw [a]
  simp only [l, hc, cl, cv]
theorem lk_none {α : Type} : ∀ {l : List (Addr × α)} {a : Addr}, (l.map (·.1)).contains a = false → l.lookup a = none
  | [], _, _ => rfl
  | (x, y) :: l, a, h => by
    simp only [List.map_cons, List.contains_cons, Bool.or_eq_false_iff] at h
    rw [List.lookup_cons, h.1]
    exact lk_none h.2
theorem km_out {K : Params → PySem.W.Frag} {as : List Addr} {e : ∀ P, as = (K P).map (·.1)} {ts : List Addr} {w : World} {h : Heap} (Y : (PySem.W.kmHook K as e ts).says w h) {a : Addr} (ha : as.contains a = false) : (K w.params).lookup a = none := lk_none (by rw [← e w.params]; exact ha)
theorem exm_of {K : PySem.W.Frag} {D A : Addr} {b : Bool} (sb : PySem.W.subIn K (.ref A) (.type "BaseException") = some true) (hd : PySem.W.hasDictIn K A = true) (ty : PySem.W.typeIn K (.ref A) = some (.type "type")) (h : PySem.W.mroIn K D (.ref A) = some b) : PySem.W.exmOne K (.ref D) (.ref A) = some b := by
  have hc : (PySem.W.clsIn K A).isSome = true := by
    obtain ⟨cd, hc, _⟩ := PySem.W.any_some hd
    rw [hc]
    rfl
  unfold PySem.W.exmOne PySem.W.kitCls
  rw [sb]
  simp [hc, ty, PySem.W.subIn, h]
end L2.G
set_option Elab.async false
set_option linter.all false
set_option maxRecDepth 100000
set_option maxHeartbeats 4000000
namespace L2.G
open PySem PySem.Spec PyProof.Rows L2H LamX
theorem all_mk {l : PySem.W.OpenLaw} {w : World} {K : PySem.W.Frag} {h : Heap} {mg : Str → Option Value} {fa : Addr} (X : K.In h) (Gn : h.Ns mainGlobals mg) (hfa : mg "law" = some (.ref fa)) {q0 : Program} (TBL : ∀ (y : Str) (e : DefRec) (c P : Addr), (recsOf q0).find? (fun e => e.name == y) = some e → PySem.W.tabIn K y = some (c, P) → PySem.W.CodeHd h c P ∧ h.get? P = some { cls := .none, data := .fields #[] })
    {C_NotASign : Addr}
    {C_NotARecord : Addr}
    {C_InvalidText : Addr}
    {C_InvalidPace : Addr}
    {C_InvalidWidth : Addr}
    {C_InvalidPlace : Addr}
    {C_InvalidLength : Addr}
    {C_InvalidTime : Addr}
    {C_InvalidWindow : Addr}
    {C_InvalidName : Addr}
    {C_InvalidClaim : Addr}
    {C_InvalidIndex : Addr}
    {C_InvalidLine : Addr}
    {C_InvalidDead : Addr}
    {C_InvalidPaces : Addr}
    {C_InvalidGroups : Addr}
    {C_InvalidTimes : Addr}
    {C_InvalidDeeds : Addr}
    {C_UnknownName : Addr}
    {C_InUse : Addr}
    {C_TooMany : Addr}
    {C_OtherKind : Addr}
    {C_Broken : Addr}
    {C_NothingToUndo : Addr}
    {C_WrongValue : Addr}
    {C_WrongName : Addr}
    {C_NoAnswer : Addr}
    {f0 : Addr} {oc0 kV0 dc0 pm0 cd0 ct0 : Value} {od0 an0 : Option Addr} {sl0 : Array (Option Value)}
    {f1 : Addr} {oc1 kV1 dc1 pm1 cd1 ct1 : Value} {od1 an1 : Option Addr} {sl1 : Array (Option Value)}
    {f2 : Addr} {oc2 kV2 dc2 pm2 cd2 ct2 : Value} {od2 an2 : Option Addr} {sl2 : Array (Option Value)}
    {f3 : Addr} {oc3 kV3 dc3 pm3 cd3 ct3 : Value} {od3 an3 : Option Addr} {sl3 : Array (Option Value)}
    {f4 : Addr} {oc4 kV4 dc4 pm4 cd4 ct4 : Value} {od4 an4 : Option Addr} {sl4 : Array (Option Value)}
    {f5 : Addr} {oc5 kV5 dc5 pm5 cd5 ct5 : Value} {od5 an5 : Option Addr} {sl5 : Array (Option Value)}
    {f6 : Addr} {oc6 kV6 dc6 pm6 cd6 ct6 : Value} {od6 an6 : Option Addr} {sl6 : Array (Option Value)}
    {f7 : Addr} {oc7 kV7 dc7 pm7 cd7 ct7 : Value} {od7 an7 : Option Addr} {sl7 : Array (Option Value)}
    {f8 : Addr} {oc8 kV8 dc8 pm8 cd8 ct8 : Value} {od8 an8 : Option Addr} {sl8 : Array (Option Value)}
    {f9 : Addr} {oc9 kV9 dc9 pm9 cd9 ct9 : Value} {od9 an9 : Option Addr} {sl9 : Array (Option Value)}
    {f10 : Addr} {oc10 kV10 dc10 pm10 cd10 ct10 : Value} {od10 an10 : Option Addr} {sl10 : Array (Option Value)}
    {f11 : Addr} {oc11 kV11 dc11 pm11 cd11 ct11 : Value} {od11 an11 : Option Addr} {sl11 : Array (Option Value)}
    {f12 : Addr} {oc12 kV12 dc12 pm12 cd12 ct12 : Value} {od12 an12 : Option Addr} {sl12 : Array (Option Value)}
    {f13 : Addr} {oc13 kV13 dc13 pm13 cd13 ct13 : Value} {od13 an13 : Option Addr} {sl13 : Array (Option Value)}
    {f14 : Addr} {oc14 kV14 dc14 pm14 cd14 ct14 : Value} {od14 an14 : Option Addr} {sl14 : Array (Option Value)}
    {f15 : Addr} {oc15 kV15 dc15 pm15 cd15 ct15 : Value} {od15 an15 : Option Addr} {sl15 : Array (Option Value)}
    {f16 : Addr} {oc16 kV16 dc16 pm16 cd16 ct16 : Value} {od16 an16 : Option Addr} {sl16 : Array (Option Value)}
    {f17 : Addr} {oc17 kV17 dc17 pm17 cd17 ct17 : Value} {od17 an17 : Option Addr} {sl17 : Array (Option Value)}
    {f18 : Addr} {oc18 kV18 dc18 pm18 cd18 ct18 : Value} {od18 an18 : Option Addr} {sl18 : Array (Option Value)}
    {f19 : Addr} {oc19 kV19 dc19 pm19 cd19 ct19 : Value} {od19 an19 : Option Addr} {sl19 : Array (Option Value)}
    {f20 : Addr} {oc20 kV20 dc20 pm20 cd20 ct20 : Value} {od20 an20 : Option Addr} {sl20 : Array (Option Value)}
    {f21 : Addr} {oc21 kV21 dc21 pm21 cd21 ct21 : Value} {od21 an21 : Option Addr} {sl21 : Array (Option Value)}
    {f22 : Addr} {oc22 kV22 dc22 pm22 cd22 ct22 : Value} {od22 an22 : Option Addr} {sl22 : Array (Option Value)}
    {f23 : Addr} {oc23 kV23 dc23 pm23 cd23 ct23 : Value} {od23 an23 : Option Addr} {sl23 : Array (Option Value)}
    {f24 : Addr} {oc24 kV24 dc24 pm24 cd24 ct24 : Value} {od24 an24 : Option Addr} {sl24 : Array (Option Value)}
    {f25 : Addr} {oc25 kV25 dc25 pm25 cd25 ct25 : Value} {od25 an25 : Option Addr} {sl25 : Array (Option Value)}
    {f26 : Addr} {oc26 kV26 dc26 pm26 cd26 ct26 : Value} {od26 an26 : Option Addr} {sl26 : Array (Option Value)}
    {f27 : Addr} {oc27 kV27 dc27 pm27 cd27 ct27 : Value} {od27 an27 : Option Addr} {sl27 : Array (Option Value)}
    {f28 : Addr} {oc28 kV28 dc28 pm28 cd28 ct28 : Value} {od28 an28 : Option Addr} {sl28 : Array (Option Value)}
    {f29 : Addr} {oc29 kV29 dc29 pm29 cd29 ct29 : Value} {od29 an29 : Option Addr} {sl29 : Array (Option Value)}
    {f30 : Addr} {oc30 kV30 dc30 pm30 cd30 ct30 : Value} {od30 an30 : Option Addr} {sl30 : Array (Option Value)}
    {f31 : Addr} {oc31 kV31 dc31 pm31 cd31 ct31 : Value} {od31 an31 : Option Addr} {sl31 : Array (Option Value)}
    {f32 : Addr} {oc32 kV32 dc32 pm32 cd32 ct32 : Value} {od32 an32 : Option Addr} {sl32 : Array (Option Value)}
    {f33 : Addr} {oc33 kV33 dc33 pm33 cd33 ct33 : Value} {od33 an33 : Option Addr} {sl33 : Array (Option Value)}
    {nm_Broken q_Broken : Str} {N_Broken : Addr} {bs_Broken : List Value} {sn_Broken : List Str} {sub_Broken : List Value} {ab_Broken : Bool} {col_Broken : Option Bool} {dd_Broken : Option Addr} {e0_Broken e1_Broken e2_Broken e3_Broken e5_Broken : Option Value}
    {nm_InUse q_InUse : Str} {N_InUse : Addr} {bs_InUse : List Value} {sn_InUse : List Str} {sub_InUse : List Value} {ab_InUse : Bool} {col_InUse : Option Bool} {dd_InUse : Option Addr} {e0_InUse e1_InUse e2_InUse e3_InUse e5_InUse : Option Value}
    {nm_InvalidClaim q_InvalidClaim : Str} {N_InvalidClaim : Addr} {bs_InvalidClaim : List Value} {sn_InvalidClaim : List Str} {sub_InvalidClaim : List Value} {ab_InvalidClaim : Bool} {col_InvalidClaim : Option Bool} {dd_InvalidClaim : Option Addr} {e0_InvalidClaim e1_InvalidClaim e2_InvalidClaim e3_InvalidClaim e5_InvalidClaim : Option Value}
    {nm_InvalidDead q_InvalidDead : Str} {N_InvalidDead : Addr} {bs_InvalidDead : List Value} {sn_InvalidDead : List Str} {sub_InvalidDead : List Value} {ab_InvalidDead : Bool} {col_InvalidDead : Option Bool} {dd_InvalidDead : Option Addr} {e0_InvalidDead e1_InvalidDead e2_InvalidDead e3_InvalidDead e5_InvalidDead : Option Value}
    {nm_InvalidDeeds q_InvalidDeeds : Str} {N_InvalidDeeds : Addr} {bs_InvalidDeeds : List Value} {sn_InvalidDeeds : List Str} {sub_InvalidDeeds : List Value} {ab_InvalidDeeds : Bool} {col_InvalidDeeds : Option Bool} {dd_InvalidDeeds : Option Addr} {e0_InvalidDeeds e1_InvalidDeeds e2_InvalidDeeds e3_InvalidDeeds e5_InvalidDeeds : Option Value}
    {nm_InvalidGroups q_InvalidGroups : Str} {N_InvalidGroups : Addr} {bs_InvalidGroups : List Value} {sn_InvalidGroups : List Str} {sub_InvalidGroups : List Value} {ab_InvalidGroups : Bool} {col_InvalidGroups : Option Bool} {dd_InvalidGroups : Option Addr} {e0_InvalidGroups e1_InvalidGroups e2_InvalidGroups e3_InvalidGroups e5_InvalidGroups : Option Value}
    {nm_InvalidIndex q_InvalidIndex : Str} {N_InvalidIndex : Addr} {bs_InvalidIndex : List Value} {sn_InvalidIndex : List Str} {sub_InvalidIndex : List Value} {ab_InvalidIndex : Bool} {col_InvalidIndex : Option Bool} {dd_InvalidIndex : Option Addr} {e0_InvalidIndex e1_InvalidIndex e2_InvalidIndex e3_InvalidIndex e5_InvalidIndex : Option Value}
    {nm_InvalidLength q_InvalidLength : Str} {N_InvalidLength : Addr} {bs_InvalidLength : List Value} {sn_InvalidLength : List Str} {sub_InvalidLength : List Value} {ab_InvalidLength : Bool} {col_InvalidLength : Option Bool} {dd_InvalidLength : Option Addr} {e0_InvalidLength e1_InvalidLength e2_InvalidLength e3_InvalidLength e5_InvalidLength : Option Value}
    {nm_InvalidLine q_InvalidLine : Str} {N_InvalidLine : Addr} {bs_InvalidLine : List Value} {sn_InvalidLine : List Str} {sub_InvalidLine : List Value} {ab_InvalidLine : Bool} {col_InvalidLine : Option Bool} {dd_InvalidLine : Option Addr} {e0_InvalidLine e1_InvalidLine e2_InvalidLine e3_InvalidLine e5_InvalidLine : Option Value}
    {nm_InvalidName q_InvalidName : Str} {N_InvalidName : Addr} {bs_InvalidName : List Value} {sn_InvalidName : List Str} {sub_InvalidName : List Value} {ab_InvalidName : Bool} {col_InvalidName : Option Bool} {dd_InvalidName : Option Addr} {e0_InvalidName e1_InvalidName e2_InvalidName e3_InvalidName e5_InvalidName : Option Value}
    {nm_InvalidPace q_InvalidPace : Str} {N_InvalidPace : Addr} {bs_InvalidPace : List Value} {sn_InvalidPace : List Str} {sub_InvalidPace : List Value} {ab_InvalidPace : Bool} {col_InvalidPace : Option Bool} {dd_InvalidPace : Option Addr} {e0_InvalidPace e1_InvalidPace e2_InvalidPace e3_InvalidPace e5_InvalidPace : Option Value}
    {nm_InvalidPaces q_InvalidPaces : Str} {N_InvalidPaces : Addr} {bs_InvalidPaces : List Value} {sn_InvalidPaces : List Str} {sub_InvalidPaces : List Value} {ab_InvalidPaces : Bool} {col_InvalidPaces : Option Bool} {dd_InvalidPaces : Option Addr} {e0_InvalidPaces e1_InvalidPaces e2_InvalidPaces e3_InvalidPaces e5_InvalidPaces : Option Value}
    {nm_InvalidPlace q_InvalidPlace : Str} {N_InvalidPlace : Addr} {bs_InvalidPlace : List Value} {sn_InvalidPlace : List Str} {sub_InvalidPlace : List Value} {ab_InvalidPlace : Bool} {col_InvalidPlace : Option Bool} {dd_InvalidPlace : Option Addr} {e0_InvalidPlace e1_InvalidPlace e2_InvalidPlace e3_InvalidPlace e5_InvalidPlace : Option Value}
    {nm_InvalidText q_InvalidText : Str} {N_InvalidText : Addr} {bs_InvalidText : List Value} {sn_InvalidText : List Str} {sub_InvalidText : List Value} {ab_InvalidText : Bool} {col_InvalidText : Option Bool} {dd_InvalidText : Option Addr} {e0_InvalidText e1_InvalidText e2_InvalidText e3_InvalidText e5_InvalidText : Option Value}
    {nm_InvalidTime q_InvalidTime : Str} {N_InvalidTime : Addr} {bs_InvalidTime : List Value} {sn_InvalidTime : List Str} {sub_InvalidTime : List Value} {ab_InvalidTime : Bool} {col_InvalidTime : Option Bool} {dd_InvalidTime : Option Addr} {e0_InvalidTime e1_InvalidTime e2_InvalidTime e3_InvalidTime e5_InvalidTime : Option Value}
    {nm_InvalidTimes q_InvalidTimes : Str} {N_InvalidTimes : Addr} {bs_InvalidTimes : List Value} {sn_InvalidTimes : List Str} {sub_InvalidTimes : List Value} {ab_InvalidTimes : Bool} {col_InvalidTimes : Option Bool} {dd_InvalidTimes : Option Addr} {e0_InvalidTimes e1_InvalidTimes e2_InvalidTimes e3_InvalidTimes e5_InvalidTimes : Option Value}
    {nm_InvalidWidth q_InvalidWidth : Str} {N_InvalidWidth : Addr} {bs_InvalidWidth : List Value} {sn_InvalidWidth : List Str} {sub_InvalidWidth : List Value} {ab_InvalidWidth : Bool} {col_InvalidWidth : Option Bool} {dd_InvalidWidth : Option Addr} {e0_InvalidWidth e1_InvalidWidth e2_InvalidWidth e3_InvalidWidth e5_InvalidWidth : Option Value}
    {nm_InvalidWindow q_InvalidWindow : Str} {N_InvalidWindow : Addr} {bs_InvalidWindow : List Value} {sn_InvalidWindow : List Str} {sub_InvalidWindow : List Value} {ab_InvalidWindow : Bool} {col_InvalidWindow : Option Bool} {dd_InvalidWindow : Option Addr} {e0_InvalidWindow e1_InvalidWindow e2_InvalidWindow e3_InvalidWindow e5_InvalidWindow : Option Value}
    {nm_NotARecord q_NotARecord : Str} {N_NotARecord : Addr} {bs_NotARecord : List Value} {sn_NotARecord : List Str} {sub_NotARecord : List Value} {ab_NotARecord : Bool} {col_NotARecord : Option Bool} {dd_NotARecord : Option Addr} {e0_NotARecord e1_NotARecord e2_NotARecord e3_NotARecord e5_NotARecord : Option Value}
    {nm_NotASign q_NotASign : Str} {N_NotASign : Addr} {bs_NotASign : List Value} {sn_NotASign : List Str} {sub_NotASign : List Value} {ab_NotASign : Bool} {col_NotASign : Option Bool} {dd_NotASign : Option Addr} {e0_NotASign e1_NotASign e2_NotASign e3_NotASign e5_NotASign : Option Value}
    {nm_OtherKind q_OtherKind : Str} {N_OtherKind : Addr} {bs_OtherKind : List Value} {sn_OtherKind : List Str} {sub_OtherKind : List Value} {ab_OtherKind : Bool} {col_OtherKind : Option Bool} {dd_OtherKind : Option Addr} {e0_OtherKind e1_OtherKind e2_OtherKind e3_OtherKind e5_OtherKind : Option Value}
    {nm_TooMany q_TooMany : Str} {N_TooMany : Addr} {bs_TooMany : List Value} {sn_TooMany : List Str} {sub_TooMany : List Value} {ab_TooMany : Bool} {col_TooMany : Option Bool} {dd_TooMany : Option Addr} {e0_TooMany e1_TooMany e2_TooMany e3_TooMany e5_TooMany : Option Value}
    {nm_UnknownName q_UnknownName : Str} {N_UnknownName : Addr} {bs_UnknownName : List Value} {sn_UnknownName : List Str} {sub_UnknownName : List Value} {ab_UnknownName : Bool} {col_UnknownName : Option Bool} {dd_UnknownName : Option Addr} {e0_UnknownName e1_UnknownName e2_UnknownName e3_UnknownName e5_UnknownName : Option Value}
    {nm_NothingToUndo q_NothingToUndo : Str} {N_NothingToUndo : Addr} {bs_NothingToUndo : List Value} {sn_NothingToUndo : List Str} {sub_NothingToUndo : List Value} {ab_NothingToUndo : Bool} {col_NothingToUndo : Option Bool} {dd_NothingToUndo : Option Addr} {e0_NothingToUndo e1_NothingToUndo e2_NothingToUndo e3_NothingToUndo e5_NothingToUndo : Option Value}
    {nm_WrongValue q_WrongValue : Str} {N_WrongValue : Addr} {bs_WrongValue : List Value} {sn_WrongValue : List Str} {sub_WrongValue : List Value} {ab_WrongValue : Bool} {col_WrongValue : Option Bool} {dd_WrongValue : Option Addr} {e0_WrongValue e1_WrongValue e2_WrongValue e3_WrongValue e5_WrongValue : Option Value}
    {nm_WrongName q_WrongName : Str} {N_WrongName : Addr} {bs_WrongName : List Value} {sn_WrongName : List Str} {sub_WrongName : List Value} {ab_WrongName : Bool} {col_WrongName : Option Bool} {dd_WrongName : Option Addr} {e0_WrongName e1_WrongName e2_WrongName e3_WrongName e5_WrongName : Option Value}
    {nm_NoAnswer q_NoAnswer : Str} {N_NoAnswer : Addr} {bs_NoAnswer : List Value} {sn_NoAnswer : List Str} {sub_NoAnswer : List Value} {ab_NoAnswer : Bool} {col_NoAnswer : Option Bool} {dd_NoAnswer : Option Addr} {e0_NoAnswer e1_NoAnswer e2_NoAnswer e3_NoAnswer e5_NoAnswer : Option Value}
    {u0 : Tok}
    {u1 : Tok}
    {u2 : Tok}
    {u3 : Tok}
    {u4 : Tok}
    {u5 : Tok}
    {u6 : Tok}
    (aC_NotASign : PySem.W.nsIn K mainGlobals "NotASign" = some (some (.ref C_NotASign)))
    (aC_NotARecord : PySem.W.nsIn K mainGlobals "NotARecord" = some (some (.ref C_NotARecord)))
    (aC_InvalidText : PySem.W.nsIn K mainGlobals "InvalidText" = some (some (.ref C_InvalidText)))
    (aC_InvalidPace : PySem.W.nsIn K mainGlobals "InvalidPace" = some (some (.ref C_InvalidPace)))
    (aC_InvalidWidth : PySem.W.nsIn K mainGlobals "InvalidWidth" = some (some (.ref C_InvalidWidth)))
    (aC_InvalidPlace : PySem.W.nsIn K mainGlobals "InvalidPlace" = some (some (.ref C_InvalidPlace)))
    (aC_InvalidLength : PySem.W.nsIn K mainGlobals "InvalidLength" = some (some (.ref C_InvalidLength)))
    (aC_InvalidTime : PySem.W.nsIn K mainGlobals "InvalidTime" = some (some (.ref C_InvalidTime)))
    (aC_InvalidWindow : PySem.W.nsIn K mainGlobals "InvalidWindow" = some (some (.ref C_InvalidWindow)))
    (aC_InvalidName : PySem.W.nsIn K mainGlobals "InvalidName" = some (some (.ref C_InvalidName)))
    (aC_InvalidClaim : PySem.W.nsIn K mainGlobals "InvalidClaim" = some (some (.ref C_InvalidClaim)))
    (aC_InvalidIndex : PySem.W.nsIn K mainGlobals "InvalidIndex" = some (some (.ref C_InvalidIndex)))
    (aC_InvalidLine : PySem.W.nsIn K mainGlobals "InvalidLine" = some (some (.ref C_InvalidLine)))
    (aC_InvalidDead : PySem.W.nsIn K mainGlobals "InvalidDead" = some (some (.ref C_InvalidDead)))
    (aC_InvalidPaces : PySem.W.nsIn K mainGlobals "InvalidPaces" = some (some (.ref C_InvalidPaces)))
    (aC_InvalidGroups : PySem.W.nsIn K mainGlobals "InvalidGroups" = some (some (.ref C_InvalidGroups)))
    (aC_InvalidTimes : PySem.W.nsIn K mainGlobals "InvalidTimes" = some (some (.ref C_InvalidTimes)))
    (aC_InvalidDeeds : PySem.W.nsIn K mainGlobals "InvalidDeeds" = some (some (.ref C_InvalidDeeds)))
    (aC_UnknownName : PySem.W.nsIn K mainGlobals "UnknownName" = some (some (.ref C_UnknownName)))
    (aC_InUse : PySem.W.nsIn K mainGlobals "InUse" = some (some (.ref C_InUse)))
    (aC_TooMany : PySem.W.nsIn K mainGlobals "TooMany" = some (some (.ref C_TooMany)))
    (aC_OtherKind : PySem.W.nsIn K mainGlobals "OtherKind" = some (some (.ref C_OtherKind)))
    (aC_Broken : PySem.W.nsIn K mainGlobals "Broken" = some (some (.ref C_Broken)))
    (aC_NothingToUndo : PySem.W.nsIn K mainGlobals "NothingToUndo" = some (some (.ref C_NothingToUndo)))
    (aC_WrongValue : PySem.W.nsIn K mainGlobals "WrongValue" = some (some (.ref C_WrongValue)))
    (aC_WrongName : PySem.W.nsIn K mainGlobals "WrongName" = some (some (.ref C_WrongName)))
    (aC_NoAnswer : PySem.W.nsIn K mainGlobals "NoAnswer" = some (some (.ref C_NoAnswer)))
    (a0 : PySem.W.nsIn K mainGlobals "_law_sip" = some (some (.ref f0)))
    (l0 : K.lookup f0 = some ⟨oc0, od0, .func (PySem.W.fnOf "_law_sip" "_law_sip" (defArgs s_l_sip) (defBody s_l_sip) (defScope s_l_sip) .none kV0 dc0 pm0 an0 cd0 ct0), sl0⟩)
    (c0 : PySem.W.codeIn K cd0 "_law_sip" = true)
    (k0 : PySem.W.keepIn K (.ref f0) = true)
    (a1 : PySem.W.nsIn K mainGlobals "_law_cup" = some (some (.ref f1)))
    (l1 : K.lookup f1 = some ⟨oc1, od1, .func (PySem.W.fnOf "_law_cup" "_law_cup" (defArgs s_l_cup) (defBody s_l_cup) (defScope s_l_cup) .none kV1 dc1 pm1 an1 cd1 ct1), sl1⟩)
    (c1 : PySem.W.codeIn K cd1 "_law_cup" = true)
    (k1 : PySem.W.keepIn K (.ref f1) = true)
    (a2 : PySem.W.nsIn K mainGlobals "_law_classes" = some (some (.ref f2)))
    (l2 : K.lookup f2 = some ⟨oc2, od2, .func (PySem.W.fnOf "_law_classes" "_law_classes" (defArgs s_l_classes) (defBody s_l_classes) (defScope s_l_classes) .none kV2 dc2 pm2 an2 cd2 ct2), sl2⟩)
    (c2 : PySem.W.codeIn K cd2 "_law_classes" = true)
    (k2 : PySem.W.keepIn K (.ref f2) = true)
    (a3 : PySem.W.nsIn K mainGlobals "_law_given" = some (some (.ref f3)))
    (l3 : K.lookup f3 = some ⟨oc3, od3, .func (PySem.W.fnOf "_law_given" "_law_given" (defArgs s_l_given) (defBody s_l_given) (defScope s_l_given) .none kV3 dc3 pm3 an3 cd3 ct3), sl3⟩)
    (c3 : PySem.W.codeIn K cd3 "_law_given" = true)
    (k3 : PySem.W.keepIn K (.ref f3) = true)
    (a4 : PySem.W.nsIn K mainGlobals "_law_indexed" = some (some (.ref f4)))
    (l4 : K.lookup f4 = some ⟨oc4, od4, .func (PySem.W.fnOf "_law_indexed" "_law_indexed" (defArgs s_l_indexed) (defBody s_l_indexed) (defScope s_l_indexed) .none kV4 dc4 pm4 an4 cd4 ct4), sl4⟩)
    (c4 : PySem.W.codeIn K cd4 "_law_indexed" = true)
    (k4 : PySem.W.keepIn K (.ref f4) = true)
    (a5 : PySem.W.nsIn K mainGlobals "_law_pick" = some (some (.ref f5)))
    (l5 : K.lookup f5 = some ⟨oc5, od5, .func (PySem.W.fnOf "_law_pick" "_law_pick" (defArgs s_l_pick) (defBody s_l_pick) (defScope s_l_pick) .none kV5 dc5 pm5 an5 cd5 ct5), sl5⟩)
    (c5 : PySem.W.codeIn K cd5 "_law_pick" = true)
    (k5 : PySem.W.keepIn K (.ref f5) = true)
    (a6 : PySem.W.nsIn K mainGlobals "_law_right" = some (some (.ref f6)))
    (l6 : K.lookup f6 = some ⟨oc6, od6, .func (PySem.W.fnOf "_law_right" "_law_right" (defArgs s_l_right) (defBody s_l_right) (defScope s_l_right) .none kV6 dc6 pm6 an6 cd6 ct6), sl6⟩)
    (c6 : PySem.W.codeIn K cd6 "_law_right" = true)
    (k6 : PySem.W.keepIn K (.ref f6) = true)
    (a7 : PySem.W.nsIn K mainGlobals "law" = some (some (.ref f7)))
    (l7 : K.lookup f7 = some ⟨oc7, od7, .func (PySem.W.fnOf "law" "law" (defArgs s_law) (defBody s_law) (defScope s_law) .none kV7 dc7 pm7 an7 cd7 ct7), sl7⟩)
    (c7 : PySem.W.codeIn K cd7 "law" = true)
    (k7 : PySem.W.keepIn K (.ref f7) = true)
    (a8 : PySem.W.findIn K (.ref C_Broken) "__init__" = some (some (.ref f8)))
    (i8 : PySem.W.typeIn K (.ref f8) = some (.type "function"))
    (l8 : K.lookup f8 = some ⟨oc8, od8, .func (PySem.W.fnOf "__init__" "Broken.__init__" (defArgs s_Broken_init) (defBody s_Broken_init) (defScope s_Broken_init) .none kV8 dc8 pm8 an8 cd8 ct8), sl8⟩)
    (c8 : PySem.W.codeIn K cd8 "Broken.__init__" = true)
    (k8 : PySem.W.keepIn K (.ref f8) = true)
    (a9 : PySem.W.findIn K (.ref C_InUse) "__init__" = some (some (.ref f9)))
    (i9 : PySem.W.typeIn K (.ref f9) = some (.type "function"))
    (l9 : K.lookup f9 = some ⟨oc9, od9, .func (PySem.W.fnOf "__init__" "InUse.__init__" (defArgs s_InUse_init) (defBody s_InUse_init) (defScope s_InUse_init) .none kV9 dc9 pm9 an9 cd9 ct9), sl9⟩)
    (c9 : PySem.W.codeIn K cd9 "InUse.__init__" = true)
    (k9 : PySem.W.keepIn K (.ref f9) = true)
    (a10 : PySem.W.findIn K (.ref C_InvalidClaim) "__init__" = some (some (.ref f10)))
    (i10 : PySem.W.typeIn K (.ref f10) = some (.type "function"))
    (l10 : K.lookup f10 = some ⟨oc10, od10, .func (PySem.W.fnOf "__init__" "InvalidClaim.__init__" (defArgs s_InvalidClaim_init) (defBody s_InvalidClaim_init) (defScope s_InvalidClaim_init) .none kV10 dc10 pm10 an10 cd10 ct10), sl10⟩)
    (c10 : PySem.W.codeIn K cd10 "InvalidClaim.__init__" = true)
    (k10 : PySem.W.keepIn K (.ref f10) = true)
    (a11 : PySem.W.findIn K (.ref C_InvalidDead) "__init__" = some (some (.ref f11)))
    (i11 : PySem.W.typeIn K (.ref f11) = some (.type "function"))
    (l11 : K.lookup f11 = some ⟨oc11, od11, .func (PySem.W.fnOf "__init__" "InvalidDead.__init__" (defArgs s_InvalidDead_init) (defBody s_InvalidDead_init) (defScope s_InvalidDead_init) .none kV11 dc11 pm11 an11 cd11 ct11), sl11⟩)
    (c11 : PySem.W.codeIn K cd11 "InvalidDead.__init__" = true)
    (k11 : PySem.W.keepIn K (.ref f11) = true)
    (a12 : PySem.W.findIn K (.ref C_InvalidDeeds) "__init__" = some (some (.ref f12)))
    (i12 : PySem.W.typeIn K (.ref f12) = some (.type "function"))
    (l12 : K.lookup f12 = some ⟨oc12, od12, .func (PySem.W.fnOf "__init__" "InvalidDeeds.__init__" (defArgs s_InvalidDeeds_init) (defBody s_InvalidDeeds_init) (defScope s_InvalidDeeds_init) .none kV12 dc12 pm12 an12 cd12 ct12), sl12⟩)
    (c12 : PySem.W.codeIn K cd12 "InvalidDeeds.__init__" = true)
    (k12 : PySem.W.keepIn K (.ref f12) = true)
    (a13 : PySem.W.findIn K (.ref C_InvalidGroups) "__init__" = some (some (.ref f13)))
    (i13 : PySem.W.typeIn K (.ref f13) = some (.type "function"))
    (l13 : K.lookup f13 = some ⟨oc13, od13, .func (PySem.W.fnOf "__init__" "InvalidGroups.__init__" (defArgs s_InvalidGroups_init) (defBody s_InvalidGroups_init) (defScope s_InvalidGroups_init) .none kV13 dc13 pm13 an13 cd13 ct13), sl13⟩)
    (c13 : PySem.W.codeIn K cd13 "InvalidGroups.__init__" = true)
    (k13 : PySem.W.keepIn K (.ref f13) = true)
    (a14 : PySem.W.findIn K (.ref C_InvalidIndex) "__init__" = some (some (.ref f14)))
    (i14 : PySem.W.typeIn K (.ref f14) = some (.type "function"))
    (l14 : K.lookup f14 = some ⟨oc14, od14, .func (PySem.W.fnOf "__init__" "InvalidIndex.__init__" (defArgs s_InvalidIndex_init) (defBody s_InvalidIndex_init) (defScope s_InvalidIndex_init) .none kV14 dc14 pm14 an14 cd14 ct14), sl14⟩)
    (c14 : PySem.W.codeIn K cd14 "InvalidIndex.__init__" = true)
    (k14 : PySem.W.keepIn K (.ref f14) = true)
    (a15 : PySem.W.findIn K (.ref C_InvalidLength) "__init__" = some (some (.ref f15)))
    (i15 : PySem.W.typeIn K (.ref f15) = some (.type "function"))
    (l15 : K.lookup f15 = some ⟨oc15, od15, .func (PySem.W.fnOf "__init__" "InvalidLength.__init__" (defArgs s_InvalidLength_init) (defBody s_InvalidLength_init) (defScope s_InvalidLength_init) .none kV15 dc15 pm15 an15 cd15 ct15), sl15⟩)
    (c15 : PySem.W.codeIn K cd15 "InvalidLength.__init__" = true)
    (k15 : PySem.W.keepIn K (.ref f15) = true)
    (a16 : PySem.W.findIn K (.ref C_InvalidLine) "__init__" = some (some (.ref f16)))
    (i16 : PySem.W.typeIn K (.ref f16) = some (.type "function"))
    (l16 : K.lookup f16 = some ⟨oc16, od16, .func (PySem.W.fnOf "__init__" "InvalidLine.__init__" (defArgs s_InvalidLine_init) (defBody s_InvalidLine_init) (defScope s_InvalidLine_init) .none kV16 dc16 pm16 an16 cd16 ct16), sl16⟩)
    (c16 : PySem.W.codeIn K cd16 "InvalidLine.__init__" = true)
    (k16 : PySem.W.keepIn K (.ref f16) = true)
    (a17 : PySem.W.findIn K (.ref C_InvalidName) "__init__" = some (some (.ref f17)))
    (i17 : PySem.W.typeIn K (.ref f17) = some (.type "function"))
    (l17 : K.lookup f17 = some ⟨oc17, od17, .func (PySem.W.fnOf "__init__" "InvalidName.__init__" (defArgs s_InvalidName_init) (defBody s_InvalidName_init) (defScope s_InvalidName_init) .none kV17 dc17 pm17 an17 cd17 ct17), sl17⟩)
    (c17 : PySem.W.codeIn K cd17 "InvalidName.__init__" = true)
    (k17 : PySem.W.keepIn K (.ref f17) = true)
    (a18 : PySem.W.findIn K (.ref C_InvalidPace) "__init__" = some (some (.ref f18)))
    (i18 : PySem.W.typeIn K (.ref f18) = some (.type "function"))
    (l18 : K.lookup f18 = some ⟨oc18, od18, .func (PySem.W.fnOf "__init__" "InvalidPace.__init__" (defArgs s_InvalidPace_init) (defBody s_InvalidPace_init) (defScope s_InvalidPace_init) .none kV18 dc18 pm18 an18 cd18 ct18), sl18⟩)
    (c18 : PySem.W.codeIn K cd18 "InvalidPace.__init__" = true)
    (k18 : PySem.W.keepIn K (.ref f18) = true)
    (a19 : PySem.W.findIn K (.ref C_InvalidPaces) "__init__" = some (some (.ref f19)))
    (i19 : PySem.W.typeIn K (.ref f19) = some (.type "function"))
    (l19 : K.lookup f19 = some ⟨oc19, od19, .func (PySem.W.fnOf "__init__" "InvalidPaces.__init__" (defArgs s_InvalidPaces_init) (defBody s_InvalidPaces_init) (defScope s_InvalidPaces_init) .none kV19 dc19 pm19 an19 cd19 ct19), sl19⟩)
    (c19 : PySem.W.codeIn K cd19 "InvalidPaces.__init__" = true)
    (k19 : PySem.W.keepIn K (.ref f19) = true)
    (a20 : PySem.W.findIn K (.ref C_InvalidPlace) "__init__" = some (some (.ref f20)))
    (i20 : PySem.W.typeIn K (.ref f20) = some (.type "function"))
    (l20 : K.lookup f20 = some ⟨oc20, od20, .func (PySem.W.fnOf "__init__" "InvalidPlace.__init__" (defArgs s_InvalidPlace_init) (defBody s_InvalidPlace_init) (defScope s_InvalidPlace_init) .none kV20 dc20 pm20 an20 cd20 ct20), sl20⟩)
    (c20 : PySem.W.codeIn K cd20 "InvalidPlace.__init__" = true)
    (k20 : PySem.W.keepIn K (.ref f20) = true)
    (a21 : PySem.W.findIn K (.ref C_InvalidText) "__init__" = some (some (.ref f21)))
    (i21 : PySem.W.typeIn K (.ref f21) = some (.type "function"))
    (l21 : K.lookup f21 = some ⟨oc21, od21, .func (PySem.W.fnOf "__init__" "InvalidText.__init__" (defArgs s_InvalidText_init) (defBody s_InvalidText_init) (defScope s_InvalidText_init) .none kV21 dc21 pm21 an21 cd21 ct21), sl21⟩)
    (c21 : PySem.W.codeIn K cd21 "InvalidText.__init__" = true)
    (k21 : PySem.W.keepIn K (.ref f21) = true)
    (a22 : PySem.W.findIn K (.ref C_InvalidTime) "__init__" = some (some (.ref f22)))
    (i22 : PySem.W.typeIn K (.ref f22) = some (.type "function"))
    (l22 : K.lookup f22 = some ⟨oc22, od22, .func (PySem.W.fnOf "__init__" "InvalidTime.__init__" (defArgs s_InvalidTime_init) (defBody s_InvalidTime_init) (defScope s_InvalidTime_init) .none kV22 dc22 pm22 an22 cd22 ct22), sl22⟩)
    (c22 : PySem.W.codeIn K cd22 "InvalidTime.__init__" = true)
    (k22 : PySem.W.keepIn K (.ref f22) = true)
    (a23 : PySem.W.findIn K (.ref C_InvalidTimes) "__init__" = some (some (.ref f23)))
    (i23 : PySem.W.typeIn K (.ref f23) = some (.type "function"))
    (l23 : K.lookup f23 = some ⟨oc23, od23, .func (PySem.W.fnOf "__init__" "InvalidTimes.__init__" (defArgs s_InvalidTimes_init) (defBody s_InvalidTimes_init) (defScope s_InvalidTimes_init) .none kV23 dc23 pm23 an23 cd23 ct23), sl23⟩)
    (c23 : PySem.W.codeIn K cd23 "InvalidTimes.__init__" = true)
    (k23 : PySem.W.keepIn K (.ref f23) = true)
    (a24 : PySem.W.findIn K (.ref C_InvalidWidth) "__init__" = some (some (.ref f24)))
    (i24 : PySem.W.typeIn K (.ref f24) = some (.type "function"))
    (l24 : K.lookup f24 = some ⟨oc24, od24, .func (PySem.W.fnOf "__init__" "InvalidWidth.__init__" (defArgs s_InvalidWidth_init) (defBody s_InvalidWidth_init) (defScope s_InvalidWidth_init) .none kV24 dc24 pm24 an24 cd24 ct24), sl24⟩)
    (c24 : PySem.W.codeIn K cd24 "InvalidWidth.__init__" = true)
    (k24 : PySem.W.keepIn K (.ref f24) = true)
    (a25 : PySem.W.findIn K (.ref C_InvalidWindow) "__init__" = some (some (.ref f25)))
    (i25 : PySem.W.typeIn K (.ref f25) = some (.type "function"))
    (l25 : K.lookup f25 = some ⟨oc25, od25, .func (PySem.W.fnOf "__init__" "InvalidWindow.__init__" (defArgs s_InvalidWindow_init) (defBody s_InvalidWindow_init) (defScope s_InvalidWindow_init) .none kV25 dc25 pm25 an25 cd25 ct25), sl25⟩)
    (c25 : PySem.W.codeIn K cd25 "InvalidWindow.__init__" = true)
    (k25 : PySem.W.keepIn K (.ref f25) = true)
    (a26 : PySem.W.findIn K (.ref C_NotARecord) "__init__" = some (some (.ref f26)))
    (i26 : PySem.W.typeIn K (.ref f26) = some (.type "function"))
    (l26 : K.lookup f26 = some ⟨oc26, od26, .func (PySem.W.fnOf "__init__" "NotARecord.__init__" (defArgs s_NotARecord_init) (defBody s_NotARecord_init) (defScope s_NotARecord_init) .none kV26 dc26 pm26 an26 cd26 ct26), sl26⟩)
    (c26 : PySem.W.codeIn K cd26 "NotARecord.__init__" = true)
    (k26 : PySem.W.keepIn K (.ref f26) = true)
    (a27 : PySem.W.findIn K (.ref C_NotASign) "__init__" = some (some (.ref f27)))
    (i27 : PySem.W.typeIn K (.ref f27) = some (.type "function"))
    (l27 : K.lookup f27 = some ⟨oc27, od27, .func (PySem.W.fnOf "__init__" "NotASign.__init__" (defArgs s_NotASign_init) (defBody s_NotASign_init) (defScope s_NotASign_init) .none kV27 dc27 pm27 an27 cd27 ct27), sl27⟩)
    (c27 : PySem.W.codeIn K cd27 "NotASign.__init__" = true)
    (k27 : PySem.W.keepIn K (.ref f27) = true)
    (a28 : PySem.W.findIn K (.ref C_OtherKind) "__init__" = some (some (.ref f28)))
    (i28 : PySem.W.typeIn K (.ref f28) = some (.type "function"))
    (l28 : K.lookup f28 = some ⟨oc28, od28, .func (PySem.W.fnOf "__init__" "OtherKind.__init__" (defArgs s_OtherKind_init) (defBody s_OtherKind_init) (defScope s_OtherKind_init) .none kV28 dc28 pm28 an28 cd28 ct28), sl28⟩)
    (c28 : PySem.W.codeIn K cd28 "OtherKind.__init__" = true)
    (k28 : PySem.W.keepIn K (.ref f28) = true)
    (a29 : PySem.W.findIn K (.ref C_TooMany) "__init__" = some (some (.ref f29)))
    (i29 : PySem.W.typeIn K (.ref f29) = some (.type "function"))
    (l29 : K.lookup f29 = some ⟨oc29, od29, .func (PySem.W.fnOf "__init__" "TooMany.__init__" (defArgs s_TooMany_init) (defBody s_TooMany_init) (defScope s_TooMany_init) .none kV29 dc29 pm29 an29 cd29 ct29), sl29⟩)
    (c29 : PySem.W.codeIn K cd29 "TooMany.__init__" = true)
    (k29 : PySem.W.keepIn K (.ref f29) = true)
    (a30 : PySem.W.findIn K (.ref C_UnknownName) "__init__" = some (some (.ref f30)))
    (i30 : PySem.W.typeIn K (.ref f30) = some (.type "function"))
    (l30 : K.lookup f30 = some ⟨oc30, od30, .func (PySem.W.fnOf "__init__" "UnknownName.__init__" (defArgs s_UnknownName_init) (defBody s_UnknownName_init) (defScope s_UnknownName_init) .none kV30 dc30 pm30 an30 cd30 ct30), sl30⟩)
    (c30 : PySem.W.codeIn K cd30 "UnknownName.__init__" = true)
    (k30 : PySem.W.keepIn K (.ref f30) = true)
    (a31 : PySem.W.findIn K (.ref C_WrongValue) "__init__" = some (some (.ref f31)))
    (i31 : PySem.W.typeIn K (.ref f31) = some (.type "function"))
    (l31 : K.lookup f31 = some ⟨oc31, od31, .func (PySem.W.fnOf "__init__" "WrongValue.__init__" (defArgs s_WrongValue_init) (defBody s_WrongValue_init) (defScope s_WrongValue_init) .none kV31 dc31 pm31 an31 cd31 ct31), sl31⟩)
    (c31 : PySem.W.codeIn K cd31 "WrongValue.__init__" = true)
    (k31 : PySem.W.keepIn K (.ref f31) = true)
    (a32 : PySem.W.findIn K (.ref C_WrongName) "__init__" = some (some (.ref f32)))
    (i32 : PySem.W.typeIn K (.ref f32) = some (.type "function"))
    (l32 : K.lookup f32 = some ⟨oc32, od32, .func (PySem.W.fnOf "__init__" "WrongName.__init__" (defArgs s_WrongName_init) (defBody s_WrongName_init) (defScope s_WrongName_init) .none kV32 dc32 pm32 an32 cd32 ct32), sl32⟩)
    (c32 : PySem.W.codeIn K cd32 "WrongName.__init__" = true)
    (k32 : PySem.W.keepIn K (.ref f32) = true)
    (a33 : PySem.W.findIn K (.ref C_NoAnswer) "__init__" = some (some (.ref f33)))
    (i33 : PySem.W.typeIn K (.ref f33) = some (.type "function"))
    (l33 : K.lookup f33 = some ⟨oc33, od33, .func (PySem.W.fnOf "__init__" "NoAnswer.__init__" (defArgs s_NoAnswer_init) (defBody s_NoAnswer_init) (defScope s_NoAnswer_init) .none kV33 dc33 pm33 an33 cd33 ct33), sl33⟩)
    (c33 : PySem.W.codeIn K cd33 "NoAnswer.__init__" = true)
    (k33 : PySem.W.keepIn K (.ref f33) = true)
    (xL_Broken : K.lookup C_Broken = some (excClassObj nm_Broken q_Broken C_Broken N_Broken bs_Broken [.ref C_NoAnswer, .type "ArithmeticError", .type "Exception", .type "BaseException", .type "object"] true sn_Broken sub_Broken ab_Broken col_Broken dd_Broken e0_Broken e1_Broken e2_Broken e3_Broken e5_Broken "ArithmeticError.__new__"))
    (sa_Broken : PySem.W.findIn K (.ref C_Broken) "__setattr__" = some (some (.builtin "object.__setattr__")))
    (sb_Broken : PySem.W.subIn K (.ref C_Broken) (.type "BaseException") = some true)
    (kc_Broken : PySem.W.keepIn K (.ref C_Broken) = true)
    (no_Broken : PySem.W.findIn K (.ref C_Broken) "index" = some none)
    (ty_Broken : PySem.W.typeIn K (.ref C_Broken) = some (.type "type"))
    (xL_InUse : K.lookup C_InUse = some (excClassObj nm_InUse q_InUse C_InUse N_InUse bs_InUse [.ref C_WrongName, .type "LookupError", .type "Exception", .type "BaseException", .type "object"] true sn_InUse sub_InUse ab_InUse col_InUse dd_InUse e0_InUse e1_InUse e2_InUse e3_InUse e5_InUse "LookupError.__new__"))
    (sa_InUse : PySem.W.findIn K (.ref C_InUse) "__setattr__" = some (some (.builtin "object.__setattr__")))
    (sb_InUse : PySem.W.subIn K (.ref C_InUse) (.type "BaseException") = some true)
    (kc_InUse : PySem.W.keepIn K (.ref C_InUse) = true)
    (no_InUse : PySem.W.findIn K (.ref C_InUse) "index" = some none)
    (ty_InUse : PySem.W.typeIn K (.ref C_InUse) = some (.type "type"))
    (xL_InvalidClaim : K.lookup C_InvalidClaim = some (excClassObj nm_InvalidClaim q_InvalidClaim C_InvalidClaim N_InvalidClaim bs_InvalidClaim [.ref C_WrongValue, .type "ValueError", .type "Exception", .type "BaseException", .type "object"] true sn_InvalidClaim sub_InvalidClaim ab_InvalidClaim col_InvalidClaim dd_InvalidClaim e0_InvalidClaim e1_InvalidClaim e2_InvalidClaim e3_InvalidClaim e5_InvalidClaim "ValueError.__new__"))
    (sa_InvalidClaim : PySem.W.findIn K (.ref C_InvalidClaim) "__setattr__" = some (some (.builtin "object.__setattr__")))
    (sb_InvalidClaim : PySem.W.subIn K (.ref C_InvalidClaim) (.type "BaseException") = some true)
    (kc_InvalidClaim : PySem.W.keepIn K (.ref C_InvalidClaim) = true)
    (no_InvalidClaim : PySem.W.findIn K (.ref C_InvalidClaim) "given" = some none)
    (ty_InvalidClaim : PySem.W.typeIn K (.ref C_InvalidClaim) = some (.type "type"))
    (xL_InvalidDead : K.lookup C_InvalidDead = some (excClassObj nm_InvalidDead q_InvalidDead C_InvalidDead N_InvalidDead bs_InvalidDead [.ref C_WrongValue, .type "ValueError", .type "Exception", .type "BaseException", .type "object"] true sn_InvalidDead sub_InvalidDead ab_InvalidDead col_InvalidDead dd_InvalidDead e0_InvalidDead e1_InvalidDead e2_InvalidDead e3_InvalidDead e5_InvalidDead "ValueError.__new__"))
    (sa_InvalidDead : PySem.W.findIn K (.ref C_InvalidDead) "__setattr__" = some (some (.builtin "object.__setattr__")))
    (sb_InvalidDead : PySem.W.subIn K (.ref C_InvalidDead) (.type "BaseException") = some true)
    (kc_InvalidDead : PySem.W.keepIn K (.ref C_InvalidDead) = true)
    (no_InvalidDead : PySem.W.findIn K (.ref C_InvalidDead) "index" = some none)
    (ty_InvalidDead : PySem.W.typeIn K (.ref C_InvalidDead) = some (.type "type"))
    (xL_InvalidDeeds : K.lookup C_InvalidDeeds = some (excClassObj nm_InvalidDeeds q_InvalidDeeds C_InvalidDeeds N_InvalidDeeds bs_InvalidDeeds [.ref C_WrongValue, .type "ValueError", .type "Exception", .type "BaseException", .type "object"] true sn_InvalidDeeds sub_InvalidDeeds ab_InvalidDeeds col_InvalidDeeds dd_InvalidDeeds e0_InvalidDeeds e1_InvalidDeeds e2_InvalidDeeds e3_InvalidDeeds e5_InvalidDeeds "ValueError.__new__"))
    (sa_InvalidDeeds : PySem.W.findIn K (.ref C_InvalidDeeds) "__setattr__" = some (some (.builtin "object.__setattr__")))
    (sb_InvalidDeeds : PySem.W.subIn K (.ref C_InvalidDeeds) (.type "BaseException") = some true)
    (kc_InvalidDeeds : PySem.W.keepIn K (.ref C_InvalidDeeds) = true)
    (no_InvalidDeeds : PySem.W.findIn K (.ref C_InvalidDeeds) "index" = some none)
    (ty_InvalidDeeds : PySem.W.typeIn K (.ref C_InvalidDeeds) = some (.type "type"))
    (xL_InvalidGroups : K.lookup C_InvalidGroups = some (excClassObj nm_InvalidGroups q_InvalidGroups C_InvalidGroups N_InvalidGroups bs_InvalidGroups [.ref C_WrongValue, .type "ValueError", .type "Exception", .type "BaseException", .type "object"] true sn_InvalidGroups sub_InvalidGroups ab_InvalidGroups col_InvalidGroups dd_InvalidGroups e0_InvalidGroups e1_InvalidGroups e2_InvalidGroups e3_InvalidGroups e5_InvalidGroups "ValueError.__new__"))
    (sa_InvalidGroups : PySem.W.findIn K (.ref C_InvalidGroups) "__setattr__" = some (some (.builtin "object.__setattr__")))
    (sb_InvalidGroups : PySem.W.subIn K (.ref C_InvalidGroups) (.type "BaseException") = some true)
    (kc_InvalidGroups : PySem.W.keepIn K (.ref C_InvalidGroups) = true)
    (no_InvalidGroups : PySem.W.findIn K (.ref C_InvalidGroups) "index" = some none)
    (ty_InvalidGroups : PySem.W.typeIn K (.ref C_InvalidGroups) = some (.type "type"))
    (xL_InvalidIndex : K.lookup C_InvalidIndex = some (excClassObj nm_InvalidIndex q_InvalidIndex C_InvalidIndex N_InvalidIndex bs_InvalidIndex [.ref C_WrongValue, .type "ValueError", .type "Exception", .type "BaseException", .type "object"] true sn_InvalidIndex sub_InvalidIndex ab_InvalidIndex col_InvalidIndex dd_InvalidIndex e0_InvalidIndex e1_InvalidIndex e2_InvalidIndex e3_InvalidIndex e5_InvalidIndex "ValueError.__new__"))
    (sa_InvalidIndex : PySem.W.findIn K (.ref C_InvalidIndex) "__setattr__" = some (some (.builtin "object.__setattr__")))
    (sb_InvalidIndex : PySem.W.subIn K (.ref C_InvalidIndex) (.type "BaseException") = some true)
    (kc_InvalidIndex : PySem.W.keepIn K (.ref C_InvalidIndex) = true)
    (no_InvalidIndex : PySem.W.findIn K (.ref C_InvalidIndex) "given" = some none)
    (ty_InvalidIndex : PySem.W.typeIn K (.ref C_InvalidIndex) = some (.type "type"))
    (xL_InvalidLength : K.lookup C_InvalidLength = some (excClassObj nm_InvalidLength q_InvalidLength C_InvalidLength N_InvalidLength bs_InvalidLength [.ref C_WrongValue, .type "ValueError", .type "Exception", .type "BaseException", .type "object"] true sn_InvalidLength sub_InvalidLength ab_InvalidLength col_InvalidLength dd_InvalidLength e0_InvalidLength e1_InvalidLength e2_InvalidLength e3_InvalidLength e5_InvalidLength "ValueError.__new__"))
    (sa_InvalidLength : PySem.W.findIn K (.ref C_InvalidLength) "__setattr__" = some (some (.builtin "object.__setattr__")))
    (sb_InvalidLength : PySem.W.subIn K (.ref C_InvalidLength) (.type "BaseException") = some true)
    (kc_InvalidLength : PySem.W.keepIn K (.ref C_InvalidLength) = true)
    (no_InvalidLength : PySem.W.findIn K (.ref C_InvalidLength) "given" = some none)
    (ty_InvalidLength : PySem.W.typeIn K (.ref C_InvalidLength) = some (.type "type"))
    (xL_InvalidLine : K.lookup C_InvalidLine = some (excClassObj nm_InvalidLine q_InvalidLine C_InvalidLine N_InvalidLine bs_InvalidLine [.ref C_WrongValue, .type "ValueError", .type "Exception", .type "BaseException", .type "object"] true sn_InvalidLine sub_InvalidLine ab_InvalidLine col_InvalidLine dd_InvalidLine e0_InvalidLine e1_InvalidLine e2_InvalidLine e3_InvalidLine e5_InvalidLine "ValueError.__new__"))
    (sa_InvalidLine : PySem.W.findIn K (.ref C_InvalidLine) "__setattr__" = some (some (.builtin "object.__setattr__")))
    (sb_InvalidLine : PySem.W.subIn K (.ref C_InvalidLine) (.type "BaseException") = some true)
    (kc_InvalidLine : PySem.W.keepIn K (.ref C_InvalidLine) = true)
    (no_InvalidLine : PySem.W.findIn K (.ref C_InvalidLine) "given" = some none)
    (ty_InvalidLine : PySem.W.typeIn K (.ref C_InvalidLine) = some (.type "type"))
    (xL_InvalidName : K.lookup C_InvalidName = some (excClassObj nm_InvalidName q_InvalidName C_InvalidName N_InvalidName bs_InvalidName [.ref C_WrongValue, .type "ValueError", .type "Exception", .type "BaseException", .type "object"] true sn_InvalidName sub_InvalidName ab_InvalidName col_InvalidName dd_InvalidName e0_InvalidName e1_InvalidName e2_InvalidName e3_InvalidName e5_InvalidName "ValueError.__new__"))
    (sa_InvalidName : PySem.W.findIn K (.ref C_InvalidName) "__setattr__" = some (some (.builtin "object.__setattr__")))
    (sb_InvalidName : PySem.W.subIn K (.ref C_InvalidName) (.type "BaseException") = some true)
    (kc_InvalidName : PySem.W.keepIn K (.ref C_InvalidName) = true)
    (no_InvalidName : PySem.W.findIn K (.ref C_InvalidName) "given" = some none)
    (ty_InvalidName : PySem.W.typeIn K (.ref C_InvalidName) = some (.type "type"))
    (xL_InvalidPace : K.lookup C_InvalidPace = some (excClassObj nm_InvalidPace q_InvalidPace C_InvalidPace N_InvalidPace bs_InvalidPace [.ref C_WrongValue, .type "ValueError", .type "Exception", .type "BaseException", .type "object"] true sn_InvalidPace sub_InvalidPace ab_InvalidPace col_InvalidPace dd_InvalidPace e0_InvalidPace e1_InvalidPace e2_InvalidPace e3_InvalidPace e5_InvalidPace "ValueError.__new__"))
    (sa_InvalidPace : PySem.W.findIn K (.ref C_InvalidPace) "__setattr__" = some (some (.builtin "object.__setattr__")))
    (sb_InvalidPace : PySem.W.subIn K (.ref C_InvalidPace) (.type "BaseException") = some true)
    (kc_InvalidPace : PySem.W.keepIn K (.ref C_InvalidPace) = true)
    (no_InvalidPace : PySem.W.findIn K (.ref C_InvalidPace) "given" = some none)
    (ty_InvalidPace : PySem.W.typeIn K (.ref C_InvalidPace) = some (.type "type"))
    (xL_InvalidPaces : K.lookup C_InvalidPaces = some (excClassObj nm_InvalidPaces q_InvalidPaces C_InvalidPaces N_InvalidPaces bs_InvalidPaces [.ref C_WrongValue, .type "ValueError", .type "Exception", .type "BaseException", .type "object"] true sn_InvalidPaces sub_InvalidPaces ab_InvalidPaces col_InvalidPaces dd_InvalidPaces e0_InvalidPaces e1_InvalidPaces e2_InvalidPaces e3_InvalidPaces e5_InvalidPaces "ValueError.__new__"))
    (sa_InvalidPaces : PySem.W.findIn K (.ref C_InvalidPaces) "__setattr__" = some (some (.builtin "object.__setattr__")))
    (sb_InvalidPaces : PySem.W.subIn K (.ref C_InvalidPaces) (.type "BaseException") = some true)
    (kc_InvalidPaces : PySem.W.keepIn K (.ref C_InvalidPaces) = true)
    (no_InvalidPaces : PySem.W.findIn K (.ref C_InvalidPaces) "index" = some none)
    (ty_InvalidPaces : PySem.W.typeIn K (.ref C_InvalidPaces) = some (.type "type"))
    (xL_InvalidPlace : K.lookup C_InvalidPlace = some (excClassObj nm_InvalidPlace q_InvalidPlace C_InvalidPlace N_InvalidPlace bs_InvalidPlace [.ref C_WrongValue, .type "ValueError", .type "Exception", .type "BaseException", .type "object"] true sn_InvalidPlace sub_InvalidPlace ab_InvalidPlace col_InvalidPlace dd_InvalidPlace e0_InvalidPlace e1_InvalidPlace e2_InvalidPlace e3_InvalidPlace e5_InvalidPlace "ValueError.__new__"))
    (sa_InvalidPlace : PySem.W.findIn K (.ref C_InvalidPlace) "__setattr__" = some (some (.builtin "object.__setattr__")))
    (sb_InvalidPlace : PySem.W.subIn K (.ref C_InvalidPlace) (.type "BaseException") = some true)
    (kc_InvalidPlace : PySem.W.keepIn K (.ref C_InvalidPlace) = true)
    (no_InvalidPlace : PySem.W.findIn K (.ref C_InvalidPlace) "given" = some none)
    (ty_InvalidPlace : PySem.W.typeIn K (.ref C_InvalidPlace) = some (.type "type"))
    (xL_InvalidText : K.lookup C_InvalidText = some (excClassObj nm_InvalidText q_InvalidText C_InvalidText N_InvalidText bs_InvalidText [.ref C_WrongValue, .type "ValueError", .type "Exception", .type "BaseException", .type "object"] true sn_InvalidText sub_InvalidText ab_InvalidText col_InvalidText dd_InvalidText e0_InvalidText e1_InvalidText e2_InvalidText e3_InvalidText e5_InvalidText "ValueError.__new__"))
    (sa_InvalidText : PySem.W.findIn K (.ref C_InvalidText) "__setattr__" = some (some (.builtin "object.__setattr__")))
    (sb_InvalidText : PySem.W.subIn K (.ref C_InvalidText) (.type "BaseException") = some true)
    (kc_InvalidText : PySem.W.keepIn K (.ref C_InvalidText) = true)
    (no_InvalidText : PySem.W.findIn K (.ref C_InvalidText) "given" = some none)
    (ty_InvalidText : PySem.W.typeIn K (.ref C_InvalidText) = some (.type "type"))
    (xL_InvalidTime : K.lookup C_InvalidTime = some (excClassObj nm_InvalidTime q_InvalidTime C_InvalidTime N_InvalidTime bs_InvalidTime [.ref C_WrongValue, .type "ValueError", .type "Exception", .type "BaseException", .type "object"] true sn_InvalidTime sub_InvalidTime ab_InvalidTime col_InvalidTime dd_InvalidTime e0_InvalidTime e1_InvalidTime e2_InvalidTime e3_InvalidTime e5_InvalidTime "ValueError.__new__"))
    (sa_InvalidTime : PySem.W.findIn K (.ref C_InvalidTime) "__setattr__" = some (some (.builtin "object.__setattr__")))
    (sb_InvalidTime : PySem.W.subIn K (.ref C_InvalidTime) (.type "BaseException") = some true)
    (kc_InvalidTime : PySem.W.keepIn K (.ref C_InvalidTime) = true)
    (no_InvalidTime : PySem.W.findIn K (.ref C_InvalidTime) "given" = some none)
    (ty_InvalidTime : PySem.W.typeIn K (.ref C_InvalidTime) = some (.type "type"))
    (xL_InvalidTimes : K.lookup C_InvalidTimes = some (excClassObj nm_InvalidTimes q_InvalidTimes C_InvalidTimes N_InvalidTimes bs_InvalidTimes [.ref C_WrongValue, .type "ValueError", .type "Exception", .type "BaseException", .type "object"] true sn_InvalidTimes sub_InvalidTimes ab_InvalidTimes col_InvalidTimes dd_InvalidTimes e0_InvalidTimes e1_InvalidTimes e2_InvalidTimes e3_InvalidTimes e5_InvalidTimes "ValueError.__new__"))
    (sa_InvalidTimes : PySem.W.findIn K (.ref C_InvalidTimes) "__setattr__" = some (some (.builtin "object.__setattr__")))
    (sb_InvalidTimes : PySem.W.subIn K (.ref C_InvalidTimes) (.type "BaseException") = some true)
    (kc_InvalidTimes : PySem.W.keepIn K (.ref C_InvalidTimes) = true)
    (no_InvalidTimes : PySem.W.findIn K (.ref C_InvalidTimes) "index" = some none)
    (ty_InvalidTimes : PySem.W.typeIn K (.ref C_InvalidTimes) = some (.type "type"))
    (xL_InvalidWidth : K.lookup C_InvalidWidth = some (excClassObj nm_InvalidWidth q_InvalidWidth C_InvalidWidth N_InvalidWidth bs_InvalidWidth [.ref C_WrongValue, .type "ValueError", .type "Exception", .type "BaseException", .type "object"] true sn_InvalidWidth sub_InvalidWidth ab_InvalidWidth col_InvalidWidth dd_InvalidWidth e0_InvalidWidth e1_InvalidWidth e2_InvalidWidth e3_InvalidWidth e5_InvalidWidth "ValueError.__new__"))
    (sa_InvalidWidth : PySem.W.findIn K (.ref C_InvalidWidth) "__setattr__" = some (some (.builtin "object.__setattr__")))
    (sb_InvalidWidth : PySem.W.subIn K (.ref C_InvalidWidth) (.type "BaseException") = some true)
    (kc_InvalidWidth : PySem.W.keepIn K (.ref C_InvalidWidth) = true)
    (no_InvalidWidth : PySem.W.findIn K (.ref C_InvalidWidth) "given" = some none)
    (ty_InvalidWidth : PySem.W.typeIn K (.ref C_InvalidWidth) = some (.type "type"))
    (xL_InvalidWindow : K.lookup C_InvalidWindow = some (excClassObj nm_InvalidWindow q_InvalidWindow C_InvalidWindow N_InvalidWindow bs_InvalidWindow [.ref C_WrongValue, .type "ValueError", .type "Exception", .type "BaseException", .type "object"] true sn_InvalidWindow sub_InvalidWindow ab_InvalidWindow col_InvalidWindow dd_InvalidWindow e0_InvalidWindow e1_InvalidWindow e2_InvalidWindow e3_InvalidWindow e5_InvalidWindow "ValueError.__new__"))
    (sa_InvalidWindow : PySem.W.findIn K (.ref C_InvalidWindow) "__setattr__" = some (some (.builtin "object.__setattr__")))
    (sb_InvalidWindow : PySem.W.subIn K (.ref C_InvalidWindow) (.type "BaseException") = some true)
    (kc_InvalidWindow : PySem.W.keepIn K (.ref C_InvalidWindow) = true)
    (no_InvalidWindow : PySem.W.findIn K (.ref C_InvalidWindow) "given" = some none)
    (ty_InvalidWindow : PySem.W.typeIn K (.ref C_InvalidWindow) = some (.type "type"))
    (xL_NotARecord : K.lookup C_NotARecord = some (excClassObj nm_NotARecord q_NotARecord C_NotARecord N_NotARecord bs_NotARecord [.ref C_WrongValue, .type "ValueError", .type "Exception", .type "BaseException", .type "object"] true sn_NotARecord sub_NotARecord ab_NotARecord col_NotARecord dd_NotARecord e0_NotARecord e1_NotARecord e2_NotARecord e3_NotARecord e5_NotARecord "ValueError.__new__"))
    (sa_NotARecord : PySem.W.findIn K (.ref C_NotARecord) "__setattr__" = some (some (.builtin "object.__setattr__")))
    (sb_NotARecord : PySem.W.subIn K (.ref C_NotARecord) (.type "BaseException") = some true)
    (kc_NotARecord : PySem.W.keepIn K (.ref C_NotARecord) = true)
    (no_NotARecord : PySem.W.findIn K (.ref C_NotARecord) "given" = some none)
    (ty_NotARecord : PySem.W.typeIn K (.ref C_NotARecord) = some (.type "type"))
    (xL_NotASign : K.lookup C_NotASign = some (excClassObj nm_NotASign q_NotASign C_NotASign N_NotASign bs_NotASign [.ref C_WrongValue, .type "ValueError", .type "Exception", .type "BaseException", .type "object"] true sn_NotASign sub_NotASign ab_NotASign col_NotASign dd_NotASign e0_NotASign e1_NotASign e2_NotASign e3_NotASign e5_NotASign "ValueError.__new__"))
    (sa_NotASign : PySem.W.findIn K (.ref C_NotASign) "__setattr__" = some (some (.builtin "object.__setattr__")))
    (sb_NotASign : PySem.W.subIn K (.ref C_NotASign) (.type "BaseException") = some true)
    (kc_NotASign : PySem.W.keepIn K (.ref C_NotASign) = true)
    (no_NotASign : PySem.W.findIn K (.ref C_NotASign) "given" = some none)
    (ty_NotASign : PySem.W.typeIn K (.ref C_NotASign) = some (.type "type"))
    (xL_OtherKind : K.lookup C_OtherKind = some (excClassObj nm_OtherKind q_OtherKind C_OtherKind N_OtherKind bs_OtherKind [.ref C_NoAnswer, .type "ArithmeticError", .type "Exception", .type "BaseException", .type "object"] true sn_OtherKind sub_OtherKind ab_OtherKind col_OtherKind dd_OtherKind e0_OtherKind e1_OtherKind e2_OtherKind e3_OtherKind e5_OtherKind "ArithmeticError.__new__"))
    (sa_OtherKind : PySem.W.findIn K (.ref C_OtherKind) "__setattr__" = some (some (.builtin "object.__setattr__")))
    (sb_OtherKind : PySem.W.subIn K (.ref C_OtherKind) (.type "BaseException") = some true)
    (kc_OtherKind : PySem.W.keepIn K (.ref C_OtherKind) = true)
    (no_OtherKind : PySem.W.findIn K (.ref C_OtherKind) "given" = some none)
    (ty_OtherKind : PySem.W.typeIn K (.ref C_OtherKind) = some (.type "type"))
    (xL_TooMany : K.lookup C_TooMany = some (excClassObj nm_TooMany q_TooMany C_TooMany N_TooMany bs_TooMany [.ref C_NoAnswer, .type "ArithmeticError", .type "Exception", .type "BaseException", .type "object"] true sn_TooMany sub_TooMany ab_TooMany col_TooMany dd_TooMany e0_TooMany e1_TooMany e2_TooMany e3_TooMany e5_TooMany "ArithmeticError.__new__"))
    (sa_TooMany : PySem.W.findIn K (.ref C_TooMany) "__setattr__" = some (some (.builtin "object.__setattr__")))
    (sb_TooMany : PySem.W.subIn K (.ref C_TooMany) (.type "BaseException") = some true)
    (kc_TooMany : PySem.W.keepIn K (.ref C_TooMany) = true)
    (no_TooMany : PySem.W.findIn K (.ref C_TooMany) "most" = some none)
    (ty_TooMany : PySem.W.typeIn K (.ref C_TooMany) = some (.type "type"))
    (xL_UnknownName : K.lookup C_UnknownName = some (excClassObj nm_UnknownName q_UnknownName C_UnknownName N_UnknownName bs_UnknownName [.ref C_WrongName, .type "LookupError", .type "Exception", .type "BaseException", .type "object"] true sn_UnknownName sub_UnknownName ab_UnknownName col_UnknownName dd_UnknownName e0_UnknownName e1_UnknownName e2_UnknownName e3_UnknownName e5_UnknownName "LookupError.__new__"))
    (sa_UnknownName : PySem.W.findIn K (.ref C_UnknownName) "__setattr__" = some (some (.builtin "object.__setattr__")))
    (sb_UnknownName : PySem.W.subIn K (.ref C_UnknownName) (.type "BaseException") = some true)
    (kc_UnknownName : PySem.W.keepIn K (.ref C_UnknownName) = true)
    (no_UnknownName : PySem.W.findIn K (.ref C_UnknownName) "given" = some none)
    (ty_UnknownName : PySem.W.typeIn K (.ref C_UnknownName) = some (.type "type"))
    (xL_NothingToUndo : K.lookup C_NothingToUndo = some (excClassObj nm_NothingToUndo q_NothingToUndo C_NothingToUndo N_NothingToUndo bs_NothingToUndo [.ref C_NoAnswer, .type "ArithmeticError", .type "Exception", .type "BaseException", .type "object"] true sn_NothingToUndo sub_NothingToUndo ab_NothingToUndo col_NothingToUndo dd_NothingToUndo e0_NothingToUndo e1_NothingToUndo e2_NothingToUndo e3_NothingToUndo e5_NothingToUndo "ArithmeticError.__new__"))
    (sa_NothingToUndo : PySem.W.findIn K (.ref C_NothingToUndo) "__setattr__" = some (some (.builtin "object.__setattr__")))
    (sb_NothingToUndo : PySem.W.subIn K (.ref C_NothingToUndo) (.type "BaseException") = some true)
    (kc_NothingToUndo : PySem.W.keepIn K (.ref C_NothingToUndo) = true)
    (ty_NothingToUndo : PySem.W.typeIn K (.ref C_NothingToUndo) = some (.type "type"))
    (ai_NothingToUndo : PySem.W.findIn K (.ref C_NothingToUndo) "__init__" = some (some (.ref f33)))
    (xL_WrongValue : K.lookup C_WrongValue = some (excClassObj nm_WrongValue q_WrongValue C_WrongValue N_WrongValue bs_WrongValue [.type "ValueError", .type "Exception", .type "BaseException", .type "object"] true sn_WrongValue sub_WrongValue ab_WrongValue col_WrongValue dd_WrongValue e0_WrongValue e1_WrongValue e2_WrongValue e3_WrongValue e5_WrongValue "ValueError.__new__"))
    (sa_WrongValue : PySem.W.findIn K (.ref C_WrongValue) "__setattr__" = some (some (.builtin "object.__setattr__")))
    (sb_WrongValue : PySem.W.subIn K (.ref C_WrongValue) (.type "BaseException") = some true)
    (kc_WrongValue : PySem.W.keepIn K (.ref C_WrongValue) = true)
    (ty_WrongValue : PySem.W.typeIn K (.ref C_WrongValue) = some (.type "type"))
    (xL_WrongName : K.lookup C_WrongName = some (excClassObj nm_WrongName q_WrongName C_WrongName N_WrongName bs_WrongName [.type "LookupError", .type "Exception", .type "BaseException", .type "object"] true sn_WrongName sub_WrongName ab_WrongName col_WrongName dd_WrongName e0_WrongName e1_WrongName e2_WrongName e3_WrongName e5_WrongName "LookupError.__new__"))
    (sa_WrongName : PySem.W.findIn K (.ref C_WrongName) "__setattr__" = some (some (.builtin "object.__setattr__")))
    (sb_WrongName : PySem.W.subIn K (.ref C_WrongName) (.type "BaseException") = some true)
    (kc_WrongName : PySem.W.keepIn K (.ref C_WrongName) = true)
    (ty_WrongName : PySem.W.typeIn K (.ref C_WrongName) = some (.type "type"))
    (xL_NoAnswer : K.lookup C_NoAnswer = some (excClassObj nm_NoAnswer q_NoAnswer C_NoAnswer N_NoAnswer bs_NoAnswer [.type "ArithmeticError", .type "Exception", .type "BaseException", .type "object"] true sn_NoAnswer sub_NoAnswer ab_NoAnswer col_NoAnswer dd_NoAnswer e0_NoAnswer e1_NoAnswer e2_NoAnswer e3_NoAnswer e5_NoAnswer "ArithmeticError.__new__"))
    (sa_NoAnswer : PySem.W.findIn K (.ref C_NoAnswer) "__setattr__" = some (some (.builtin "object.__setattr__")))
    (sb_NoAnswer : PySem.W.subIn K (.ref C_NoAnswer) (.type "BaseException") = some true)
    (kc_NoAnswer : PySem.W.keepIn K (.ref C_NoAnswer) = true)
    (ty_NoAnswer : PySem.W.typeIn K (.ref C_NoAnswer) = some (.type "type"))
    (xb_NotASign : xB K C_NotASign [.ref C_NotASign, .ref C_NotARecord, .ref C_InvalidText, .ref C_InvalidPace, .ref C_InvalidWidth, .ref C_InvalidPlace, .ref C_InvalidLength, .ref C_InvalidTime, .ref C_InvalidWindow, .ref C_InvalidName, .ref C_InvalidClaim, .ref C_InvalidIndex, .ref C_InvalidLine, .ref C_InvalidDead, .ref C_InvalidPaces, .ref C_InvalidGroups, .ref C_InvalidTimes, .ref C_InvalidDeeds, .ref C_UnknownName, .ref C_InUse, .ref C_TooMany, .ref C_OtherKind, .ref C_Broken, .ref C_NothingToUndo, .ref C_WrongValue, .ref C_WrongName, .ref C_NoAnswer, .type "ValueError", .type "LookupError", .type "ArithmeticError"] (bsOf ["NotASign", "WrongValue", "ValueError"]) = true)
    (xb_NotARecord : xB K C_NotARecord [.ref C_NotASign, .ref C_NotARecord, .ref C_InvalidText, .ref C_InvalidPace, .ref C_InvalidWidth, .ref C_InvalidPlace, .ref C_InvalidLength, .ref C_InvalidTime, .ref C_InvalidWindow, .ref C_InvalidName, .ref C_InvalidClaim, .ref C_InvalidIndex, .ref C_InvalidLine, .ref C_InvalidDead, .ref C_InvalidPaces, .ref C_InvalidGroups, .ref C_InvalidTimes, .ref C_InvalidDeeds, .ref C_UnknownName, .ref C_InUse, .ref C_TooMany, .ref C_OtherKind, .ref C_Broken, .ref C_NothingToUndo, .ref C_WrongValue, .ref C_WrongName, .ref C_NoAnswer, .type "ValueError", .type "LookupError", .type "ArithmeticError"] (bsOf ["NotARecord", "WrongValue", "ValueError"]) = true)
    (xb_InvalidText : xB K C_InvalidText [.ref C_NotASign, .ref C_NotARecord, .ref C_InvalidText, .ref C_InvalidPace, .ref C_InvalidWidth, .ref C_InvalidPlace, .ref C_InvalidLength, .ref C_InvalidTime, .ref C_InvalidWindow, .ref C_InvalidName, .ref C_InvalidClaim, .ref C_InvalidIndex, .ref C_InvalidLine, .ref C_InvalidDead, .ref C_InvalidPaces, .ref C_InvalidGroups, .ref C_InvalidTimes, .ref C_InvalidDeeds, .ref C_UnknownName, .ref C_InUse, .ref C_TooMany, .ref C_OtherKind, .ref C_Broken, .ref C_NothingToUndo, .ref C_WrongValue, .ref C_WrongName, .ref C_NoAnswer, .type "ValueError", .type "LookupError", .type "ArithmeticError"] (bsOf ["InvalidText", "WrongValue", "ValueError"]) = true)
    (xb_InvalidPace : xB K C_InvalidPace [.ref C_NotASign, .ref C_NotARecord, .ref C_InvalidText, .ref C_InvalidPace, .ref C_InvalidWidth, .ref C_InvalidPlace, .ref C_InvalidLength, .ref C_InvalidTime, .ref C_InvalidWindow, .ref C_InvalidName, .ref C_InvalidClaim, .ref C_InvalidIndex, .ref C_InvalidLine, .ref C_InvalidDead, .ref C_InvalidPaces, .ref C_InvalidGroups, .ref C_InvalidTimes, .ref C_InvalidDeeds, .ref C_UnknownName, .ref C_InUse, .ref C_TooMany, .ref C_OtherKind, .ref C_Broken, .ref C_NothingToUndo, .ref C_WrongValue, .ref C_WrongName, .ref C_NoAnswer, .type "ValueError", .type "LookupError", .type "ArithmeticError"] (bsOf ["InvalidPace", "WrongValue", "ValueError"]) = true)
    (xb_InvalidWidth : xB K C_InvalidWidth [.ref C_NotASign, .ref C_NotARecord, .ref C_InvalidText, .ref C_InvalidPace, .ref C_InvalidWidth, .ref C_InvalidPlace, .ref C_InvalidLength, .ref C_InvalidTime, .ref C_InvalidWindow, .ref C_InvalidName, .ref C_InvalidClaim, .ref C_InvalidIndex, .ref C_InvalidLine, .ref C_InvalidDead, .ref C_InvalidPaces, .ref C_InvalidGroups, .ref C_InvalidTimes, .ref C_InvalidDeeds, .ref C_UnknownName, .ref C_InUse, .ref C_TooMany, .ref C_OtherKind, .ref C_Broken, .ref C_NothingToUndo, .ref C_WrongValue, .ref C_WrongName, .ref C_NoAnswer, .type "ValueError", .type "LookupError", .type "ArithmeticError"] (bsOf ["InvalidWidth", "WrongValue", "ValueError"]) = true)
    (xb_InvalidPlace : xB K C_InvalidPlace [.ref C_NotASign, .ref C_NotARecord, .ref C_InvalidText, .ref C_InvalidPace, .ref C_InvalidWidth, .ref C_InvalidPlace, .ref C_InvalidLength, .ref C_InvalidTime, .ref C_InvalidWindow, .ref C_InvalidName, .ref C_InvalidClaim, .ref C_InvalidIndex, .ref C_InvalidLine, .ref C_InvalidDead, .ref C_InvalidPaces, .ref C_InvalidGroups, .ref C_InvalidTimes, .ref C_InvalidDeeds, .ref C_UnknownName, .ref C_InUse, .ref C_TooMany, .ref C_OtherKind, .ref C_Broken, .ref C_NothingToUndo, .ref C_WrongValue, .ref C_WrongName, .ref C_NoAnswer, .type "ValueError", .type "LookupError", .type "ArithmeticError"] (bsOf ["InvalidPlace", "WrongValue", "ValueError"]) = true)
    (xb_InvalidLength : xB K C_InvalidLength [.ref C_NotASign, .ref C_NotARecord, .ref C_InvalidText, .ref C_InvalidPace, .ref C_InvalidWidth, .ref C_InvalidPlace, .ref C_InvalidLength, .ref C_InvalidTime, .ref C_InvalidWindow, .ref C_InvalidName, .ref C_InvalidClaim, .ref C_InvalidIndex, .ref C_InvalidLine, .ref C_InvalidDead, .ref C_InvalidPaces, .ref C_InvalidGroups, .ref C_InvalidTimes, .ref C_InvalidDeeds, .ref C_UnknownName, .ref C_InUse, .ref C_TooMany, .ref C_OtherKind, .ref C_Broken, .ref C_NothingToUndo, .ref C_WrongValue, .ref C_WrongName, .ref C_NoAnswer, .type "ValueError", .type "LookupError", .type "ArithmeticError"] (bsOf ["InvalidLength", "WrongValue", "ValueError"]) = true)
    (xb_InvalidTime : xB K C_InvalidTime [.ref C_NotASign, .ref C_NotARecord, .ref C_InvalidText, .ref C_InvalidPace, .ref C_InvalidWidth, .ref C_InvalidPlace, .ref C_InvalidLength, .ref C_InvalidTime, .ref C_InvalidWindow, .ref C_InvalidName, .ref C_InvalidClaim, .ref C_InvalidIndex, .ref C_InvalidLine, .ref C_InvalidDead, .ref C_InvalidPaces, .ref C_InvalidGroups, .ref C_InvalidTimes, .ref C_InvalidDeeds, .ref C_UnknownName, .ref C_InUse, .ref C_TooMany, .ref C_OtherKind, .ref C_Broken, .ref C_NothingToUndo, .ref C_WrongValue, .ref C_WrongName, .ref C_NoAnswer, .type "ValueError", .type "LookupError", .type "ArithmeticError"] (bsOf ["InvalidTime", "WrongValue", "ValueError"]) = true)
    (xb_InvalidWindow : xB K C_InvalidWindow [.ref C_NotASign, .ref C_NotARecord, .ref C_InvalidText, .ref C_InvalidPace, .ref C_InvalidWidth, .ref C_InvalidPlace, .ref C_InvalidLength, .ref C_InvalidTime, .ref C_InvalidWindow, .ref C_InvalidName, .ref C_InvalidClaim, .ref C_InvalidIndex, .ref C_InvalidLine, .ref C_InvalidDead, .ref C_InvalidPaces, .ref C_InvalidGroups, .ref C_InvalidTimes, .ref C_InvalidDeeds, .ref C_UnknownName, .ref C_InUse, .ref C_TooMany, .ref C_OtherKind, .ref C_Broken, .ref C_NothingToUndo, .ref C_WrongValue, .ref C_WrongName, .ref C_NoAnswer, .type "ValueError", .type "LookupError", .type "ArithmeticError"] (bsOf ["InvalidWindow", "WrongValue", "ValueError"]) = true)
    (xb_InvalidName : xB K C_InvalidName [.ref C_NotASign, .ref C_NotARecord, .ref C_InvalidText, .ref C_InvalidPace, .ref C_InvalidWidth, .ref C_InvalidPlace, .ref C_InvalidLength, .ref C_InvalidTime, .ref C_InvalidWindow, .ref C_InvalidName, .ref C_InvalidClaim, .ref C_InvalidIndex, .ref C_InvalidLine, .ref C_InvalidDead, .ref C_InvalidPaces, .ref C_InvalidGroups, .ref C_InvalidTimes, .ref C_InvalidDeeds, .ref C_UnknownName, .ref C_InUse, .ref C_TooMany, .ref C_OtherKind, .ref C_Broken, .ref C_NothingToUndo, .ref C_WrongValue, .ref C_WrongName, .ref C_NoAnswer, .type "ValueError", .type "LookupError", .type "ArithmeticError"] (bsOf ["InvalidName", "WrongValue", "ValueError"]) = true)
    (xb_InvalidClaim : xB K C_InvalidClaim [.ref C_NotASign, .ref C_NotARecord, .ref C_InvalidText, .ref C_InvalidPace, .ref C_InvalidWidth, .ref C_InvalidPlace, .ref C_InvalidLength, .ref C_InvalidTime, .ref C_InvalidWindow, .ref C_InvalidName, .ref C_InvalidClaim, .ref C_InvalidIndex, .ref C_InvalidLine, .ref C_InvalidDead, .ref C_InvalidPaces, .ref C_InvalidGroups, .ref C_InvalidTimes, .ref C_InvalidDeeds, .ref C_UnknownName, .ref C_InUse, .ref C_TooMany, .ref C_OtherKind, .ref C_Broken, .ref C_NothingToUndo, .ref C_WrongValue, .ref C_WrongName, .ref C_NoAnswer, .type "ValueError", .type "LookupError", .type "ArithmeticError"] (bsOf ["InvalidClaim", "WrongValue", "ValueError"]) = true)
    (xb_InvalidIndex : xB K C_InvalidIndex [.ref C_NotASign, .ref C_NotARecord, .ref C_InvalidText, .ref C_InvalidPace, .ref C_InvalidWidth, .ref C_InvalidPlace, .ref C_InvalidLength, .ref C_InvalidTime, .ref C_InvalidWindow, .ref C_InvalidName, .ref C_InvalidClaim, .ref C_InvalidIndex, .ref C_InvalidLine, .ref C_InvalidDead, .ref C_InvalidPaces, .ref C_InvalidGroups, .ref C_InvalidTimes, .ref C_InvalidDeeds, .ref C_UnknownName, .ref C_InUse, .ref C_TooMany, .ref C_OtherKind, .ref C_Broken, .ref C_NothingToUndo, .ref C_WrongValue, .ref C_WrongName, .ref C_NoAnswer, .type "ValueError", .type "LookupError", .type "ArithmeticError"] (bsOf ["InvalidIndex", "WrongValue", "ValueError"]) = true)
    (xb_InvalidLine : xB K C_InvalidLine [.ref C_NotASign, .ref C_NotARecord, .ref C_InvalidText, .ref C_InvalidPace, .ref C_InvalidWidth, .ref C_InvalidPlace, .ref C_InvalidLength, .ref C_InvalidTime, .ref C_InvalidWindow, .ref C_InvalidName, .ref C_InvalidClaim, .ref C_InvalidIndex, .ref C_InvalidLine, .ref C_InvalidDead, .ref C_InvalidPaces, .ref C_InvalidGroups, .ref C_InvalidTimes, .ref C_InvalidDeeds, .ref C_UnknownName, .ref C_InUse, .ref C_TooMany, .ref C_OtherKind, .ref C_Broken, .ref C_NothingToUndo, .ref C_WrongValue, .ref C_WrongName, .ref C_NoAnswer, .type "ValueError", .type "LookupError", .type "ArithmeticError"] (bsOf ["InvalidLine", "WrongValue", "ValueError"]) = true)
    (xb_InvalidDead : xB K C_InvalidDead [.ref C_NotASign, .ref C_NotARecord, .ref C_InvalidText, .ref C_InvalidPace, .ref C_InvalidWidth, .ref C_InvalidPlace, .ref C_InvalidLength, .ref C_InvalidTime, .ref C_InvalidWindow, .ref C_InvalidName, .ref C_InvalidClaim, .ref C_InvalidIndex, .ref C_InvalidLine, .ref C_InvalidDead, .ref C_InvalidPaces, .ref C_InvalidGroups, .ref C_InvalidTimes, .ref C_InvalidDeeds, .ref C_UnknownName, .ref C_InUse, .ref C_TooMany, .ref C_OtherKind, .ref C_Broken, .ref C_NothingToUndo, .ref C_WrongValue, .ref C_WrongName, .ref C_NoAnswer, .type "ValueError", .type "LookupError", .type "ArithmeticError"] (bsOf ["InvalidDead", "WrongValue", "ValueError"]) = true)
    (xb_InvalidPaces : xB K C_InvalidPaces [.ref C_NotASign, .ref C_NotARecord, .ref C_InvalidText, .ref C_InvalidPace, .ref C_InvalidWidth, .ref C_InvalidPlace, .ref C_InvalidLength, .ref C_InvalidTime, .ref C_InvalidWindow, .ref C_InvalidName, .ref C_InvalidClaim, .ref C_InvalidIndex, .ref C_InvalidLine, .ref C_InvalidDead, .ref C_InvalidPaces, .ref C_InvalidGroups, .ref C_InvalidTimes, .ref C_InvalidDeeds, .ref C_UnknownName, .ref C_InUse, .ref C_TooMany, .ref C_OtherKind, .ref C_Broken, .ref C_NothingToUndo, .ref C_WrongValue, .ref C_WrongName, .ref C_NoAnswer, .type "ValueError", .type "LookupError", .type "ArithmeticError"] (bsOf ["InvalidPaces", "WrongValue", "ValueError"]) = true)
    (xb_InvalidGroups : xB K C_InvalidGroups [.ref C_NotASign, .ref C_NotARecord, .ref C_InvalidText, .ref C_InvalidPace, .ref C_InvalidWidth, .ref C_InvalidPlace, .ref C_InvalidLength, .ref C_InvalidTime, .ref C_InvalidWindow, .ref C_InvalidName, .ref C_InvalidClaim, .ref C_InvalidIndex, .ref C_InvalidLine, .ref C_InvalidDead, .ref C_InvalidPaces, .ref C_InvalidGroups, .ref C_InvalidTimes, .ref C_InvalidDeeds, .ref C_UnknownName, .ref C_InUse, .ref C_TooMany, .ref C_OtherKind, .ref C_Broken, .ref C_NothingToUndo, .ref C_WrongValue, .ref C_WrongName, .ref C_NoAnswer, .type "ValueError", .type "LookupError", .type "ArithmeticError"] (bsOf ["InvalidGroups", "WrongValue", "ValueError"]) = true)
    (xb_InvalidTimes : xB K C_InvalidTimes [.ref C_NotASign, .ref C_NotARecord, .ref C_InvalidText, .ref C_InvalidPace, .ref C_InvalidWidth, .ref C_InvalidPlace, .ref C_InvalidLength, .ref C_InvalidTime, .ref C_InvalidWindow, .ref C_InvalidName, .ref C_InvalidClaim, .ref C_InvalidIndex, .ref C_InvalidLine, .ref C_InvalidDead, .ref C_InvalidPaces, .ref C_InvalidGroups, .ref C_InvalidTimes, .ref C_InvalidDeeds, .ref C_UnknownName, .ref C_InUse, .ref C_TooMany, .ref C_OtherKind, .ref C_Broken, .ref C_NothingToUndo, .ref C_WrongValue, .ref C_WrongName, .ref C_NoAnswer, .type "ValueError", .type "LookupError", .type "ArithmeticError"] (bsOf ["InvalidTimes", "WrongValue", "ValueError"]) = true)
    (xb_InvalidDeeds : xB K C_InvalidDeeds [.ref C_NotASign, .ref C_NotARecord, .ref C_InvalidText, .ref C_InvalidPace, .ref C_InvalidWidth, .ref C_InvalidPlace, .ref C_InvalidLength, .ref C_InvalidTime, .ref C_InvalidWindow, .ref C_InvalidName, .ref C_InvalidClaim, .ref C_InvalidIndex, .ref C_InvalidLine, .ref C_InvalidDead, .ref C_InvalidPaces, .ref C_InvalidGroups, .ref C_InvalidTimes, .ref C_InvalidDeeds, .ref C_UnknownName, .ref C_InUse, .ref C_TooMany, .ref C_OtherKind, .ref C_Broken, .ref C_NothingToUndo, .ref C_WrongValue, .ref C_WrongName, .ref C_NoAnswer, .type "ValueError", .type "LookupError", .type "ArithmeticError"] (bsOf ["InvalidDeeds", "WrongValue", "ValueError"]) = true)
    (xb_UnknownName : xB K C_UnknownName [.ref C_NotASign, .ref C_NotARecord, .ref C_InvalidText, .ref C_InvalidPace, .ref C_InvalidWidth, .ref C_InvalidPlace, .ref C_InvalidLength, .ref C_InvalidTime, .ref C_InvalidWindow, .ref C_InvalidName, .ref C_InvalidClaim, .ref C_InvalidIndex, .ref C_InvalidLine, .ref C_InvalidDead, .ref C_InvalidPaces, .ref C_InvalidGroups, .ref C_InvalidTimes, .ref C_InvalidDeeds, .ref C_UnknownName, .ref C_InUse, .ref C_TooMany, .ref C_OtherKind, .ref C_Broken, .ref C_NothingToUndo, .ref C_WrongValue, .ref C_WrongName, .ref C_NoAnswer, .type "ValueError", .type "LookupError", .type "ArithmeticError"] (bsOf ["UnknownName", "WrongName", "LookupError"]) = true)
    (xb_InUse : xB K C_InUse [.ref C_NotASign, .ref C_NotARecord, .ref C_InvalidText, .ref C_InvalidPace, .ref C_InvalidWidth, .ref C_InvalidPlace, .ref C_InvalidLength, .ref C_InvalidTime, .ref C_InvalidWindow, .ref C_InvalidName, .ref C_InvalidClaim, .ref C_InvalidIndex, .ref C_InvalidLine, .ref C_InvalidDead, .ref C_InvalidPaces, .ref C_InvalidGroups, .ref C_InvalidTimes, .ref C_InvalidDeeds, .ref C_UnknownName, .ref C_InUse, .ref C_TooMany, .ref C_OtherKind, .ref C_Broken, .ref C_NothingToUndo, .ref C_WrongValue, .ref C_WrongName, .ref C_NoAnswer, .type "ValueError", .type "LookupError", .type "ArithmeticError"] (bsOf ["InUse", "WrongName", "LookupError"]) = true)
    (xb_TooMany : xB K C_TooMany [.ref C_NotASign, .ref C_NotARecord, .ref C_InvalidText, .ref C_InvalidPace, .ref C_InvalidWidth, .ref C_InvalidPlace, .ref C_InvalidLength, .ref C_InvalidTime, .ref C_InvalidWindow, .ref C_InvalidName, .ref C_InvalidClaim, .ref C_InvalidIndex, .ref C_InvalidLine, .ref C_InvalidDead, .ref C_InvalidPaces, .ref C_InvalidGroups, .ref C_InvalidTimes, .ref C_InvalidDeeds, .ref C_UnknownName, .ref C_InUse, .ref C_TooMany, .ref C_OtherKind, .ref C_Broken, .ref C_NothingToUndo, .ref C_WrongValue, .ref C_WrongName, .ref C_NoAnswer, .type "ValueError", .type "LookupError", .type "ArithmeticError"] (bsOf ["TooMany", "NoAnswer", "ArithmeticError"]) = true)
    (xb_OtherKind : xB K C_OtherKind [.ref C_NotASign, .ref C_NotARecord, .ref C_InvalidText, .ref C_InvalidPace, .ref C_InvalidWidth, .ref C_InvalidPlace, .ref C_InvalidLength, .ref C_InvalidTime, .ref C_InvalidWindow, .ref C_InvalidName, .ref C_InvalidClaim, .ref C_InvalidIndex, .ref C_InvalidLine, .ref C_InvalidDead, .ref C_InvalidPaces, .ref C_InvalidGroups, .ref C_InvalidTimes, .ref C_InvalidDeeds, .ref C_UnknownName, .ref C_InUse, .ref C_TooMany, .ref C_OtherKind, .ref C_Broken, .ref C_NothingToUndo, .ref C_WrongValue, .ref C_WrongName, .ref C_NoAnswer, .type "ValueError", .type "LookupError", .type "ArithmeticError"] (bsOf ["OtherKind", "NoAnswer", "ArithmeticError"]) = true)
    (xb_Broken : xB K C_Broken [.ref C_NotASign, .ref C_NotARecord, .ref C_InvalidText, .ref C_InvalidPace, .ref C_InvalidWidth, .ref C_InvalidPlace, .ref C_InvalidLength, .ref C_InvalidTime, .ref C_InvalidWindow, .ref C_InvalidName, .ref C_InvalidClaim, .ref C_InvalidIndex, .ref C_InvalidLine, .ref C_InvalidDead, .ref C_InvalidPaces, .ref C_InvalidGroups, .ref C_InvalidTimes, .ref C_InvalidDeeds, .ref C_UnknownName, .ref C_InUse, .ref C_TooMany, .ref C_OtherKind, .ref C_Broken, .ref C_NothingToUndo, .ref C_WrongValue, .ref C_WrongName, .ref C_NoAnswer, .type "ValueError", .type "LookupError", .type "ArithmeticError"] (bsOf ["Broken", "NoAnswer", "ArithmeticError"]) = true)
    (xb_NothingToUndo : xB K C_NothingToUndo [.ref C_NotASign, .ref C_NotARecord, .ref C_InvalidText, .ref C_InvalidPace, .ref C_InvalidWidth, .ref C_InvalidPlace, .ref C_InvalidLength, .ref C_InvalidTime, .ref C_InvalidWindow, .ref C_InvalidName, .ref C_InvalidClaim, .ref C_InvalidIndex, .ref C_InvalidLine, .ref C_InvalidDead, .ref C_InvalidPaces, .ref C_InvalidGroups, .ref C_InvalidTimes, .ref C_InvalidDeeds, .ref C_UnknownName, .ref C_InUse, .ref C_TooMany, .ref C_OtherKind, .ref C_Broken, .ref C_NothingToUndo, .ref C_WrongValue, .ref C_WrongName, .ref C_NoAnswer, .type "ValueError", .type "LookupError", .type "ArithmeticError"] (bsOf ["NothingToUndo", "NoAnswer", "ArithmeticError"]) = true)
    (xb_WrongValue : xB K C_WrongValue [.ref C_NotASign, .ref C_NotARecord, .ref C_InvalidText, .ref C_InvalidPace, .ref C_InvalidWidth, .ref C_InvalidPlace, .ref C_InvalidLength, .ref C_InvalidTime, .ref C_InvalidWindow, .ref C_InvalidName, .ref C_InvalidClaim, .ref C_InvalidIndex, .ref C_InvalidLine, .ref C_InvalidDead, .ref C_InvalidPaces, .ref C_InvalidGroups, .ref C_InvalidTimes, .ref C_InvalidDeeds, .ref C_UnknownName, .ref C_InUse, .ref C_TooMany, .ref C_OtherKind, .ref C_Broken, .ref C_NothingToUndo, .ref C_WrongValue, .ref C_WrongName, .ref C_NoAnswer, .type "ValueError", .type "LookupError", .type "ArithmeticError"] (bsOf ["WrongValue", "ValueError"]) = true)
    (xb_WrongName : xB K C_WrongName [.ref C_NotASign, .ref C_NotARecord, .ref C_InvalidText, .ref C_InvalidPace, .ref C_InvalidWidth, .ref C_InvalidPlace, .ref C_InvalidLength, .ref C_InvalidTime, .ref C_InvalidWindow, .ref C_InvalidName, .ref C_InvalidClaim, .ref C_InvalidIndex, .ref C_InvalidLine, .ref C_InvalidDead, .ref C_InvalidPaces, .ref C_InvalidGroups, .ref C_InvalidTimes, .ref C_InvalidDeeds, .ref C_UnknownName, .ref C_InUse, .ref C_TooMany, .ref C_OtherKind, .ref C_Broken, .ref C_NothingToUndo, .ref C_WrongValue, .ref C_WrongName, .ref C_NoAnswer, .type "ValueError", .type "LookupError", .type "ArithmeticError"] (bsOf ["WrongName", "LookupError"]) = true)
    (xb_NoAnswer : xB K C_NoAnswer [.ref C_NotASign, .ref C_NotARecord, .ref C_InvalidText, .ref C_InvalidPace, .ref C_InvalidWidth, .ref C_InvalidPlace, .ref C_InvalidLength, .ref C_InvalidTime, .ref C_InvalidWindow, .ref C_InvalidName, .ref C_InvalidClaim, .ref C_InvalidIndex, .ref C_InvalidLine, .ref C_InvalidDead, .ref C_InvalidPaces, .ref C_InvalidGroups, .ref C_InvalidTimes, .ref C_InvalidDeeds, .ref C_UnknownName, .ref C_InUse, .ref C_TooMany, .ref C_OtherKind, .ref C_Broken, .ref C_NothingToUndo, .ref C_WrongValue, .ref C_WrongName, .ref C_NoAnswer, .type "ValueError", .type "LookupError", .type "ArithmeticError"] (bsOf ["NoAnswer", "ArithmeticError"]) = true)
    (zz_ValueError : PySem.W.nsIn K mainGlobals "ValueError" = some none)
    (zz_LookupError : PySem.W.nsIn K mainGlobals "LookupError" = some none)
    (zz_ArithmeticError : PySem.W.nsIn K mainGlobals "ArithmeticError" = some none)
    (xg : PySem.W.specialIn K (.builtin "object.__class__") "__get__" = some (some (.builtin "getset_descriptor.__get__")))
    (xt : PySem.W.takesIn K (.builtin "object.__class__") = some true)
    (w0 : PySem.W.nsIn K mainGlobals "GREATEST" = some (some (.int 1000000000000000000000000000000 u0)))
    (w1 : PySem.W.nsIn K mainGlobals "MOST_GLANCES" = some (some (.int 12 u1)))
    (w2 : PySem.W.nsIn K mainGlobals "MOST_LENGTH" = some (some (.int 40 u2)))
    (w3 : PySem.W.nsIn K mainGlobals "MOST_PACE" = some (some (.int 9 u3)))
    (w4 : PySem.W.nsIn K mainGlobals "MOST_PAIRS" = some (some (.int 30 u4)))
    (w5 : PySem.W.nsIn K mainGlobals "MOST_TIMES" = some (some (.int 6 u5)))
    (w6 : PySem.W.nsIn K mainGlobals "MOST_WIDTH" = some (some (.int 8 u6)))
    (z0 : PySem.W.nsIn K mainGlobals "len" = some none)
    (z1 : PySem.W.nsIn K mainGlobals "range" = some none)
    (z2 : PySem.W.nsIn K mainGlobals "str" = some none)
    (z3 : PySem.W.nsIn K mainGlobals "int" = some none)
    (z4 : PySem.W.nsIn K mainGlobals "abs" = some none)
    (z5 : PySem.W.nsIn K mainGlobals "divmod" = some none)
    (z6 : PySem.W.nsIn K mainGlobals "all" = some none)
    (z7 : PySem.W.nsIn K mainGlobals "any" = some none)
    (z8 : PySem.W.nsIn K mainGlobals "repr" = some none)
    (z9 : PySem.W.nsIn K mainGlobals "isinstance" = some none)
    (z10 : PySem.W.nsIn K mainGlobals "max" = some none)
    (z11 : PySem.W.nsIn K mainGlobals "min" = some none)
    (z12 : PySem.W.nsIn K mainGlobals "bool" = some none)
    (z13 : PySem.W.nsIn K mainGlobals "tuple" = some none)
    (z14 : PySem.W.nsIn K mainGlobals "list" = some none)
    (z15 : PySem.W.nsIn K mainGlobals "enumerate" = some none)
    (z16 : PySem.W.nsIn K mainGlobals "zip" = some none)
    (z17 : PySem.W.nsIn K mainGlobals "sorted" = some none)
    (z18 : PySem.W.nsIn K mainGlobals "sum" = some none) :
    LawG l w K 5 63 "_law_script" mg fa h := by
  have e := hfa.symm.trans (PySem.W.mg_of X Gn a7)
  cases e
  obtain ⟨cm, hc0, hc1, hc2, hc3, hc4, hc5, hc6, hc7, hc8, hc9, hc10, hc11, hc12, hc13, hc14, hc15, hc16, hc17, hc18, hc19, hc20, hc21, hc22, hc23, hc24, hc25, hc26⟩ : ∃ cm : Str → Addr, cm "Broken" = C_Broken ∧ cm "InUse" = C_InUse ∧ cm "InvalidClaim" = C_InvalidClaim ∧ cm "InvalidDead" = C_InvalidDead ∧ cm "InvalidDeeds" = C_InvalidDeeds ∧ cm "InvalidGroups" = C_InvalidGroups ∧ cm "InvalidIndex" = C_InvalidIndex ∧ cm "InvalidLength" = C_InvalidLength ∧ cm "InvalidLine" = C_InvalidLine ∧ cm "InvalidName" = C_InvalidName ∧ cm "InvalidPace" = C_InvalidPace ∧ cm "InvalidPaces" = C_InvalidPaces ∧ cm "InvalidPlace" = C_InvalidPlace ∧ cm "InvalidText" = C_InvalidText ∧ cm "InvalidTime" = C_InvalidTime ∧ cm "InvalidTimes" = C_InvalidTimes ∧ cm "InvalidWidth" = C_InvalidWidth ∧ cm "InvalidWindow" = C_InvalidWindow ∧ cm "NotARecord" = C_NotARecord ∧ cm "NotASign" = C_NotASign ∧ cm "OtherKind" = C_OtherKind ∧ cm "TooMany" = C_TooMany ∧ cm "UnknownName" = C_UnknownName ∧ cm "NothingToUndo" = C_NothingToUndo ∧ cm "WrongValue" = C_WrongValue ∧ cm "WrongName" = C_WrongName ∧ cm "NoAnswer" = C_NoAnswer := ⟨fun x => if x = "Broken" then C_Broken else if x = "InUse" then C_InUse else if x = "InvalidClaim" then C_InvalidClaim else if x = "InvalidDead" then C_InvalidDead else if x = "InvalidDeeds" then C_InvalidDeeds else if x = "InvalidGroups" then C_InvalidGroups else if x = "InvalidIndex" then C_InvalidIndex else if x = "InvalidLength" then C_InvalidLength else if x = "InvalidLine" then C_InvalidLine else if x = "InvalidName" then C_InvalidName else if x = "InvalidPace" then C_InvalidPace else if x = "InvalidPaces" then C_InvalidPaces else if x = "InvalidPlace" then C_InvalidPlace else if x = "InvalidText" then C_InvalidText else if x = "InvalidTime" then C_InvalidTime else if x = "InvalidTimes" then C_InvalidTimes else if x = "InvalidWidth" then C_InvalidWidth else if x = "InvalidWindow" then C_InvalidWindow else if x = "NotARecord" then C_NotARecord else if x = "NotASign" then C_NotASign else if x = "OtherKind" then C_OtherKind else if x = "TooMany" then C_TooMany else if x = "UnknownName" then C_UnknownName else if x = "NothingToUndo" then C_NothingToUndo else if x = "WrongValue" then C_WrongValue else if x = "WrongName" then C_WrongName else C_NoAnswer, if_pos rfl, (if_neg (by decide)).trans (if_pos rfl), (if_neg (by decide)).trans ((if_neg (by decide)).trans (if_pos rfl)), (if_neg (by decide)).trans ((if_neg (by decide)).trans ((if_neg (by decide)).trans (if_pos rfl))), (if_neg (by decide)).trans ((if_neg (by decide)).trans ((if_neg (by decide)).trans ((if_neg (by decide)).trans (if_pos rfl)))), (if_neg (by decide)).trans ((if_neg (by decide)).trans ((if_neg (by decide)).trans ((if_neg (by decide)).trans ((if_neg (by decide)).trans (if_pos rfl))))), (if_neg (by decide)).trans ((if_neg (by decide)).trans ((if_neg (by decide)).trans ((if_neg (by decide)).trans ((if_neg (by decide)).trans ((if_neg (by decide)).trans (if_pos rfl)))))), (if_neg (by decide)).trans ((if_neg (by decide)).trans ((if_neg (by decide)).trans ((if_neg (by decide)).trans ((if_neg (by decide)).trans ((if_neg (by decide)).trans ((if_neg (by decide)).trans (if_pos rfl))))))), (if_neg (by decide)).trans ((if_neg (by decide)).trans ((if_neg (by decide)).trans ((if_neg (by decide)).trans ((if_neg (by decide)).trans ((if_neg (by decide)).trans ((if_neg (by decide)).trans ((if_neg (by decide)).trans (if_pos rfl)))))))), (if_neg (by decide)).trans ((if_neg (by decide)).trans ((if_neg (by decide)).trans ((if_neg (by decide)).trans ((if_neg (by decide)).trans ((if_neg (by decide)).trans ((if_neg (by decide)).trans ((if_neg (by decide)).trans ((if_neg (by decide)).trans (if_pos rfl))))))))), (if_neg (by decide)).trans ((if_neg (by decide)).trans ((if_neg (by decide)).trans ((if_neg (by decide)).trans ((if_neg (by decide)).trans ((if_neg (by decide)).trans ((if_neg (by decide)).trans ((if_neg (by decide)).trans ((if_neg (by decide)).trans ((if_neg (by decide)).trans (if_pos rfl)))))))))), (if_neg (by decide)).trans ((if_neg (by decide)).trans ((if_neg (by decide)).trans ((if_neg (by decide)).trans ((if_neg (by decide)).trans ((if_neg (by decide)).trans ((if_neg (by decide)).trans ((if_neg (by decide)).trans ((if_neg (by decide)).trans ((if_neg (by decide)).trans ((if_neg (by decide)).trans (if_pos rfl))))))))))), (if_neg (by decide)).trans ((if_neg (by decide)).trans ((if_neg (by decide)).trans ((if_neg (by decide)).trans ((if_neg (by decide)).trans ((if_neg (by decide)).trans ((if_neg (by decide)).trans ((if_neg (by decide)).trans ((if_neg (by decide)).trans ((if_neg (by decide)).trans ((if_neg (by decide)).trans ((if_neg (by decide)).trans (if_pos rfl)))))))))))), (if_neg (by decide)).trans ((if_neg (by decide)).trans ((if_neg (by decide)).trans ((if_neg (by decide)).trans ((if_neg (by decide)).trans ((if_neg (by decide)).trans ((if_neg (by decide)).trans ((if_neg (by decide)).trans ((if_neg (by decide)).trans ((if_neg (by decide)).trans ((if_neg (by decide)).trans ((if_neg (by decide)).trans ((if_neg (by decide)).trans (if_pos rfl))))))))))))), (if_neg (by decide)).trans ((if_neg (by decide)).trans ((if_neg (by decide)).trans ((if_neg (by decide)).trans ((if_neg (by decide)).trans ((if_neg (by decide)).trans ((if_neg (by decide)).trans ((if_neg (by decide)).trans ((if_neg (by decide)).trans ((if_neg (by decide)).trans ((if_neg (by decide)).trans ((if_neg (by decide)).trans ((if_neg (by decide)).trans ((if_neg (by decide)).trans (if_pos rfl)))))))))))))), (if_neg (by decide)).trans ((if_neg (by decide)).trans ((if_neg (by decide)).trans ((if_neg (by decide)).trans ((if_neg (by decide)).trans ((if_neg (by decide)).trans ((if_neg (by decide)).trans ((if_neg (by decide)).trans ((if_neg (by decide)).trans ((if_neg (by decide)).trans ((if_neg (by decide)).trans ((if_neg (by decide)).trans ((if_neg (by decide)).trans ((if_neg (by decide)).trans ((if_neg (by decide)).trans (if_pos rfl))))))))))))))), (if_neg (by decide)).trans ((if_neg (by decide)).trans ((if_neg (by decide)).trans ((if_neg (by decide)).trans ((if_neg (by decide)).trans ((if_neg (by decide)).trans ((if_neg (by decide)).trans ((if_neg (by decide)).trans ((if_neg (by decide)).trans ((if_neg (by decide)).trans ((if_neg (by decide)).trans ((if_neg (by decide)).trans ((if_neg (by decide)).trans ((if_neg (by decide)).trans ((if_neg (by decide)).trans ((if_neg (by decide)).trans (if_pos rfl)))))))))))))))), (if_neg (by decide)).trans ((if_neg (by decide)).trans ((if_neg (by decide)).trans ((if_neg (by decide)).trans ((if_neg (by decide)).trans ((if_neg (by decide)).trans ((if_neg (by decide)).trans ((if_neg (by decide)).trans ((if_neg (by decide)).trans ((if_neg (by decide)).trans ((if_neg (by decide)).trans ((if_neg (by decide)).trans ((if_neg (by decide)).trans ((if_neg (by decide)).trans ((if_neg (by decide)).trans ((if_neg (by decide)).trans ((if_neg (by decide)).trans (if_pos rfl))))))))))))))))), (if_neg (by decide)).trans ((if_neg (by decide)).trans ((if_neg (by decide)).trans ((if_neg (by decide)).trans ((if_neg (by decide)).trans ((if_neg (by decide)).trans ((if_neg (by decide)).trans ((if_neg (by decide)).trans ((if_neg (by decide)).trans ((if_neg (by decide)).trans ((if_neg (by decide)).trans ((if_neg (by decide)).trans ((if_neg (by decide)).trans ((if_neg (by decide)).trans ((if_neg (by decide)).trans ((if_neg (by decide)).trans ((if_neg (by decide)).trans ((if_neg (by decide)).trans (if_pos rfl)))))))))))))))))), (if_neg (by decide)).trans ((if_neg (by decide)).trans ((if_neg (by decide)).trans ((if_neg (by decide)).trans ((if_neg (by decide)).trans ((if_neg (by decide)).trans ((if_neg (by decide)).trans ((if_neg (by decide)).trans ((if_neg (by decide)).trans ((if_neg (by decide)).trans ((if_neg (by decide)).trans ((if_neg (by decide)).trans ((if_neg (by decide)).trans ((if_neg (by decide)).trans ((if_neg (by decide)).trans ((if_neg (by decide)).trans ((if_neg (by decide)).trans ((if_neg (by decide)).trans ((if_neg (by decide)).trans (if_pos rfl))))))))))))))))))), (if_neg (by decide)).trans ((if_neg (by decide)).trans ((if_neg (by decide)).trans ((if_neg (by decide)).trans ((if_neg (by decide)).trans ((if_neg (by decide)).trans ((if_neg (by decide)).trans ((if_neg (by decide)).trans ((if_neg (by decide)).trans ((if_neg (by decide)).trans ((if_neg (by decide)).trans ((if_neg (by decide)).trans ((if_neg (by decide)).trans ((if_neg (by decide)).trans ((if_neg (by decide)).trans ((if_neg (by decide)).trans ((if_neg (by decide)).trans ((if_neg (by decide)).trans ((if_neg (by decide)).trans ((if_neg (by decide)).trans (if_pos rfl)))))))))))))))))))), (if_neg (by decide)).trans ((if_neg (by decide)).trans ((if_neg (by decide)).trans ((if_neg (by decide)).trans ((if_neg (by decide)).trans ((if_neg (by decide)).trans ((if_neg (by decide)).trans ((if_neg (by decide)).trans ((if_neg (by decide)).trans ((if_neg (by decide)).trans ((if_neg (by decide)).trans ((if_neg (by decide)).trans ((if_neg (by decide)).trans ((if_neg (by decide)).trans ((if_neg (by decide)).trans ((if_neg (by decide)).trans ((if_neg (by decide)).trans ((if_neg (by decide)).trans ((if_neg (by decide)).trans ((if_neg (by decide)).trans ((if_neg (by decide)).trans (if_pos rfl))))))))))))))))))))), (if_neg (by decide)).trans ((if_neg (by decide)).trans ((if_neg (by decide)).trans ((if_neg (by decide)).trans ((if_neg (by decide)).trans ((if_neg (by decide)).trans ((if_neg (by decide)).trans ((if_neg (by decide)).trans ((if_neg (by decide)).trans ((if_neg (by decide)).trans ((if_neg (by decide)).trans ((if_neg (by decide)).trans ((if_neg (by decide)).trans ((if_neg (by decide)).trans ((if_neg (by decide)).trans ((if_neg (by decide)).trans ((if_neg (by decide)).trans ((if_neg (by decide)).trans ((if_neg (by decide)).trans ((if_neg (by decide)).trans ((if_neg (by decide)).trans ((if_neg (by decide)).trans (if_pos rfl)))))))))))))))))))))), (if_neg (by decide)).trans ((if_neg (by decide)).trans ((if_neg (by decide)).trans ((if_neg (by decide)).trans ((if_neg (by decide)).trans ((if_neg (by decide)).trans ((if_neg (by decide)).trans ((if_neg (by decide)).trans ((if_neg (by decide)).trans ((if_neg (by decide)).trans ((if_neg (by decide)).trans ((if_neg (by decide)).trans ((if_neg (by decide)).trans ((if_neg (by decide)).trans ((if_neg (by decide)).trans ((if_neg (by decide)).trans ((if_neg (by decide)).trans ((if_neg (by decide)).trans ((if_neg (by decide)).trans ((if_neg (by decide)).trans ((if_neg (by decide)).trans ((if_neg (by decide)).trans ((if_neg (by decide)).trans (if_pos rfl))))))))))))))))))))))), (if_neg (by decide)).trans ((if_neg (by decide)).trans ((if_neg (by decide)).trans ((if_neg (by decide)).trans ((if_neg (by decide)).trans ((if_neg (by decide)).trans ((if_neg (by decide)).trans ((if_neg (by decide)).trans ((if_neg (by decide)).trans ((if_neg (by decide)).trans ((if_neg (by decide)).trans ((if_neg (by decide)).trans ((if_neg (by decide)).trans ((if_neg (by decide)).trans ((if_neg (by decide)).trans ((if_neg (by decide)).trans ((if_neg (by decide)).trans ((if_neg (by decide)).trans ((if_neg (by decide)).trans ((if_neg (by decide)).trans ((if_neg (by decide)).trans ((if_neg (by decide)).trans ((if_neg (by decide)).trans ((if_neg (by decide)).trans (if_pos rfl)))))))))))))))))))))))), (if_neg (by decide)).trans ((if_neg (by decide)).trans ((if_neg (by decide)).trans ((if_neg (by decide)).trans ((if_neg (by decide)).trans ((if_neg (by decide)).trans ((if_neg (by decide)).trans ((if_neg (by decide)).trans ((if_neg (by decide)).trans ((if_neg (by decide)).trans ((if_neg (by decide)).trans ((if_neg (by decide)).trans ((if_neg (by decide)).trans ((if_neg (by decide)).trans ((if_neg (by decide)).trans ((if_neg (by decide)).trans ((if_neg (by decide)).trans ((if_neg (by decide)).trans ((if_neg (by decide)).trans ((if_neg (by decide)).trans ((if_neg (by decide)).trans ((if_neg (by decide)).trans ((if_neg (by decide)).trans ((if_neg (by decide)).trans ((if_neg (by decide)).trans (if_pos rfl))))))))))))))))))))))))), (if_neg (by decide)).trans ((if_neg (by decide)).trans ((if_neg (by decide)).trans ((if_neg (by decide)).trans ((if_neg (by decide)).trans ((if_neg (by decide)).trans ((if_neg (by decide)).trans ((if_neg (by decide)).trans ((if_neg (by decide)).trans ((if_neg (by decide)).trans ((if_neg (by decide)).trans ((if_neg (by decide)).trans ((if_neg (by decide)).trans ((if_neg (by decide)).trans ((if_neg (by decide)).trans ((if_neg (by decide)).trans ((if_neg (by decide)).trans ((if_neg (by decide)).trans ((if_neg (by decide)).trans ((if_neg (by decide)).trans ((if_neg (by decide)).trans ((if_neg (by decide)).trans ((if_neg (by decide)).trans ((if_neg (by decide)).trans ((if_neg (by decide)).trans ((if_neg (by decide)).trans (rfl))))))))))))))))))))))))))⟩
  subst hc0
  subst hc1
  subst hc2
  subst hc3
  subst hc4
  subst hc5
  subst hc6
  subst hc7
  subst hc8
  subst hc9
  subst hc10
  subst hc11
  subst hc12
  subst hc13
  subst hc14
  subst hc15
  subst hc16
  subst hc17
  subst hc18
  subst hc19
  subst hc20
  subst hc21
  subst hc22
  subst hc23
  subst hc24
  subst hc25
  subst hc26
  obtain ⟨cs, hcs⟩ : ∃ cs : List Str, cs = [] := ⟨_, rfl⟩
  obtain ⟨T, hT⟩ : ∃ T : List (Addr × Str), T = [] := ⟨_, rfl⟩
  have B : Bn mg := ⟨PySem.W.mg_none_of X Gn z0, PySem.W.mg_none_of X Gn z1, PySem.W.mg_none_of X Gn z2, PySem.W.mg_none_of X Gn z3, PySem.W.mg_none_of X Gn z4, PySem.W.mg_none_of X Gn z5, PySem.W.mg_none_of X Gn z6, PySem.W.mg_none_of X Gn z7, PySem.W.mg_none_of X Gn z8, PySem.W.mg_none_of X Gn z9, PySem.W.mg_none_of X Gn z10, PySem.W.mg_none_of X Gn z11, PySem.W.mg_none_of X Gn z12, PySem.W.mg_none_of X Gn z13, PySem.W.mg_none_of X Gn z14, PySem.W.mg_none_of X Gn z15, PySem.W.mg_none_of X Gn z16, PySem.W.mg_none_of X Gn z17, PySem.W.mg_none_of X Gn z18⟩
  have g_GREATEST : ∃ t, mg "GREATEST" = some (.int 1000000000000000000000000000000 t) := ⟨_, PySem.W.mg_of X Gn w0⟩
  have g_MOST_GLANCES : ∃ t, mg "MOST_GLANCES" = some (.int 12 t) := ⟨_, PySem.W.mg_of X Gn w1⟩
  have g_MOST_LENGTH : ∃ t, mg "MOST_LENGTH" = some (.int 40 t) := ⟨_, PySem.W.mg_of X Gn w2⟩
  have g_MOST_PACE : ∃ t, mg "MOST_PACE" = some (.int 9 t) := ⟨_, PySem.W.mg_of X Gn w3⟩
  have g_MOST_PAIRS : ∃ t, mg "MOST_PAIRS" = some (.int 30 t) := ⟨_, PySem.W.mg_of X Gn w4⟩
  have g_MOST_TIMES : ∃ t, mg "MOST_TIMES" = some (.int 6 t) := ⟨_, PySem.W.mg_of X Gn w5⟩
  have g_MOST_WIDTH : ∃ t, mg "MOST_WIDTH" = some (.int 8 t) := ⟨_, PySem.W.mg_of X Gn w6⟩
  have F0 := fun_mk (st := s_l_sip) l0 c0 k0
  have b0 := F0.binds (ps := ["_law_cup_here", "_law_many"]) fun _ _ _ _ _ _ us hl => match us, hl with | [_, _], _ => rfl
  have F1 := fun_mk (st := s_l_cup) l1 c1 k1
  have b1 := F1.binds (ps := ["_law_script", "_law_spot"]) fun _ _ _ _ _ _ us hl => match us, hl with | [_, _], _ => rfl
  have F2 := fun_mk (st := s_l_classes) l2 c2 k2
  have b2 := F2.binds (ps := ["_law_e"]) fun _ _ _ _ _ _ us hl => match us, hl with | [_], _ => rfl
  have F3 := fun_mk (st := s_l_given) l3 c3 k3
  have b3 := F3.binds (ps := ["_law_thing"]) fun _ _ _ _ _ _ us hl => match us, hl with | [_], _ => rfl
  have F4 := fun_mk (st := s_l_indexed) l4 c4 k4
  have b4 := F4.binds (ps := ["_law_thing"]) fun _ _ _ _ _ _ us hl => match us, hl with | [_], _ => rfl
  have F5 := fun_mk (st := s_l_pick) l5 c5 k5
  have b5 := F5.binds (ps := ["_law_cup_here", "_law_things"]) fun _ _ _ _ _ _ us hl => match us, hl with | [_, _], _ => rfl
  have F6 := fun_mk (st := s_l_right) l6 c6 k6
  have b6 := F6.binds (ps := ["_law_cup_here"]) fun _ _ _ _ _ _ us hl => match us, hl with | [_], _ => rfl
  have F7 := fun_mk (st := s_law) l7 c7 k7
  have F8 := fun_mk (st := s_Broken_init) l8 c8 k8
  have b8 := F8.binds (ps := ["self", "index"]) fun _ _ _ _ _ _ us hl => match us, hl with | [_, _], _ => rfl
  have F9 := fun_mk (st := s_InUse_init) l9 c9 k9
  have b9 := F9.binds (ps := ["self", "index"]) fun _ _ _ _ _ _ us hl => match us, hl with | [_, _], _ => rfl
  have F10 := fun_mk (st := s_InvalidClaim_init) l10 c10 k10
  have b10 := F10.binds (ps := ["self", "given"]) fun _ _ _ _ _ _ us hl => match us, hl with | [_, _], _ => rfl
  have F11 := fun_mk (st := s_InvalidDead_init) l11 c11 k11
  have b11 := F11.binds (ps := ["self", "index"]) fun _ _ _ _ _ _ us hl => match us, hl with | [_, _], _ => rfl
  have F12 := fun_mk (st := s_InvalidDeeds_init) l12 c12 k12
  have b12 := F12.binds (ps := ["self", "index"]) fun _ _ _ _ _ _ us hl => match us, hl with | [_, _], _ => rfl
  have F13 := fun_mk (st := s_InvalidGroups_init) l13 c13 k13
  have b13 := F13.binds (ps := ["self", "index"]) fun _ _ _ _ _ _ us hl => match us, hl with | [_, _], _ => rfl
  have F14 := fun_mk (st := s_InvalidIndex_init) l14 c14 k14
  have b14 := F14.binds (ps := ["self", "given"]) fun _ _ _ _ _ _ us hl => match us, hl with | [_, _], _ => rfl
  have F15 := fun_mk (st := s_InvalidLength_init) l15 c15 k15
  have b15 := F15.binds (ps := ["self", "given"]) fun _ _ _ _ _ _ us hl => match us, hl with | [_, _], _ => rfl
  have F16 := fun_mk (st := s_InvalidLine_init) l16 c16 k16
  have b16 := F16.binds (ps := ["self", "given"]) fun _ _ _ _ _ _ us hl => match us, hl with | [_, _], _ => rfl
  have F17 := fun_mk (st := s_InvalidName_init) l17 c17 k17
  have b17 := F17.binds (ps := ["self", "given"]) fun _ _ _ _ _ _ us hl => match us, hl with | [_, _], _ => rfl
  have F18 := fun_mk (st := s_InvalidPace_init) l18 c18 k18
  have b18 := F18.binds (ps := ["self", "given"]) fun _ _ _ _ _ _ us hl => match us, hl with | [_, _], _ => rfl
  have F19 := fun_mk (st := s_InvalidPaces_init) l19 c19 k19
  have b19 := F19.binds (ps := ["self", "index"]) fun _ _ _ _ _ _ us hl => match us, hl with | [_, _], _ => rfl
  have F20 := fun_mk (st := s_InvalidPlace_init) l20 c20 k20
  have b20 := F20.binds (ps := ["self", "given"]) fun _ _ _ _ _ _ us hl => match us, hl with | [_, _], _ => rfl
  have F21 := fun_mk (st := s_InvalidText_init) l21 c21 k21
  have b21 := F21.binds (ps := ["self", "given"]) fun _ _ _ _ _ _ us hl => match us, hl with | [_, _], _ => rfl
  have F22 := fun_mk (st := s_InvalidTime_init) l22 c22 k22
  have b22 := F22.binds (ps := ["self", "given"]) fun _ _ _ _ _ _ us hl => match us, hl with | [_, _], _ => rfl
  have F23 := fun_mk (st := s_InvalidTimes_init) l23 c23 k23
  have b23 := F23.binds (ps := ["self", "index"]) fun _ _ _ _ _ _ us hl => match us, hl with | [_, _], _ => rfl
  have F24 := fun_mk (st := s_InvalidWidth_init) l24 c24 k24
  have b24 := F24.binds (ps := ["self", "given"]) fun _ _ _ _ _ _ us hl => match us, hl with | [_, _], _ => rfl
  have F25 := fun_mk (st := s_InvalidWindow_init) l25 c25 k25
  have b25 := F25.binds (ps := ["self", "given"]) fun _ _ _ _ _ _ us hl => match us, hl with | [_, _], _ => rfl
  have F26 := fun_mk (st := s_NotARecord_init) l26 c26 k26
  have b26 := F26.binds (ps := ["self", "given"]) fun _ _ _ _ _ _ us hl => match us, hl with | [_, _], _ => rfl
  have F27 := fun_mk (st := s_NotASign_init) l27 c27 k27
  have b27 := F27.binds (ps := ["self", "given"]) fun _ _ _ _ _ _ us hl => match us, hl with | [_, _], _ => rfl
  have F28 := fun_mk (st := s_OtherKind_init) l28 c28 k28
  have b28 := F28.binds (ps := ["self", "given"]) fun _ _ _ _ _ _ us hl => match us, hl with | [_, _], _ => rfl
  have F29 := fun_mk (st := s_TooMany_init) l29 c29 k29
  have b29 := F29.binds (ps := ["self", "most"]) fun _ _ _ _ _ _ us hl => match us, hl with | [_, _], _ => rfl
  have F30 := fun_mk (st := s_UnknownName_init) l30 c30 k30
  have b30 := F30.binds (ps := ["self", "given"]) fun _ _ _ _ _ _ us hl => match us, hl with | [_, _], _ => rfl
  have F31 := fun_mk (st := s_WrongValue_init) l31 c31 k31
  have b31 := F31.binds (ps := ["self"]) fun _ _ _ _ _ _ us hl => match us, hl with | [_], _ => rfl
  have F32 := fun_mk (st := s_WrongName_init) l32 c32 k32
  have b32 := F32.binds (ps := ["self"]) fun _ _ _ _ _ _ us hl => match us, hl with | [_], _ => rfl
  have F33 := fun_mk (st := s_NoAnswer_init) l33 c33 k33
  have b33 := F33.binds (ps := ["self"]) fun _ _ _ _ _ _ us hl => match us, hl with | [_], _ => rfl
  refine ⟨PySem.W.fnOf "law" "law" (defArgs s_law) (defBody s_law) (defScope s_law) .none kV7 dc7 pm7 an7 cd7 ct7, [], spD0 K cm cs T m_law, ?_, ?_, ?_, fun s v => .of_eq rfl, law_start law_in (by rw [hT]; simp), fun base _ _ hTB => ?_⟩
  · intro p hp
    simp only [List.mem_cons, List.not_mem_nil, or_false] at hp
    
  · intro p hp
    simp only [List.mem_cons, List.not_mem_nil, or_false] at hp
    
  · intro p hp
    simp only [List.mem_cons, List.not_mem_nil, or_false] at hp
    
  have c_l_sip : CalG l.prog w K mg base 1 "_law_sip" (spL K cm cs T m_l_sip) := ⟨_, _, _, (fnok_imp (ok_sip (P := l.prog) (w := w) (base := base) F0 B) fun vs H Q E h => sip_sp vs H Q E (spD_noE vs H Q E (spL_spD vs H Q E h))).quiet, PySem.W.mg_of X Gn a0, k0, b0⟩
  have c_l_cup : CalG l.prog w K mg base 1 "_law_cup" (spCupX K) := ⟨_, _, _, (ok_cup (P := l.prog) (w := w) (base := base) F1 B).quiet, PySem.W.mg_of X Gn a1, k1, b1⟩
  have ox_Broken : OexA K (cm "Broken") := ⟨⟨_, _, _, _, [cm "NoAnswer"], _, _, _, _, _, _, _, _, _, _, _, _, _, _, exb_A, xL_Broken⟩, sa_Broken, sb_Broken, ty_Broken, kc_Broken⟩
  have e_Broken : ErrC l.prog w K mg base 1 "Broken" (cm "Broken") "index" := ⟨ox_Broken, no_Broken, PySem.W.mg_of X Gn aC_Broken, ⟨f8, _, _, a8, i8, ok_Broken_err F8, b8⟩⟩
  have ox_InUse : OexA K (cm "InUse") := ⟨⟨_, _, _, _, [cm "WrongName"], _, _, _, _, _, _, _, _, _, _, _, _, _, _, exb_L, xL_InUse⟩, sa_InUse, sb_InUse, ty_InUse, kc_InUse⟩
  have e_InUse : ErrC l.prog w K mg base 1 "InUse" (cm "InUse") "index" := ⟨ox_InUse, no_InUse, PySem.W.mg_of X Gn aC_InUse, ⟨f9, _, _, a9, i9, ok_InUse_err F9, b9⟩⟩
  have ox_InvalidClaim : OexA K (cm "InvalidClaim") := ⟨⟨_, _, _, _, [cm "WrongValue"], _, _, _, _, _, _, _, _, _, _, _, _, _, _, exb_V, xL_InvalidClaim⟩, sa_InvalidClaim, sb_InvalidClaim, ty_InvalidClaim, kc_InvalidClaim⟩
  have e_InvalidClaim : ErrC l.prog w K mg base 1 "InvalidClaim" (cm "InvalidClaim") "given" := ⟨ox_InvalidClaim, no_InvalidClaim, PySem.W.mg_of X Gn aC_InvalidClaim, ⟨f10, _, _, a10, i10, ok_InvalidClaim_err F10, b10⟩⟩
  have ox_InvalidDead : OexA K (cm "InvalidDead") := ⟨⟨_, _, _, _, [cm "WrongValue"], _, _, _, _, _, _, _, _, _, _, _, _, _, _, exb_V, xL_InvalidDead⟩, sa_InvalidDead, sb_InvalidDead, ty_InvalidDead, kc_InvalidDead⟩
  have e_InvalidDead : ErrC l.prog w K mg base 1 "InvalidDead" (cm "InvalidDead") "index" := ⟨ox_InvalidDead, no_InvalidDead, PySem.W.mg_of X Gn aC_InvalidDead, ⟨f11, _, _, a11, i11, ok_InvalidDead_err F11, b11⟩⟩
  have ox_InvalidDeeds : OexA K (cm "InvalidDeeds") := ⟨⟨_, _, _, _, [cm "WrongValue"], _, _, _, _, _, _, _, _, _, _, _, _, _, _, exb_V, xL_InvalidDeeds⟩, sa_InvalidDeeds, sb_InvalidDeeds, ty_InvalidDeeds, kc_InvalidDeeds⟩
  have e_InvalidDeeds : ErrC l.prog w K mg base 1 "InvalidDeeds" (cm "InvalidDeeds") "index" := ⟨ox_InvalidDeeds, no_InvalidDeeds, PySem.W.mg_of X Gn aC_InvalidDeeds, ⟨f12, _, _, a12, i12, ok_InvalidDeeds_err F12, b12⟩⟩
  have ox_InvalidGroups : OexA K (cm "InvalidGroups") := ⟨⟨_, _, _, _, [cm "WrongValue"], _, _, _, _, _, _, _, _, _, _, _, _, _, _, exb_V, xL_InvalidGroups⟩, sa_InvalidGroups, sb_InvalidGroups, ty_InvalidGroups, kc_InvalidGroups⟩
  have e_InvalidGroups : ErrC l.prog w K mg base 1 "InvalidGroups" (cm "InvalidGroups") "index" := ⟨ox_InvalidGroups, no_InvalidGroups, PySem.W.mg_of X Gn aC_InvalidGroups, ⟨f13, _, _, a13, i13, ok_InvalidGroups_err F13, b13⟩⟩
  have ox_InvalidIndex : OexA K (cm "InvalidIndex") := ⟨⟨_, _, _, _, [cm "WrongValue"], _, _, _, _, _, _, _, _, _, _, _, _, _, _, exb_V, xL_InvalidIndex⟩, sa_InvalidIndex, sb_InvalidIndex, ty_InvalidIndex, kc_InvalidIndex⟩
  have e_InvalidIndex : ErrC l.prog w K mg base 1 "InvalidIndex" (cm "InvalidIndex") "given" := ⟨ox_InvalidIndex, no_InvalidIndex, PySem.W.mg_of X Gn aC_InvalidIndex, ⟨f14, _, _, a14, i14, ok_InvalidIndex_err F14, b14⟩⟩
  have ox_InvalidLength : OexA K (cm "InvalidLength") := ⟨⟨_, _, _, _, [cm "WrongValue"], _, _, _, _, _, _, _, _, _, _, _, _, _, _, exb_V, xL_InvalidLength⟩, sa_InvalidLength, sb_InvalidLength, ty_InvalidLength, kc_InvalidLength⟩
  have e_InvalidLength : ErrC l.prog w K mg base 1 "InvalidLength" (cm "InvalidLength") "given" := ⟨ox_InvalidLength, no_InvalidLength, PySem.W.mg_of X Gn aC_InvalidLength, ⟨f15, _, _, a15, i15, ok_InvalidLength_err F15, b15⟩⟩
  have ox_InvalidLine : OexA K (cm "InvalidLine") := ⟨⟨_, _, _, _, [cm "WrongValue"], _, _, _, _, _, _, _, _, _, _, _, _, _, _, exb_V, xL_InvalidLine⟩, sa_InvalidLine, sb_InvalidLine, ty_InvalidLine, kc_InvalidLine⟩
  have e_InvalidLine : ErrC l.prog w K mg base 1 "InvalidLine" (cm "InvalidLine") "given" := ⟨ox_InvalidLine, no_InvalidLine, PySem.W.mg_of X Gn aC_InvalidLine, ⟨f16, _, _, a16, i16, ok_InvalidLine_err F16, b16⟩⟩
  have ox_InvalidName : OexA K (cm "InvalidName") := ⟨⟨_, _, _, _, [cm "WrongValue"], _, _, _, _, _, _, _, _, _, _, _, _, _, _, exb_V, xL_InvalidName⟩, sa_InvalidName, sb_InvalidName, ty_InvalidName, kc_InvalidName⟩
  have e_InvalidName : ErrC l.prog w K mg base 1 "InvalidName" (cm "InvalidName") "given" := ⟨ox_InvalidName, no_InvalidName, PySem.W.mg_of X Gn aC_InvalidName, ⟨f17, _, _, a17, i17, ok_InvalidName_err F17, b17⟩⟩
  have ox_InvalidPace : OexA K (cm "InvalidPace") := ⟨⟨_, _, _, _, [cm "WrongValue"], _, _, _, _, _, _, _, _, _, _, _, _, _, _, exb_V, xL_InvalidPace⟩, sa_InvalidPace, sb_InvalidPace, ty_InvalidPace, kc_InvalidPace⟩
  have e_InvalidPace : ErrC l.prog w K mg base 1 "InvalidPace" (cm "InvalidPace") "given" := ⟨ox_InvalidPace, no_InvalidPace, PySem.W.mg_of X Gn aC_InvalidPace, ⟨f18, _, _, a18, i18, ok_InvalidPace_err F18, b18⟩⟩
  have ox_InvalidPaces : OexA K (cm "InvalidPaces") := ⟨⟨_, _, _, _, [cm "WrongValue"], _, _, _, _, _, _, _, _, _, _, _, _, _, _, exb_V, xL_InvalidPaces⟩, sa_InvalidPaces, sb_InvalidPaces, ty_InvalidPaces, kc_InvalidPaces⟩
  have e_InvalidPaces : ErrC l.prog w K mg base 1 "InvalidPaces" (cm "InvalidPaces") "index" := ⟨ox_InvalidPaces, no_InvalidPaces, PySem.W.mg_of X Gn aC_InvalidPaces, ⟨f19, _, _, a19, i19, ok_InvalidPaces_err F19, b19⟩⟩
  have ox_InvalidPlace : OexA K (cm "InvalidPlace") := ⟨⟨_, _, _, _, [cm "WrongValue"], _, _, _, _, _, _, _, _, _, _, _, _, _, _, exb_V, xL_InvalidPlace⟩, sa_InvalidPlace, sb_InvalidPlace, ty_InvalidPlace, kc_InvalidPlace⟩
  have e_InvalidPlace : ErrC l.prog w K mg base 1 "InvalidPlace" (cm "InvalidPlace") "given" := ⟨ox_InvalidPlace, no_InvalidPlace, PySem.W.mg_of X Gn aC_InvalidPlace, ⟨f20, _, _, a20, i20, ok_InvalidPlace_err F20, b20⟩⟩
  have ox_InvalidText : OexA K (cm "InvalidText") := ⟨⟨_, _, _, _, [cm "WrongValue"], _, _, _, _, _, _, _, _, _, _, _, _, _, _, exb_V, xL_InvalidText⟩, sa_InvalidText, sb_InvalidText, ty_InvalidText, kc_InvalidText⟩
  have e_InvalidText : ErrC l.prog w K mg base 1 "InvalidText" (cm "InvalidText") "given" := ⟨ox_InvalidText, no_InvalidText, PySem.W.mg_of X Gn aC_InvalidText, ⟨f21, _, _, a21, i21, ok_InvalidText_err F21, b21⟩⟩
  have ox_InvalidTime : OexA K (cm "InvalidTime") := ⟨⟨_, _, _, _, [cm "WrongValue"], _, _, _, _, _, _, _, _, _, _, _, _, _, _, exb_V, xL_InvalidTime⟩, sa_InvalidTime, sb_InvalidTime, ty_InvalidTime, kc_InvalidTime⟩
  have e_InvalidTime : ErrC l.prog w K mg base 1 "InvalidTime" (cm "InvalidTime") "given" := ⟨ox_InvalidTime, no_InvalidTime, PySem.W.mg_of X Gn aC_InvalidTime, ⟨f22, _, _, a22, i22, ok_InvalidTime_err F22, b22⟩⟩
  have ox_InvalidTimes : OexA K (cm "InvalidTimes") := ⟨⟨_, _, _, _, [cm "WrongValue"], _, _, _, _, _, _, _, _, _, _, _, _, _, _, exb_V, xL_InvalidTimes⟩, sa_InvalidTimes, sb_InvalidTimes, ty_InvalidTimes, kc_InvalidTimes⟩
  have e_InvalidTimes : ErrC l.prog w K mg base 1 "InvalidTimes" (cm "InvalidTimes") "index" := ⟨ox_InvalidTimes, no_InvalidTimes, PySem.W.mg_of X Gn aC_InvalidTimes, ⟨f23, _, _, a23, i23, ok_InvalidTimes_err F23, b23⟩⟩
  have ox_InvalidWidth : OexA K (cm "InvalidWidth") := ⟨⟨_, _, _, _, [cm "WrongValue"], _, _, _, _, _, _, _, _, _, _, _, _, _, _, exb_V, xL_InvalidWidth⟩, sa_InvalidWidth, sb_InvalidWidth, ty_InvalidWidth, kc_InvalidWidth⟩
  have e_InvalidWidth : ErrC l.prog w K mg base 1 "InvalidWidth" (cm "InvalidWidth") "given" := ⟨ox_InvalidWidth, no_InvalidWidth, PySem.W.mg_of X Gn aC_InvalidWidth, ⟨f24, _, _, a24, i24, ok_InvalidWidth_err F24, b24⟩⟩
  have ox_InvalidWindow : OexA K (cm "InvalidWindow") := ⟨⟨_, _, _, _, [cm "WrongValue"], _, _, _, _, _, _, _, _, _, _, _, _, _, _, exb_V, xL_InvalidWindow⟩, sa_InvalidWindow, sb_InvalidWindow, ty_InvalidWindow, kc_InvalidWindow⟩
  have e_InvalidWindow : ErrC l.prog w K mg base 1 "InvalidWindow" (cm "InvalidWindow") "given" := ⟨ox_InvalidWindow, no_InvalidWindow, PySem.W.mg_of X Gn aC_InvalidWindow, ⟨f25, _, _, a25, i25, ok_InvalidWindow_err F25, b25⟩⟩
  have ox_NotARecord : OexA K (cm "NotARecord") := ⟨⟨_, _, _, _, [cm "WrongValue"], _, _, _, _, _, _, _, _, _, _, _, _, _, _, exb_V, xL_NotARecord⟩, sa_NotARecord, sb_NotARecord, ty_NotARecord, kc_NotARecord⟩
  have e_NotARecord : ErrC l.prog w K mg base 1 "NotARecord" (cm "NotARecord") "given" := ⟨ox_NotARecord, no_NotARecord, PySem.W.mg_of X Gn aC_NotARecord, ⟨f26, _, _, a26, i26, ok_NotARecord_err F26, b26⟩⟩
  have ox_NotASign : OexA K (cm "NotASign") := ⟨⟨_, _, _, _, [cm "WrongValue"], _, _, _, _, _, _, _, _, _, _, _, _, _, _, exb_V, xL_NotASign⟩, sa_NotASign, sb_NotASign, ty_NotASign, kc_NotASign⟩
  have e_NotASign : ErrC l.prog w K mg base 1 "NotASign" (cm "NotASign") "given" := ⟨ox_NotASign, no_NotASign, PySem.W.mg_of X Gn aC_NotASign, ⟨f27, _, _, a27, i27, ok_NotASign_err F27, b27⟩⟩
  have ox_OtherKind : OexA K (cm "OtherKind") := ⟨⟨_, _, _, _, [cm "NoAnswer"], _, _, _, _, _, _, _, _, _, _, _, _, _, _, exb_A, xL_OtherKind⟩, sa_OtherKind, sb_OtherKind, ty_OtherKind, kc_OtherKind⟩
  have e_OtherKind : ErrC l.prog w K mg base 1 "OtherKind" (cm "OtherKind") "given" := ⟨ox_OtherKind, no_OtherKind, PySem.W.mg_of X Gn aC_OtherKind, ⟨f28, _, _, a28, i28, ok_OtherKind_err F28, b28⟩⟩
  have ox_TooMany : OexA K (cm "TooMany") := ⟨⟨_, _, _, _, [cm "NoAnswer"], _, _, _, _, _, _, _, _, _, _, _, _, _, _, exb_A, xL_TooMany⟩, sa_TooMany, sb_TooMany, ty_TooMany, kc_TooMany⟩
  have e_TooMany : ErrC l.prog w K mg base 1 "TooMany" (cm "TooMany") "most" := ⟨ox_TooMany, no_TooMany, PySem.W.mg_of X Gn aC_TooMany, ⟨f29, _, _, a29, i29, ok_TooMany_err F29, b29⟩⟩
  have ox_UnknownName : OexA K (cm "UnknownName") := ⟨⟨_, _, _, _, [cm "WrongName"], _, _, _, _, _, _, _, _, _, _, _, _, _, _, exb_L, xL_UnknownName⟩, sa_UnknownName, sb_UnknownName, ty_UnknownName, kc_UnknownName⟩
  have e_UnknownName : ErrC l.prog w K mg base 1 "UnknownName" (cm "UnknownName") "given" := ⟨ox_UnknownName, no_UnknownName, PySem.W.mg_of X Gn aC_UnknownName, ⟨f30, _, _, a30, i30, ok_UnknownName_err F30, b30⟩⟩
  have ek_Broken : ErrK l.prog w K mg base 1 "Broken" (cm "Broken") "index" := ⟨ox_Broken, no_Broken, PySem.W.mg_of X Gn aC_Broken, ⟨f8, _, _, a8, i8, ok_Broken_err F8, ⟨fun s us ws _ l1 l2 => match us, ws, l1, l2 with | [_], [_], _, _ => .of_eq rfl, fun r1 r2 => r1.append r2⟩⟩⟩
  have ek_InUse : ErrK l.prog w K mg base 1 "InUse" (cm "InUse") "index" := ⟨ox_InUse, no_InUse, PySem.W.mg_of X Gn aC_InUse, ⟨f9, _, _, a9, i9, ok_InUse_err F9, ⟨fun s us ws _ l1 l2 => match us, ws, l1, l2 with | [_], [_], _, _ => .of_eq rfl, fun r1 r2 => r1.append r2⟩⟩⟩
  have ek_InvalidClaim : ErrK l.prog w K mg base 1 "InvalidClaim" (cm "InvalidClaim") "given" := ⟨ox_InvalidClaim, no_InvalidClaim, PySem.W.mg_of X Gn aC_InvalidClaim, ⟨f10, _, _, a10, i10, ok_InvalidClaim_err F10, ⟨fun s us ws _ l1 l2 => match us, ws, l1, l2 with | [_], [_], _, _ => .of_eq rfl, fun r1 r2 => r1.append r2⟩⟩⟩
  have ek_InvalidDead : ErrK l.prog w K mg base 1 "InvalidDead" (cm "InvalidDead") "index" := ⟨ox_InvalidDead, no_InvalidDead, PySem.W.mg_of X Gn aC_InvalidDead, ⟨f11, _, _, a11, i11, ok_InvalidDead_err F11, ⟨fun s us ws _ l1 l2 => match us, ws, l1, l2 with | [_], [_], _, _ => .of_eq rfl, fun r1 r2 => r1.append r2⟩⟩⟩
  have ek_InvalidDeeds : ErrK l.prog w K mg base 1 "InvalidDeeds" (cm "InvalidDeeds") "index" := ⟨ox_InvalidDeeds, no_InvalidDeeds, PySem.W.mg_of X Gn aC_InvalidDeeds, ⟨f12, _, _, a12, i12, ok_InvalidDeeds_err F12, ⟨fun s us ws _ l1 l2 => match us, ws, l1, l2 with | [_], [_], _, _ => .of_eq rfl, fun r1 r2 => r1.append r2⟩⟩⟩
  have ek_InvalidGroups : ErrK l.prog w K mg base 1 "InvalidGroups" (cm "InvalidGroups") "index" := ⟨ox_InvalidGroups, no_InvalidGroups, PySem.W.mg_of X Gn aC_InvalidGroups, ⟨f13, _, _, a13, i13, ok_InvalidGroups_err F13, ⟨fun s us ws _ l1 l2 => match us, ws, l1, l2 with | [_], [_], _, _ => .of_eq rfl, fun r1 r2 => r1.append r2⟩⟩⟩
  have ek_InvalidIndex : ErrK l.prog w K mg base 1 "InvalidIndex" (cm "InvalidIndex") "given" := ⟨ox_InvalidIndex, no_InvalidIndex, PySem.W.mg_of X Gn aC_InvalidIndex, ⟨f14, _, _, a14, i14, ok_InvalidIndex_err F14, ⟨fun s us ws _ l1 l2 => match us, ws, l1, l2 with | [_], [_], _, _ => .of_eq rfl, fun r1 r2 => r1.append r2⟩⟩⟩
  have ek_InvalidLength : ErrK l.prog w K mg base 1 "InvalidLength" (cm "InvalidLength") "given" := ⟨ox_InvalidLength, no_InvalidLength, PySem.W.mg_of X Gn aC_InvalidLength, ⟨f15, _, _, a15, i15, ok_InvalidLength_err F15, ⟨fun s us ws _ l1 l2 => match us, ws, l1, l2 with | [_], [_], _, _ => .of_eq rfl, fun r1 r2 => r1.append r2⟩⟩⟩
  have ek_InvalidLine : ErrK l.prog w K mg base 1 "InvalidLine" (cm "InvalidLine") "given" := ⟨ox_InvalidLine, no_InvalidLine, PySem.W.mg_of X Gn aC_InvalidLine, ⟨f16, _, _, a16, i16, ok_InvalidLine_err F16, ⟨fun s us ws _ l1 l2 => match us, ws, l1, l2 with | [_], [_], _, _ => .of_eq rfl, fun r1 r2 => r1.append r2⟩⟩⟩
  have ek_InvalidName : ErrK l.prog w K mg base 1 "InvalidName" (cm "InvalidName") "given" := ⟨ox_InvalidName, no_InvalidName, PySem.W.mg_of X Gn aC_InvalidName, ⟨f17, _, _, a17, i17, ok_InvalidName_err F17, ⟨fun s us ws _ l1 l2 => match us, ws, l1, l2 with | [_], [_], _, _ => .of_eq rfl, fun r1 r2 => r1.append r2⟩⟩⟩
  have ek_InvalidPace : ErrK l.prog w K mg base 1 "InvalidPace" (cm "InvalidPace") "given" := ⟨ox_InvalidPace, no_InvalidPace, PySem.W.mg_of X Gn aC_InvalidPace, ⟨f18, _, _, a18, i18, ok_InvalidPace_err F18, ⟨fun s us ws _ l1 l2 => match us, ws, l1, l2 with | [_], [_], _, _ => .of_eq rfl, fun r1 r2 => r1.append r2⟩⟩⟩
  have ek_InvalidPaces : ErrK l.prog w K mg base 1 "InvalidPaces" (cm "InvalidPaces") "index" := ⟨ox_InvalidPaces, no_InvalidPaces, PySem.W.mg_of X Gn aC_InvalidPaces, ⟨f19, _, _, a19, i19, ok_InvalidPaces_err F19, ⟨fun s us ws _ l1 l2 => match us, ws, l1, l2 with | [_], [_], _, _ => .of_eq rfl, fun r1 r2 => r1.append r2⟩⟩⟩
  have ek_InvalidPlace : ErrK l.prog w K mg base 1 "InvalidPlace" (cm "InvalidPlace") "given" := ⟨ox_InvalidPlace, no_InvalidPlace, PySem.W.mg_of X Gn aC_InvalidPlace, ⟨f20, _, _, a20, i20, ok_InvalidPlace_err F20, ⟨fun s us ws _ l1 l2 => match us, ws, l1, l2 with | [_], [_], _, _ => .of_eq rfl, fun r1 r2 => r1.append r2⟩⟩⟩
  have ek_InvalidText : ErrK l.prog w K mg base 1 "InvalidText" (cm "InvalidText") "given" := ⟨ox_InvalidText, no_InvalidText, PySem.W.mg_of X Gn aC_InvalidText, ⟨f21, _, _, a21, i21, ok_InvalidText_err F21, ⟨fun s us ws _ l1 l2 => match us, ws, l1, l2 with | [_], [_], _, _ => .of_eq rfl, fun r1 r2 => r1.append r2⟩⟩⟩
  have ek_InvalidTime : ErrK l.prog w K mg base 1 "InvalidTime" (cm "InvalidTime") "given" := ⟨ox_InvalidTime, no_InvalidTime, PySem.W.mg_of X Gn aC_InvalidTime, ⟨f22, _, _, a22, i22, ok_InvalidTime_err F22, ⟨fun s us ws _ l1 l2 => match us, ws, l1, l2 with | [_], [_], _, _ => .of_eq rfl, fun r1 r2 => r1.append r2⟩⟩⟩
  have ek_InvalidTimes : ErrK l.prog w K mg base 1 "InvalidTimes" (cm "InvalidTimes") "index" := ⟨ox_InvalidTimes, no_InvalidTimes, PySem.W.mg_of X Gn aC_InvalidTimes, ⟨f23, _, _, a23, i23, ok_InvalidTimes_err F23, ⟨fun s us ws _ l1 l2 => match us, ws, l1, l2 with | [_], [_], _, _ => .of_eq rfl, fun r1 r2 => r1.append r2⟩⟩⟩
  have ek_InvalidWidth : ErrK l.prog w K mg base 1 "InvalidWidth" (cm "InvalidWidth") "given" := ⟨ox_InvalidWidth, no_InvalidWidth, PySem.W.mg_of X Gn aC_InvalidWidth, ⟨f24, _, _, a24, i24, ok_InvalidWidth_err F24, ⟨fun s us ws _ l1 l2 => match us, ws, l1, l2 with | [_], [_], _, _ => .of_eq rfl, fun r1 r2 => r1.append r2⟩⟩⟩
  have ek_InvalidWindow : ErrK l.prog w K mg base 1 "InvalidWindow" (cm "InvalidWindow") "given" := ⟨ox_InvalidWindow, no_InvalidWindow, PySem.W.mg_of X Gn aC_InvalidWindow, ⟨f25, _, _, a25, i25, ok_InvalidWindow_err F25, ⟨fun s us ws _ l1 l2 => match us, ws, l1, l2 with | [_], [_], _, _ => .of_eq rfl, fun r1 r2 => r1.append r2⟩⟩⟩
  have ek_NotARecord : ErrK l.prog w K mg base 1 "NotARecord" (cm "NotARecord") "given" := ⟨ox_NotARecord, no_NotARecord, PySem.W.mg_of X Gn aC_NotARecord, ⟨f26, _, _, a26, i26, ok_NotARecord_err F26, ⟨fun s us ws _ l1 l2 => match us, ws, l1, l2 with | [_], [_], _, _ => .of_eq rfl, fun r1 r2 => r1.append r2⟩⟩⟩
  have ek_NotASign : ErrK l.prog w K mg base 1 "NotASign" (cm "NotASign") "given" := ⟨ox_NotASign, no_NotASign, PySem.W.mg_of X Gn aC_NotASign, ⟨f27, _, _, a27, i27, ok_NotASign_err F27, ⟨fun s us ws _ l1 l2 => match us, ws, l1, l2 with | [_], [_], _, _ => .of_eq rfl, fun r1 r2 => r1.append r2⟩⟩⟩
  have ek_OtherKind : ErrK l.prog w K mg base 1 "OtherKind" (cm "OtherKind") "given" := ⟨ox_OtherKind, no_OtherKind, PySem.W.mg_of X Gn aC_OtherKind, ⟨f28, _, _, a28, i28, ok_OtherKind_err F28, ⟨fun s us ws _ l1 l2 => match us, ws, l1, l2 with | [_], [_], _, _ => .of_eq rfl, fun r1 r2 => r1.append r2⟩⟩⟩
  have ek_TooMany : ErrK l.prog w K mg base 1 "TooMany" (cm "TooMany") "most" := ⟨ox_TooMany, no_TooMany, PySem.W.mg_of X Gn aC_TooMany, ⟨f29, _, _, a29, i29, ok_TooMany_err F29, ⟨fun s us ws _ l1 l2 => match us, ws, l1, l2 with | [_], [_], _, _ => .of_eq rfl, fun r1 r2 => r1.append r2⟩⟩⟩
  have ek_UnknownName : ErrK l.prog w K mg base 1 "UnknownName" (cm "UnknownName") "given" := ⟨ox_UnknownName, no_UnknownName, PySem.W.mg_of X Gn aC_UnknownName, ⟨f30, _, _, a30, i30, ok_UnknownName_err F30, ⟨fun s us ws _ l1 l2 => match us, ws, l1, l2 with | [_], [_], _, _ => .of_eq rfl, fun r1 r2 => r1.append r2⟩⟩⟩
  have ox_NothingToUndo : OexA K (cm "NothingToUndo") := ⟨⟨_, _, _, _, [cm "NoAnswer"], _, _, _, _, _, _, _, _, _, _, _, _, _, _, exb_A, xL_NothingToUndo⟩, sa_NothingToUndo, sb_NothingToUndo, ty_NothingToUndo, kc_NothingToUndo⟩
  have e0_NothingToUndo : Err0 l.prog w K mg base 1 "NothingToUndo" (cm "NothingToUndo") := ⟨ox_NothingToUndo, PySem.W.mg_of X Gn aC_NothingToUndo, ⟨f33, _, _, ai_NothingToUndo, i33, ok_NoAnswer_pass F33, b33⟩⟩
  have ox_WrongValue : OexA K (cm "WrongValue") := ⟨⟨_, _, _, _, [], _, _, _, _, _, _, _, _, _, _, _, _, _, _, exb_V, xL_WrongValue⟩, sa_WrongValue, sb_WrongValue, ty_WrongValue, kc_WrongValue⟩
  have e0_WrongValue : Err0 l.prog w K mg base 1 "WrongValue" (cm "WrongValue") := ⟨ox_WrongValue, PySem.W.mg_of X Gn aC_WrongValue, ⟨f31, _, _, a31, i31, ok_WrongValue_pass F31, b31⟩⟩
  have ox_WrongName : OexA K (cm "WrongName") := ⟨⟨_, _, _, _, [], _, _, _, _, _, _, _, _, _, _, _, _, _, _, exb_L, xL_WrongName⟩, sa_WrongName, sb_WrongName, ty_WrongName, kc_WrongName⟩
  have e0_WrongName : Err0 l.prog w K mg base 1 "WrongName" (cm "WrongName") := ⟨ox_WrongName, PySem.W.mg_of X Gn aC_WrongName, ⟨f32, _, _, a32, i32, ok_WrongName_pass F32, b32⟩⟩
  have ox_NoAnswer : OexA K (cm "NoAnswer") := ⟨⟨_, _, _, _, [], _, _, _, _, _, _, _, _, _, _, _, _, _, _, exb_A, xL_NoAnswer⟩, sa_NoAnswer, sb_NoAnswer, ty_NoAnswer, kc_NoAnswer⟩
  have e0_NoAnswer : Err0 l.prog w K mg base 1 "NoAnswer" (cm "NoAnswer") := ⟨ox_NoAnswer, PySem.W.mg_of X Gn aC_NoAnswer, ⟨f33, _, _, a33, i33, ok_NoAnswer_pass F33, b33⟩⟩
  have xall : ∀ p ∈ excTab, xB K (cm p.1) (vsOf cm) (bsOf p.2) = true := by
    intro p hp
    unfold excTab at hp
    simp only [List.mem_cons, List.not_mem_nil, or_false] at hp
    rcases hp with rfl | rfl | rfl | rfl | rfl | rfl | rfl | rfl | rfl | rfl | rfl | rfl | rfl | rfl | rfl | rfl | rfl | rfl | rfl | rfl | rfl | rfl | rfl | rfl | rfl | rfl | rfl
    · exact xb_NotASign
    · exact xb_NotARecord
    · exact xb_InvalidText
    · exact xb_InvalidPace
    · exact xb_InvalidWidth
    · exact xb_InvalidPlace
    · exact xb_InvalidLength
    · exact xb_InvalidTime
    · exact xb_InvalidWindow
    · exact xb_InvalidName
    · exact xb_InvalidClaim
    · exact xb_InvalidIndex
    · exact xb_InvalidLine
    · exact xb_InvalidDead
    · exact xb_InvalidPaces
    · exact xb_InvalidGroups
    · exact xb_InvalidTimes
    · exact xb_InvalidDeeds
    · exact xb_UnknownName
    · exact xb_InUse
    · exact xb_TooMany
    · exact xb_OtherKind
    · exact xb_Broken
    · exact xb_NothingToUndo
    · exact xb_WrongValue
    · exact xb_WrongName
    · exact xb_NoAnswer
  have xt_NotASign : XT K cm (.ref (cm "NotASign")) (isTab "NotASign") := xt_of xg xt xall 0 rfl rfl
  have v_NotASign : mg "NotASign" = some (.ref (cm "NotASign")) := PySem.W.mg_of X Gn aC_NotASign
  have xt_NotARecord : XT K cm (.ref (cm "NotARecord")) (isTab "NotARecord") := xt_of xg xt xall 1 rfl rfl
  have v_NotARecord : mg "NotARecord" = some (.ref (cm "NotARecord")) := PySem.W.mg_of X Gn aC_NotARecord
  have xt_InvalidText : XT K cm (.ref (cm "InvalidText")) (isTab "InvalidText") := xt_of xg xt xall 2 rfl rfl
  have v_InvalidText : mg "InvalidText" = some (.ref (cm "InvalidText")) := PySem.W.mg_of X Gn aC_InvalidText
  have xt_InvalidPace : XT K cm (.ref (cm "InvalidPace")) (isTab "InvalidPace") := xt_of xg xt xall 3 rfl rfl
  have v_InvalidPace : mg "InvalidPace" = some (.ref (cm "InvalidPace")) := PySem.W.mg_of X Gn aC_InvalidPace
  have xt_InvalidWidth : XT K cm (.ref (cm "InvalidWidth")) (isTab "InvalidWidth") := xt_of xg xt xall 4 rfl rfl
  have v_InvalidWidth : mg "InvalidWidth" = some (.ref (cm "InvalidWidth")) := PySem.W.mg_of X Gn aC_InvalidWidth
  have xt_InvalidPlace : XT K cm (.ref (cm "InvalidPlace")) (isTab "InvalidPlace") := xt_of xg xt xall 5 rfl rfl
  have v_InvalidPlace : mg "InvalidPlace" = some (.ref (cm "InvalidPlace")) := PySem.W.mg_of X Gn aC_InvalidPlace
  have xt_InvalidLength : XT K cm (.ref (cm "InvalidLength")) (isTab "InvalidLength") := xt_of xg xt xall 6 rfl rfl
  have v_InvalidLength : mg "InvalidLength" = some (.ref (cm "InvalidLength")) := PySem.W.mg_of X Gn aC_InvalidLength
  have xt_InvalidTime : XT K cm (.ref (cm "InvalidTime")) (isTab "InvalidTime") := xt_of xg xt xall 7 rfl rfl
  have v_InvalidTime : mg "InvalidTime" = some (.ref (cm "InvalidTime")) := PySem.W.mg_of X Gn aC_InvalidTime
  have xt_InvalidWindow : XT K cm (.ref (cm "InvalidWindow")) (isTab "InvalidWindow") := xt_of xg xt xall 8 rfl rfl
  have v_InvalidWindow : mg "InvalidWindow" = some (.ref (cm "InvalidWindow")) := PySem.W.mg_of X Gn aC_InvalidWindow
  have xt_InvalidName : XT K cm (.ref (cm "InvalidName")) (isTab "InvalidName") := xt_of xg xt xall 9 rfl rfl
  have v_InvalidName : mg "InvalidName" = some (.ref (cm "InvalidName")) := PySem.W.mg_of X Gn aC_InvalidName
  have xt_InvalidClaim : XT K cm (.ref (cm "InvalidClaim")) (isTab "InvalidClaim") := xt_of xg xt xall 10 rfl rfl
  have v_InvalidClaim : mg "InvalidClaim" = some (.ref (cm "InvalidClaim")) := PySem.W.mg_of X Gn aC_InvalidClaim
  have xt_InvalidIndex : XT K cm (.ref (cm "InvalidIndex")) (isTab "InvalidIndex") := xt_of xg xt xall 11 rfl rfl
  have v_InvalidIndex : mg "InvalidIndex" = some (.ref (cm "InvalidIndex")) := PySem.W.mg_of X Gn aC_InvalidIndex
  have xt_InvalidLine : XT K cm (.ref (cm "InvalidLine")) (isTab "InvalidLine") := xt_of xg xt xall 12 rfl rfl
  have v_InvalidLine : mg "InvalidLine" = some (.ref (cm "InvalidLine")) := PySem.W.mg_of X Gn aC_InvalidLine
  have xt_InvalidDead : XT K cm (.ref (cm "InvalidDead")) (isTab "InvalidDead") := xt_of xg xt xall 13 rfl rfl
  have v_InvalidDead : mg "InvalidDead" = some (.ref (cm "InvalidDead")) := PySem.W.mg_of X Gn aC_InvalidDead
  have xt_InvalidPaces : XT K cm (.ref (cm "InvalidPaces")) (isTab "InvalidPaces") := xt_of xg xt xall 14 rfl rfl
  have v_InvalidPaces : mg "InvalidPaces" = some (.ref (cm "InvalidPaces")) := PySem.W.mg_of X Gn aC_InvalidPaces
  have xt_InvalidGroups : XT K cm (.ref (cm "InvalidGroups")) (isTab "InvalidGroups") := xt_of xg xt xall 15 rfl rfl
  have v_InvalidGroups : mg "InvalidGroups" = some (.ref (cm "InvalidGroups")) := PySem.W.mg_of X Gn aC_InvalidGroups
  have xt_InvalidTimes : XT K cm (.ref (cm "InvalidTimes")) (isTab "InvalidTimes") := xt_of xg xt xall 16 rfl rfl
  have v_InvalidTimes : mg "InvalidTimes" = some (.ref (cm "InvalidTimes")) := PySem.W.mg_of X Gn aC_InvalidTimes
  have xt_InvalidDeeds : XT K cm (.ref (cm "InvalidDeeds")) (isTab "InvalidDeeds") := xt_of xg xt xall 17 rfl rfl
  have v_InvalidDeeds : mg "InvalidDeeds" = some (.ref (cm "InvalidDeeds")) := PySem.W.mg_of X Gn aC_InvalidDeeds
  have xt_UnknownName : XT K cm (.ref (cm "UnknownName")) (isTab "UnknownName") := xt_of xg xt xall 18 rfl rfl
  have v_UnknownName : mg "UnknownName" = some (.ref (cm "UnknownName")) := PySem.W.mg_of X Gn aC_UnknownName
  have xt_InUse : XT K cm (.ref (cm "InUse")) (isTab "InUse") := xt_of xg xt xall 19 rfl rfl
  have v_InUse : mg "InUse" = some (.ref (cm "InUse")) := PySem.W.mg_of X Gn aC_InUse
  have xt_TooMany : XT K cm (.ref (cm "TooMany")) (isTab "TooMany") := xt_of xg xt xall 20 rfl rfl
  have v_TooMany : mg "TooMany" = some (.ref (cm "TooMany")) := PySem.W.mg_of X Gn aC_TooMany
  have xt_OtherKind : XT K cm (.ref (cm "OtherKind")) (isTab "OtherKind") := xt_of xg xt xall 21 rfl rfl
  have v_OtherKind : mg "OtherKind" = some (.ref (cm "OtherKind")) := PySem.W.mg_of X Gn aC_OtherKind
  have xt_Broken : XT K cm (.ref (cm "Broken")) (isTab "Broken") := xt_of xg xt xall 22 rfl rfl
  have v_Broken : mg "Broken" = some (.ref (cm "Broken")) := PySem.W.mg_of X Gn aC_Broken
  have xt_NothingToUndo : XT K cm (.ref (cm "NothingToUndo")) (isTab "NothingToUndo") := xt_of xg xt xall 23 rfl rfl
  have v_NothingToUndo : mg "NothingToUndo" = some (.ref (cm "NothingToUndo")) := PySem.W.mg_of X Gn aC_NothingToUndo
  have xt_WrongValue : XT K cm (.ref (cm "WrongValue")) (isTab "WrongValue") := xt_of xg xt xall 24 rfl rfl
  have v_WrongValue : mg "WrongValue" = some (.ref (cm "WrongValue")) := PySem.W.mg_of X Gn aC_WrongValue
  have xt_WrongName : XT K cm (.ref (cm "WrongName")) (isTab "WrongName") := xt_of xg xt xall 25 rfl rfl
  have v_WrongName : mg "WrongName" = some (.ref (cm "WrongName")) := PySem.W.mg_of X Gn aC_WrongName
  have xt_NoAnswer : XT K cm (.ref (cm "NoAnswer")) (isTab "NoAnswer") := xt_of xg xt xall 26 rfl rfl
  have v_NoAnswer : mg "NoAnswer" = some (.ref (cm "NoAnswer")) := PySem.W.mg_of X Gn aC_NoAnswer
  have xt_ValueError : XT K cm (.type "ValueError") (isTab "ValueError") := xt_of xg xt xall 27 rfl rfl
  have nv_ValueError : mg "ValueError" = none := PySem.W.mg_none_of X Gn zz_ValueError
  have xt_LookupError : XT K cm (.type "LookupError") (isTab "LookupError") := xt_of xg xt xall 28 rfl rfl
  have nv_LookupError : mg "LookupError" = none := PySem.W.mg_none_of X Gn zz_LookupError
  have xt_ArithmeticError : XT K cm (.type "ArithmeticError") (isTab "ArithmeticError") := xt_of xg xt xall 29 rfl rfl
  have nv_ArithmeticError : mg "ArithmeticError" = none := PySem.W.mg_none_of X Gn zz_ArithmeticError
  have xf_given : XF K cm (fldTab "given") "given" := by
    intro C hC
    have hC2 : C ∈ (["NotASign", "NotARecord", "InvalidText", "InvalidPace", "InvalidWidth", "InvalidPlace", "InvalidLength", "InvalidTime", "InvalidWindow", "InvalidName", "InvalidClaim", "InvalidIndex", "InvalidLine", "UnknownName", "OtherKind"] : List Str) := hC
    simp only [List.mem_cons, List.not_mem_nil, or_false] at hC2
    rcases hC2 with rfl | rfl | rfl | rfl | rfl | rfl | rfl | rfl | rfl | rfl | rfl | rfl | rfl | rfl | rfl
    · exact ⟨exB_x (Bool.and_eq_true_iff.mp xb_NotASign).1, no_NotASign⟩
    · exact ⟨exB_x (Bool.and_eq_true_iff.mp xb_NotARecord).1, no_NotARecord⟩
    · exact ⟨exB_x (Bool.and_eq_true_iff.mp xb_InvalidText).1, no_InvalidText⟩
    · exact ⟨exB_x (Bool.and_eq_true_iff.mp xb_InvalidPace).1, no_InvalidPace⟩
    · exact ⟨exB_x (Bool.and_eq_true_iff.mp xb_InvalidWidth).1, no_InvalidWidth⟩
    · exact ⟨exB_x (Bool.and_eq_true_iff.mp xb_InvalidPlace).1, no_InvalidPlace⟩
    · exact ⟨exB_x (Bool.and_eq_true_iff.mp xb_InvalidLength).1, no_InvalidLength⟩
    · exact ⟨exB_x (Bool.and_eq_true_iff.mp xb_InvalidTime).1, no_InvalidTime⟩
    · exact ⟨exB_x (Bool.and_eq_true_iff.mp xb_InvalidWindow).1, no_InvalidWindow⟩
    · exact ⟨exB_x (Bool.and_eq_true_iff.mp xb_InvalidName).1, no_InvalidName⟩
    · exact ⟨exB_x (Bool.and_eq_true_iff.mp xb_InvalidClaim).1, no_InvalidClaim⟩
    · exact ⟨exB_x (Bool.and_eq_true_iff.mp xb_InvalidIndex).1, no_InvalidIndex⟩
    · exact ⟨exB_x (Bool.and_eq_true_iff.mp xb_InvalidLine).1, no_InvalidLine⟩
    · exact ⟨exB_x (Bool.and_eq_true_iff.mp xb_UnknownName).1, no_UnknownName⟩
    · exact ⟨exB_x (Bool.and_eq_true_iff.mp xb_OtherKind).1, no_OtherKind⟩
  have xf_index : XF K cm (fldTab "index") "index" := by
    intro C hC
    have hC2 : C ∈ (["InvalidDead", "InvalidPaces", "InvalidGroups", "InvalidTimes", "InvalidDeeds", "InUse", "Broken"] : List Str) := hC
    simp only [List.mem_cons, List.not_mem_nil, or_false] at hC2
    rcases hC2 with rfl | rfl | rfl | rfl | rfl | rfl | rfl
    · exact ⟨exB_x (Bool.and_eq_true_iff.mp xb_InvalidDead).1, no_InvalidDead⟩
    · exact ⟨exB_x (Bool.and_eq_true_iff.mp xb_InvalidPaces).1, no_InvalidPaces⟩
    · exact ⟨exB_x (Bool.and_eq_true_iff.mp xb_InvalidGroups).1, no_InvalidGroups⟩
    · exact ⟨exB_x (Bool.and_eq_true_iff.mp xb_InvalidTimes).1, no_InvalidTimes⟩
    · exact ⟨exB_x (Bool.and_eq_true_iff.mp xb_InvalidDeeds).1, no_InvalidDeeds⟩
    · exact ⟨exB_x (Bool.and_eq_true_iff.mp xb_InUse).1, no_InUse⟩
    · exact ⟨exB_x (Bool.and_eq_true_iff.mp xb_Broken).1, no_Broken⟩
  have xf_most : XF K cm (fldTab "most") "most" := by
    intro C hC
    have hC2 : C ∈ (["TooMany"] : List Str) := hC
    simp only [List.mem_cons, List.not_mem_nil, or_false] at hC2
    rcases hC2 with rfl
    · exact ⟨exB_x (Bool.and_eq_true_iff.mp xb_TooMany).1, no_TooMany⟩
  have ok2 := ok_l_classes (P := l.prog) (w := w) (base := base) (cm := cm) (cs := cs) (T := T) F2 rfl B (xt_Broken := xt_Broken) (v_Broken := v_Broken) (xt_InUse := xt_InUse) (v_InUse := v_InUse) (xt_InvalidClaim := xt_InvalidClaim) (v_InvalidClaim := v_InvalidClaim) (xt_InvalidDead := xt_InvalidDead) (v_InvalidDead := v_InvalidDead) (xt_InvalidDeeds := xt_InvalidDeeds) (v_InvalidDeeds := v_InvalidDeeds) (xt_InvalidGroups := xt_InvalidGroups) (v_InvalidGroups := v_InvalidGroups) (xt_InvalidIndex := xt_InvalidIndex) (v_InvalidIndex := v_InvalidIndex) (xt_InvalidLength := xt_InvalidLength) (v_InvalidLength := v_InvalidLength) (xt_InvalidLine := xt_InvalidLine) (v_InvalidLine := v_InvalidLine) (xt_InvalidName := xt_InvalidName) (v_InvalidName := v_InvalidName) (xt_InvalidPace := xt_InvalidPace) (v_InvalidPace := v_InvalidPace) (xt_InvalidPaces := xt_InvalidPaces) (v_InvalidPaces := v_InvalidPaces) (xt_InvalidPlace := xt_InvalidPlace) (v_InvalidPlace := v_InvalidPlace) (xt_InvalidText := xt_InvalidText) (v_InvalidText := v_InvalidText) (xt_InvalidTime := xt_InvalidTime) (v_InvalidTime := v_InvalidTime) (xt_InvalidTimes := xt_InvalidTimes) (v_InvalidTimes := v_InvalidTimes) (xt_InvalidWidth := xt_InvalidWidth) (v_InvalidWidth := v_InvalidWidth) (xt_InvalidWindow := xt_InvalidWindow) (v_InvalidWindow := v_InvalidWindow) (xt_NoAnswer := xt_NoAnswer) (v_NoAnswer := v_NoAnswer) (xt_NotARecord := xt_NotARecord) (v_NotARecord := v_NotARecord) (xt_NotASign := xt_NotASign) (v_NotASign := v_NotASign) (xt_NothingToUndo := xt_NothingToUndo) (v_NothingToUndo := v_NothingToUndo) (xt_OtherKind := xt_OtherKind) (v_OtherKind := v_OtherKind) (xt_TooMany := xt_TooMany) (v_TooMany := v_TooMany) (xt_UnknownName := xt_UnknownName) (v_UnknownName := v_UnknownName) (xt_WrongName := xt_WrongName) (v_WrongName := v_WrongName) (xt_WrongValue := xt_WrongValue) (v_WrongValue := v_WrongValue) (xt_ArithmeticError := xt_ArithmeticError) (nv_ArithmeticError := nv_ArithmeticError) (xt_LookupError := xt_LookupError) (nv_LookupError := nv_LookupError) (xt_ValueError := xt_ValueError) (nv_ValueError := nv_ValueError)
  have c_l_classes : CalG l.prog w K mg base 1 "_law_classes" (spL K cm cs T m_l_classes) := ⟨_, _, _, ok2, PySem.W.mg_of X Gn a2, k2, b2⟩
  have ok3 := ok_l_given (P := l.prog) (w := w) (base := base) (cm := cm) (cs := cs) (T := T) F3 rfl B (e_InvalidClaim := e_InvalidClaim) (e_InvalidIndex := e_InvalidIndex) (e_InvalidLength := e_InvalidLength) (e_InvalidLine := e_InvalidLine) (e_InvalidName := e_InvalidName) (e_InvalidPace := e_InvalidPace) (e_InvalidPlace := e_InvalidPlace) (e_InvalidText := e_InvalidText) (e_InvalidTime := e_InvalidTime) (e_InvalidWidth := e_InvalidWidth) (e_InvalidWindow := e_InvalidWindow) (e_NotARecord := e_NotARecord) (e_NotASign := e_NotASign) (ek_InvalidClaim := ek_InvalidClaim) (ek_InvalidIndex := ek_InvalidIndex) (ek_InvalidLength := ek_InvalidLength) (ek_InvalidLine := ek_InvalidLine) (ek_InvalidName := ek_InvalidName) (ek_InvalidPace := ek_InvalidPace) (ek_InvalidPlace := ek_InvalidPlace) (ek_InvalidText := ek_InvalidText) (ek_InvalidTime := ek_InvalidTime) (ek_InvalidWidth := ek_InvalidWidth) (ek_InvalidWindow := ek_InvalidWindow) (ek_NotARecord := ek_NotARecord) (ek_NotASign := ek_NotASign)
  have c_l_given : CalG l.prog w K mg base 3 "_law_given" (spL K cm cs T m_l_given) := ⟨_, _, _, ok3, PySem.W.mg_of X Gn a3, k3, b3⟩
  have ok4 := ok_l_indexed (P := l.prog) (w := w) (base := base) (cm := cm) (cs := cs) (T := T) F4 rfl B (e_InvalidDead := e_InvalidDead) (e_InvalidDeeds := e_InvalidDeeds) (e_InvalidGroups := e_InvalidGroups) (e_InvalidPaces := e_InvalidPaces) (e_InvalidTimes := e_InvalidTimes) (ek_InvalidDead := ek_InvalidDead) (ek_InvalidDeeds := ek_InvalidDeeds) (ek_InvalidGroups := ek_InvalidGroups) (ek_InvalidPaces := ek_InvalidPaces) (ek_InvalidTimes := ek_InvalidTimes)
  have c_l_indexed : CalG l.prog w K mg base 3 "_law_indexed" (spL K cm cs T m_l_indexed) := ⟨_, _, _, ok4, PySem.W.mg_of X Gn a4, k4, b4⟩
  have ok5 := ok_l_pick (P := l.prog) (w := w) (base := base) (cm := cm) (cs := cs) (T := T) F5 rfl B (c_l_sip := c_l_sip)
  have c_l_pick : CalG l.prog w K mg base 2 "_law_pick" (spL K cm cs T m_l_pick) := ⟨_, _, _, ok5, PySem.W.mg_of X Gn a5, k5, b5⟩
  have ok6 := ok_l_right (P := l.prog) (w := w) (base := base) (cm := cm) (cs := cs) (T := T) F6 rfl B (c_l_classes := c_l_classes) (c_l_given := c_l_given) (c_l_indexed := c_l_indexed) (c_l_pick := c_l_pick) (e_Broken := e_Broken) (e_InUse := e_InUse) (e_OtherKind := e_OtherKind) (e_TooMany := e_TooMany) (e_UnknownName := e_UnknownName) (ek_Broken := ek_Broken) (ek_InUse := ek_InUse) (ek_OtherKind := ek_OtherKind) (ek_TooMany := ek_TooMany) (ek_UnknownName := ek_UnknownName) (xf_given := xf_given) (xf_index := xf_index) (xf_most := xf_most)
  have c_l_right : CalG l.prog w K mg base 4 "_law_right" (spL K cm cs T m_l_right) := ⟨_, _, _, ok6, PySem.W.mg_of X Gn a6, k6, b6⟩
  exact ok_law (P := l.prog) (w := w) (base := base) (cm := cm) (cs := cs) (T := T) F7 rfl B (c_l_classes := c_l_classes) (c_l_right := c_l_right) (g_GREATEST := g_GREATEST) (g_MOST_GLANCES := g_MOST_GLANCES) (g_MOST_LENGTH := g_MOST_LENGTH) (g_MOST_PACE := g_MOST_PACE) (g_MOST_PAIRS := g_MOST_PAIRS) (g_MOST_TIMES := g_MOST_TIMES) (g_MOST_WIDTH := g_MOST_WIDTH) (c_l_cup := c_l_cup) (e0_NoAnswer := e0_NoAnswer) (e0_NothingToUndo := e0_NothingToUndo) (e0_WrongName := e0_WrongName) (e0_WrongValue := e0_WrongValue)
end L2.G
open PySem PySem.W PyProof.Rows
set_option maxRecDepth 100000 in
set_option maxHeartbeats 0 in
theorem PySem.Challenge.cw_glimpserounds_k01_constants_and_errors_holds : PySem.Challenge.rw_glimpserounds_k01_constants_and_errors.Holds := by
  refine topHd ?_
  k_fill
  refine L2.G.walk_ofGT2 (l := PySem.Challenge.rw_glimpserounds_k01_constants_and_errors) (n := 63) (k := 5) (x := "_law_script") (K := _) rfl (by decide) (by kernel_rfl) ⟨rfl, by decide, by decide⟩ (fun w h Y => PySem.W.kIn_of Y) ?F
  case F =>
    intro w mg fa h Y KX Gn hmg0 TBL
    have hmg : mg ("law" : PySem.Str) = some (.ref fa) := by
      have e : (L2.G.defAt L2.G.rowHd.prog 43).name = ("law" : PySem.Str) := by kernel_rfl
      rw [← e]
      exact hmg0
    refine' L2.G.all_mk KX Gn hmg TBL ?aC_NotASign ?aC_NotARecord ?aC_InvalidText ?aC_InvalidPace ?aC_InvalidWidth ?aC_InvalidPlace ?aC_InvalidLength ?aC_InvalidTime ?aC_InvalidWindow ?aC_InvalidName ?aC_InvalidClaim ?aC_InvalidIndex ?aC_InvalidLine ?aC_InvalidDead ?aC_InvalidPaces ?aC_InvalidGroups ?aC_InvalidTimes ?aC_InvalidDeeds ?aC_UnknownName ?aC_InUse ?aC_TooMany ?aC_OtherKind ?aC_Broken ?aC_NothingToUndo ?aC_WrongValue ?aC_WrongName ?aC_NoAnswer ?a0 ?l0 ?c0 ?k0 ?a1 ?l1 ?c1 ?k1 ?a2 ?l2 ?c2 ?k2 ?a3 ?l3 ?c3 ?k3 ?a4 ?l4 ?c4 ?k4 ?a5 ?l5 ?c5 ?k5 ?a6 ?l6 ?c6 ?k6 ?a7 ?l7 ?c7 ?k7 ?a8 ?i8 ?l8 ?c8 ?k8 ?a9 ?i9 ?l9 ?c9 ?k9 ?a10 ?i10 ?l10 ?c10 ?k10 ?a11 ?i11 ?l11 ?c11 ?k11 ?a12 ?i12 ?l12 ?c12 ?k12 ?a13 ?i13 ?l13 ?c13 ?k13 ?a14 ?i14 ?l14 ?c14 ?k14 ?a15 ?i15 ?l15 ?c15 ?k15 ?a16 ?i16 ?l16 ?c16 ?k16 ?a17 ?i17 ?l17 ?c17 ?k17 ?a18 ?i18 ?l18 ?c18 ?k18 ?a19 ?i19 ?l19 ?c19 ?k19 ?a20 ?i20 ?l20 ?c20 ?k20 ?a21 ?i21 ?l21 ?c21 ?k21 ?a22 ?i22 ?l22 ?c22 ?k22 ?a23 ?i23 ?l23 ?c23 ?k23 ?a24 ?i24 ?l24 ?c24 ?k24 ?a25 ?i25 ?l25 ?c25 ?k25 ?a26 ?i26 ?l26 ?c26 ?k26 ?a27 ?i27 ?l27 ?c27 ?k27 ?a28 ?i28 ?l28 ?c28 ?k28 ?a29 ?i29 ?l29 ?c29 ?k29 ?a30 ?i30 ?l30 ?c30 ?k30 ?a31 ?i31 ?l31 ?c31 ?k31 ?a32 ?i32 ?l32 ?c32 ?k32 ?a33 ?i33 ?l33 ?c33 ?k33 ?xL_Broken ?sa_Broken ?sb_Broken ?kc_Broken ?no_Broken ?ty_Broken ?xL_InUse ?sa_InUse ?sb_InUse ?kc_InUse ?no_InUse ?ty_InUse ?xL_InvalidClaim ?sa_InvalidClaim ?sb_InvalidClaim ?kc_InvalidClaim ?no_InvalidClaim ?ty_InvalidClaim ?xL_InvalidDead ?sa_InvalidDead ?sb_InvalidDead ?kc_InvalidDead ?no_InvalidDead ?ty_InvalidDead ?xL_InvalidDeeds ?sa_InvalidDeeds ?sb_InvalidDeeds ?kc_InvalidDeeds ?no_InvalidDeeds ?ty_InvalidDeeds ?xL_InvalidGroups ?sa_InvalidGroups ?sb_InvalidGroups ?kc_InvalidGroups ?no_InvalidGroups ?ty_InvalidGroups ?xL_InvalidIndex ?sa_InvalidIndex ?sb_InvalidIndex ?kc_InvalidIndex ?no_InvalidIndex ?ty_InvalidIndex ?xL_InvalidLength ?sa_InvalidLength ?sb_InvalidLength ?kc_InvalidLength ?no_InvalidLength ?ty_InvalidLength ?xL_InvalidLine ?sa_InvalidLine ?sb_InvalidLine ?kc_InvalidLine ?no_InvalidLine ?ty_InvalidLine ?xL_InvalidName ?sa_InvalidName ?sb_InvalidName ?kc_InvalidName ?no_InvalidName ?ty_InvalidName ?xL_InvalidPace ?sa_InvalidPace ?sb_InvalidPace ?kc_InvalidPace ?no_InvalidPace ?ty_InvalidPace ?xL_InvalidPaces ?sa_InvalidPaces ?sb_InvalidPaces ?kc_InvalidPaces ?no_InvalidPaces ?ty_InvalidPaces ?xL_InvalidPlace ?sa_InvalidPlace ?sb_InvalidPlace ?kc_InvalidPlace ?no_InvalidPlace ?ty_InvalidPlace ?xL_InvalidText ?sa_InvalidText ?sb_InvalidText ?kc_InvalidText ?no_InvalidText ?ty_InvalidText ?xL_InvalidTime ?sa_InvalidTime ?sb_InvalidTime ?kc_InvalidTime ?no_InvalidTime ?ty_InvalidTime ?xL_InvalidTimes ?sa_InvalidTimes ?sb_InvalidTimes ?kc_InvalidTimes ?no_InvalidTimes ?ty_InvalidTimes ?xL_InvalidWidth ?sa_InvalidWidth ?sb_InvalidWidth ?kc_InvalidWidth ?no_InvalidWidth ?ty_InvalidWidth ?xL_InvalidWindow ?sa_InvalidWindow ?sb_InvalidWindow ?kc_InvalidWindow ?no_InvalidWindow ?ty_InvalidWindow ?xL_NotARecord ?sa_NotARecord ?sb_NotARecord ?kc_NotARecord ?no_NotARecord ?ty_NotARecord ?xL_NotASign ?sa_NotASign ?sb_NotASign ?kc_NotASign ?no_NotASign ?ty_NotASign ?xL_OtherKind ?sa_OtherKind ?sb_OtherKind ?kc_OtherKind ?no_OtherKind ?ty_OtherKind ?xL_TooMany ?sa_TooMany ?sb_TooMany ?kc_TooMany ?no_TooMany ?ty_TooMany ?xL_UnknownName ?sa_UnknownName ?sb_UnknownName ?kc_UnknownName ?no_UnknownName ?ty_UnknownName ?xL_NothingToUndo ?sa_NothingToUndo ?sb_NothingToUndo ?kc_NothingToUndo ?ty_NothingToUndo ?ai_NothingToUndo ?xL_WrongValue ?sa_WrongValue ?sb_WrongValue ?kc_WrongValue ?ty_WrongValue ?xL_WrongName ?sa_WrongName ?sb_WrongName ?kc_WrongName ?ty_WrongName ?xL_NoAnswer ?sa_NoAnswer ?sb_NoAnswer ?kc_NoAnswer ?ty_NoAnswer ?xb_NotASign ?xb_NotARecord ?xb_InvalidText ?xb_InvalidPace ?xb_InvalidWidth ?xb_InvalidPlace ?xb_InvalidLength ?xb_InvalidTime ?xb_InvalidWindow ?xb_InvalidName ?xb_InvalidClaim ?xb_InvalidIndex ?xb_InvalidLine ?xb_InvalidDead ?xb_InvalidPaces ?xb_InvalidGroups ?xb_InvalidTimes ?xb_InvalidDeeds ?xb_UnknownName ?xb_InUse ?xb_TooMany ?xb_OtherKind ?xb_Broken ?xb_NothingToUndo ?xb_WrongValue ?xb_WrongName ?xb_NoAnswer ?zz_ValueError ?zz_LookupError ?zz_ArithmeticError ?xg ?xt ?w0 ?w1 ?w2 ?w3 ?w4 ?w5 ?w6 ?z0 ?z1 ?z2 ?z3 ?z4 ?z5 ?z6 ?z7 ?z8 ?z9 ?z10 ?z11 ?z12 ?z13 ?z14 ?z15 ?z16 ?z17 ?z18
    (case aC_NotASign => k_is)
    (case aC_NotARecord => k_is)
    (case aC_InvalidText => k_is)
    (case aC_InvalidPace => k_is)
    (case aC_InvalidWidth => k_is)
    (case aC_InvalidPlace => k_is)
    (case aC_InvalidLength => k_is)
    (case aC_InvalidTime => k_is)
    (case aC_InvalidWindow => k_is)
    (case aC_InvalidName => k_is)
    (case aC_InvalidClaim => k_is)
    (case aC_InvalidIndex => k_is)
    (case aC_InvalidLine => k_is)
    (case aC_InvalidDead => k_is)
    (case aC_InvalidPaces => k_is)
    (case aC_InvalidGroups => k_is)
    (case aC_InvalidTimes => k_is)
    (case aC_InvalidDeeds => k_is)
    (case aC_UnknownName => k_is)
    (case aC_InUse => k_is)
    (case aC_TooMany => k_is)
    (case aC_OtherKind => k_is)
    (case aC_Broken => k_is)
    (case aC_NothingToUndo => k_is)
    (case aC_WrongValue => k_is)
    (case aC_WrongName => k_is)
    (case aC_NoAnswer => k_is)
    (case a0 => k_is)
    (case l0 => k_is)
    (case c0 => k_is)
    (case k0 => k_is)
    (case a1 => k_is)
    (case l1 => k_is)
    (case c1 => k_is)
    (case k1 => k_is)
    (case a2 => k_is)
    (case l2 => k_is)
    (case c2 => k_is)
    (case k2 => k_is)
    (case a3 => k_is)
    (case l3 => k_is)
    (case c3 => k_is)
    (case k3 => k_is)
    (case a4 => k_is)
    (case l4 => k_is)
    (case c4 => k_is)
    (case k4 => k_is)
    (case a5 => k_is)
    (case l5 => k_is)
    (case c5 => k_is)
    (case k5 => k_is)
    (case a6 => k_is)
    (case l6 => k_is)
    (case c6 => k_is)
    (case k6 => k_is)
    (case a7 => k_is)
    (case l7 => k_is)
    (case c7 => k_is)
    (case k7 => k_is)
    (case a8 => k_is)
    (case i8 => k_is)
    (case l8 => k_is)
    (case c8 => k_is)
    (case k8 => k_is)
    (case a9 => k_is)
    (case i9 => k_is)
    (case l9 => k_is)
    (case c9 => k_is)
    (case k9 => k_is)
    (case a10 => k_is)
    (case i10 => k_is)
    (case l10 => k_is)
    (case c10 => k_is)
    (case k10 => k_is)
    (case a11 => k_is)
    (case i11 => k_is)
    (case l11 => k_is)
    (case c11 => k_is)
    (case k11 => k_is)
    (case a12 => k_is)
    (case i12 => k_is)
    (case l12 => k_is)
    (case c12 => k_is)
    (case k12 => k_is)
    (case a13 => k_is)
    (case i13 => k_is)
    (case l13 => k_is)
    (case c13 => k_is)
    (case k13 => k_is)
    (case a14 => k_is)
    (case i14 => k_is)
    (case l14 => k_is)
    (case c14 => k_is)
    (case k14 => k_is)
    (case a15 => k_is)
    (case i15 => k_is)
    (case l15 => k_is)
    (case c15 => k_is)
    (case k15 => k_is)
    (case a16 => k_is)
    (case i16 => k_is)
    (case l16 => k_is)
    (case c16 => k_is)
    (case k16 => k_is)
    (case a17 => k_is)
    (case i17 => k_is)
    (case l17 => k_is)
    (case c17 => k_is)
    (case k17 => k_is)
    (case a18 => k_is)
    (case i18 => k_is)
    (case l18 => k_is)
    (case c18 => k_is)
    (case k18 => k_is)
    (case a19 => k_is)
    (case i19 => k_is)
    (case l19 => k_is)
    (case c19 => k_is)
    (case k19 => k_is)
    (case a20 => k_is)
    (case i20 => k_is)
    (case l20 => k_is)
    (case c20 => k_is)
    (case k20 => k_is)
    (case a21 => k_is)
    (case i21 => k_is)
    (case l21 => k_is)
    (case c21 => k_is)
    (case k21 => k_is)
    (case a22 => k_is)
    (case i22 => k_is)
    (case l22 => k_is)
    (case c22 => k_is)
    (case k22 => k_is)
    (case a23 => k_is)
    (case i23 => k_is)
    (case l23 => k_is)
    (case c23 => k_is)
    (case k23 => k_is)
    (case a24 => k_is)
    (case i24 => k_is)
    (case l24 => k_is)
    (case c24 => k_is)
    (case k24 => k_is)
    (case a25 => k_is)
    (case i25 => k_is)
    (case l25 => k_is)
    (case c25 => k_is)
    (case k25 => k_is)
    (case a26 => k_is)
    (case i26 => k_is)
    (case l26 => k_is)
    (case c26 => k_is)
    (case k26 => k_is)
    (case a27 => k_is)
    (case i27 => k_is)
    (case l27 => k_is)
    (case c27 => k_is)
    (case k27 => k_is)
    (case a28 => k_is)
    (case i28 => k_is)
    (case l28 => k_is)
    (case c28 => k_is)
    (case k28 => k_is)
    (case a29 => k_is)
    (case i29 => k_is)
    (case l29 => k_is)
    (case c29 => k_is)
    (case k29 => k_is)
    (case a30 => k_is)
    (case i30 => k_is)
    (case l30 => k_is)
    (case c30 => k_is)
    (case k30 => k_is)
    (case a31 => k_is)
    (case i31 => k_is)
    (case l31 => k_is)
    (case c31 => k_is)
    (case k31 => k_is)
    (case a32 => k_is)
    (case i32 => k_is)
    (case l32 => k_is)
    (case c32 => k_is)
    (case k32 => k_is)
    (case a33 => k_is)
    (case i33 => k_is)
    (case l33 => k_is)
    (case c33 => k_is)
    (case k33 => k_is)
    (case xL_Broken => k_is)
    (case sa_Broken => k_is)
    (case sb_Broken => k_is)
    (case kc_Broken => k_is)
    (case no_Broken => k_is)
    (case ty_Broken => k_is)
    (case xL_InUse => k_is)
    (case sa_InUse => k_is)
    (case sb_InUse => k_is)
    (case kc_InUse => k_is)
    (case no_InUse => k_is)
    (case ty_InUse => k_is)
    (case xL_InvalidClaim => k_is)
    (case sa_InvalidClaim => k_is)
    (case sb_InvalidClaim => k_is)
    (case kc_InvalidClaim => k_is)
    (case no_InvalidClaim => k_is)
    (case ty_InvalidClaim => k_is)
    (case xL_InvalidDead => k_is)
    (case sa_InvalidDead => k_is)
    (case sb_InvalidDead => k_is)
    (case kc_InvalidDead => k_is)
    (case no_InvalidDead => k_is)
    (case ty_InvalidDead => k_is)
    (case xL_InvalidDeeds => k_is)
    (case sa_InvalidDeeds => k_is)
    (case sb_InvalidDeeds => k_is)
    (case kc_InvalidDeeds => k_is)
    (case no_InvalidDeeds => k_is)
    (case ty_InvalidDeeds => k_is)
    (case xL_InvalidGroups => k_is)
    (case sa_InvalidGroups => k_is)
    (case sb_InvalidGroups => k_is)
    (case kc_InvalidGroups => k_is)
    (case no_InvalidGroups => k_is)
    (case ty_InvalidGroups => k_is)
    (case xL_InvalidIndex => k_is)
    (case sa_InvalidIndex => k_is)
    (case sb_InvalidIndex => k_is)
    (case kc_InvalidIndex => k_is)
    (case no_InvalidIndex => k_is)
    (case ty_InvalidIndex => k_is)
    (case xL_InvalidLength => k_is)
    (case sa_InvalidLength => k_is)
    (case sb_InvalidLength => k_is)
    (case kc_InvalidLength => k_is)
    (case no_InvalidLength => k_is)
    (case ty_InvalidLength => k_is)
    (case xL_InvalidLine => k_is)
    (case sa_InvalidLine => k_is)
    (case sb_InvalidLine => k_is)
    (case kc_InvalidLine => k_is)
    (case no_InvalidLine => k_is)
    (case ty_InvalidLine => k_is)
    (case xL_InvalidName => k_is)
    (case sa_InvalidName => k_is)
    (case sb_InvalidName => k_is)
    (case kc_InvalidName => k_is)
    (case no_InvalidName => k_is)
    (case ty_InvalidName => k_is)
    (case xL_InvalidPace => k_is)
    (case sa_InvalidPace => k_is)
    (case sb_InvalidPace => k_is)
    (case kc_InvalidPace => k_is)
    (case no_InvalidPace => k_is)
    (case ty_InvalidPace => k_is)
    (case xL_InvalidPaces => k_is)
    (case sa_InvalidPaces => k_is)
    (case sb_InvalidPaces => k_is)
    (case kc_InvalidPaces => k_is)
    (case no_InvalidPaces => k_is)
    (case ty_InvalidPaces => k_is)
    (case xL_InvalidPlace => k_is)
    (case sa_InvalidPlace => k_is)
    (case sb_InvalidPlace => k_is)
    (case kc_InvalidPlace => k_is)
    (case no_InvalidPlace => k_is)
    (case ty_InvalidPlace => k_is)
    (case xL_InvalidText => k_is)
    (case sa_InvalidText => k_is)
    (case sb_InvalidText => k_is)
    (case kc_InvalidText => k_is)
    (case no_InvalidText => k_is)
    (case ty_InvalidText => k_is)
    (case xL_InvalidTime => k_is)
    (case sa_InvalidTime => k_is)
    (case sb_InvalidTime => k_is)
    (case kc_InvalidTime => k_is)
    (case no_InvalidTime => k_is)
    (case ty_InvalidTime => k_is)
    (case xL_InvalidTimes => k_is)
    (case sa_InvalidTimes => k_is)
    (case sb_InvalidTimes => k_is)
    (case kc_InvalidTimes => k_is)
    (case no_InvalidTimes => k_is)
    (case ty_InvalidTimes => k_is)
    (case xL_InvalidWidth => k_is)
    (case sa_InvalidWidth => k_is)
    (case sb_InvalidWidth => k_is)
    (case kc_InvalidWidth => k_is)
    (case no_InvalidWidth => k_is)
    (case ty_InvalidWidth => k_is)
    (case xL_InvalidWindow => k_is)
    (case sa_InvalidWindow => k_is)
    (case sb_InvalidWindow => k_is)
    (case kc_InvalidWindow => k_is)
    (case no_InvalidWindow => k_is)
    (case ty_InvalidWindow => k_is)
    (case xL_NotARecord => k_is)
    (case sa_NotARecord => k_is)
    (case sb_NotARecord => k_is)
    (case kc_NotARecord => k_is)
    (case no_NotARecord => k_is)
    (case ty_NotARecord => k_is)
    (case xL_NotASign => k_is)
    (case sa_NotASign => k_is)
    (case sb_NotASign => k_is)
    (case kc_NotASign => k_is)
    (case no_NotASign => k_is)
    (case ty_NotASign => k_is)
    (case xL_OtherKind => k_is)
    (case sa_OtherKind => k_is)
    (case sb_OtherKind => k_is)
    (case kc_OtherKind => k_is)
    (case no_OtherKind => k_is)
    (case ty_OtherKind => k_is)
    (case xL_TooMany => k_is)
    (case sa_TooMany => k_is)
    (case sb_TooMany => k_is)
    (case kc_TooMany => k_is)
    (case no_TooMany => k_is)
    (case ty_TooMany => k_is)
    (case xL_UnknownName => k_is)
    (case sa_UnknownName => k_is)
    (case sb_UnknownName => k_is)
    (case kc_UnknownName => k_is)
    (case no_UnknownName => k_is)
    (case ty_UnknownName => k_is)
    (case xL_NothingToUndo => k_is)
    (case sa_NothingToUndo => k_is)
    (case sb_NothingToUndo => k_is)
    (case kc_NothingToUndo => k_is)
    (case ty_NothingToUndo => k_is)
    (case ai_NothingToUndo => k_is)
    (case xL_WrongValue => k_is)
    (case sa_WrongValue => k_is)
    (case sb_WrongValue => k_is)
    (case kc_WrongValue => k_is)
    (case ty_WrongValue => k_is)
    (case xL_WrongName => k_is)
    (case sa_WrongName => k_is)
    (case sb_WrongName => k_is)
    (case kc_WrongName => k_is)
    (case ty_WrongName => k_is)
    (case xL_NoAnswer => k_is)
    (case sa_NoAnswer => k_is)
    (case sb_NoAnswer => k_is)
    (case kc_NoAnswer => k_is)
    (case ty_NoAnswer => k_is)
    (case xb_NotASign => kernel_rfl)
    (case xb_NotARecord => kernel_rfl)
    (case xb_InvalidText => kernel_rfl)
    (case xb_InvalidPace => kernel_rfl)
    (case xb_InvalidWidth => kernel_rfl)
    (case xb_InvalidPlace => kernel_rfl)
    (case xb_InvalidLength => kernel_rfl)
    (case xb_InvalidTime => kernel_rfl)
    (case xb_InvalidWindow => kernel_rfl)
    (case xb_InvalidName => kernel_rfl)
    (case xb_InvalidClaim => kernel_rfl)
    (case xb_InvalidIndex => kernel_rfl)
    (case xb_InvalidLine => kernel_rfl)
    (case xb_InvalidDead => kernel_rfl)
    (case xb_InvalidPaces => kernel_rfl)
    (case xb_InvalidGroups => kernel_rfl)
    (case xb_InvalidTimes => kernel_rfl)
    (case xb_InvalidDeeds => kernel_rfl)
    (case xb_UnknownName => kernel_rfl)
    (case xb_InUse => kernel_rfl)
    (case xb_TooMany => kernel_rfl)
    (case xb_OtherKind => kernel_rfl)
    (case xb_Broken => kernel_rfl)
    (case xb_NothingToUndo => kernel_rfl)
    (case xb_WrongValue => kernel_rfl)
    (case xb_WrongName => kernel_rfl)
    (case xb_NoAnswer => kernel_rfl)
    (case zz_ValueError => k_is)
    (case zz_LookupError => k_is)
    (case zz_ArithmeticError => k_is)
    (case xg => k_is)
    (case xt => k_is)
    (case w0 => k_is)
    (case w1 => k_is)
    (case w2 => k_is)
    (case w3 => k_is)
    (case w4 => k_is)
    (case w5 => k_is)
    (case w6 => k_is)
    (case z0 => k_is)
    (case z1 => k_is)
    (case z2 => k_is)
    (case z3 => k_is)
    (case z4 => k_is)
    (case z5 => k_is)
    (case z6 => k_is)
    (case z7 => k_is)
    (case z8 => k_is)
    (case z9 => k_is)
    (case z10 => k_is)
    (case z11 => k_is)
    (case z12 => k_is)
    (case z13 => k_is)
    (case z14 => k_is)
    (case z15 => k_is)
    (case z16 => k_is)
    (case z17 => k_is)
    (case z18 => k_is)
