import PyProof.Rows.All
import Wide.All
import OpenK.AllK
import Wide.FinOn
import HandS.ForMost
import HandS.Wide
import HandS.WideMore
import HandS.TupAny
import HandS.TupLen
import HandS.Evl
import HandS.Codes
import PyProof.ReprLen
import PyProof.StrLawsRepr
import HandS.Walk
import HandS.Zip
import KE.GoesMore
import HandS.Style
import HandS.TupMul
import PyProof.StrOps2
import HandS.IsInst
import HandS.StrMore
import HandS.Dict
import HandS.Text
import HandS.Replace
import PyProof.Rows.RuleB_pow
import HandS.ExcInit
import HandS.Nested
import HandS.ClsMeth
import HandS.FStr
import KE.KExcSuper
import HandS.ExcField
import HandS.ExcIs
import HandS.ExcOwn
import HandS.WordsExc
import KE.KExcIs
import HandS.Defaults
import HandS.Rev
import HandS.RevTup
import KE.KDictList
import HandS.HotCalls
import HandS.MapJoin
import KE.GoesZip
import HandS.Conv
import PySem.Challenge.RW_pyhold_k75_objects_and_controls
set_option Elab.async false
set_option linter.all false
set_option maxRecDepth 100000
set_option maxHeartbeats 4000000
/-! A layer of one's own over the hand layer: defs by name, data, the helpers that the laws share. -/
namespace LK
open PySem PySem.Spec PyProof.Rows L2

/-! ### a def's promise where nothing is being shown (repr asks who is) -/
structure FnG (P : Program) (w : World) (K : PySem.W.Frag) (mg : Str → Option Value) (base : Heap) (CX : CXT) (k : Nat) (f : Addr) (fd : FuncData) (ps : List Str) (sp : Sp) : Prop where
  len : ∀ vs H Q E, sp vs H Q E → vs.length = ps.length
  run : ∀ (A : Around) (outer : List Env) (s : Shared) (H : Hp) (args : Args) (us : List Value) (vs : List V) (Q : VK) (E : XK), Room k A → A.guards = some [] →
    Env0 P w K mg base A outer s H → BindsTo s fd args (ps.zip us) → Vals vs us → sp vs H Q E → codeAny (model P w) A (.call (.ref f) args) (CR CX outer P w H s Q E) s
section
variable {P : Program} {w : World} {K : PySem.W.Frag} {mg : Str → Option Value} {base : Heap} {CX : CXT}
theorem FnG.imp {k : Nat} {f : Addr} {fd : FuncData} {ps : List Str} {sp sp' : Sp} (F : FnG P w K mg base CX k f fd ps sp) (h : ∀ vs H Q E, sp' vs H Q E → sp vs H Q E) : FnG P w K mg base CX k f fd ps sp' where
  len := fun vs H Q E q => F.len vs H Q E (h vs H Q E q)
  run := fun A outer s H args us vs Q E hr hg he hb hv hs => F.run A outer s H args us vs Q E hr hg he hb hv (h vs H Q E hs)
/-- the rule for a def: its body as a term of rules, and the reading of that term -/
theorem okG {x qual : Str} {st : Stmt} {f : Addr} {fd : FuncData} {N ps : List Str} {k : Nat} {sp : Sp} (F : Fun K x qual st f fd) (S : FnScope N ps (defScope st)) (len : ∀ vs H Q E, sp vs H Q E → vs.length = ps.length)
    (body : ∀ (cdv : Value) (A : Around) (outer : List Env) (s : Shared) (H : Hp) (vs : List V) (Q : VK) (E : XK), Room k (A.deeper (envOfC qual (defScope st) s.heap.objs.size f cdv)) →
      (A.deeper (envOfC qual (defScope st) s.heap.objs.size f cdv)).guards = some [] → sp vs H Q E →
      ∃ t, PSs (cxOf CX P w K mg base N qual (defScope st) f cdv A outer s H E) (defBody st) t ∧ t { nx := fun _ H' => Q .non H', rt := Q } (start N vs) H) :
    FnG P w K mg base CX (k + 1) f fd ps sp := by
  obtain ⟨oc, od, kV, doc, pm, an, cdv, ct, osl, rfl, lk, hcd⟩ := F.ex
  refine ⟨len, fun A outer s H args us vs Q E hr hgd e0 hb r hsp => ?_⟩
  have inn : K.In s.heap := e0.mod.kin.keeps fun b o e => (e0.bs b o e).1
  refine codeAny_call_function hr.depth (inn _ _ lk) rfl S.co S.gen rfl (PySem.W.codeRec_of inn hcd) (hb _ _ _ _ ?_)
  refine wpAny_newFunctionEnv_cells S.kind (fun y hy => ?_) fun env he s1 made => ?_
  · obtain ⟨n, v⟩ := y
    exact (S.par n (List.of_mem_zip hy).1).elim .inl fun q => .inr ⟨q, PySem.W.cellsFrom_some _ _ _ (.inl q)⟩
  · subst he
    have lim : s.heap.NoLimit := e0.mod.nolimit.keeps fun b o e => (e0.bs b o e).1
    refine ⟨lim.keeps made.toInCall.keep, codeAny_func ?_⟩
    obtain ⟨t, ht, hq⟩ := body cdv A outer s H vs Q E (hr.deeper _) hgd hsp
    refine wpAny_mono (ht.run [] s1 (start N vs) H _ (inv_start S hr.hd e0 (len _ _ _ _ hsp) r made) hq) (fun fl s' hs => ?_) fun e s' hs => hs
    cases fl with
    | ret u => exact let ⟨v, _, H', J, rv, q⟩ := hs; ⟨v, H', J.os, J.bare, J.base, J.hok, rv, q⟩
    | next => exact let ⟨_, H', J, q⟩ := hs; ⟨V.non, H', J.os, J.bare, J.base, J.hok, rfl, q⟩
    | brk => exact let ⟨_, _, _, q⟩ := hs; q.elim
    | cont => exact let ⟨_, _, _, q⟩ := hs; q.elim
/-- .. whose body lets no exception out -/
theorem okG0 {x qual : Str} {st : Stmt} {f : Addr} {fd : FuncData} {N ps : List Str} {k : Nat} {sp : Sp} (F : Fun K x qual st f fd) (S : FnScope N ps (defScope st)) (len : ∀ vs H Q E, sp vs H Q E → vs.length = ps.length)
    (body : ∀ (cdv : Value) (A : Around) (outer : List Env) (s : Shared) (H : Hp) (vs : List V) (Q : VK) (E : XK), Room k (A.deeper (envOfC qual (defScope st) s.heap.objs.size f cdv)) →
      (A.deeper (envOfC qual (defScope st) s.heap.objs.size f cdv)).guards = some [] → sp vs H Q E →
      ∃ t, PSs (cxOf CX0 P w K mg base N qual (defScope st) f cdv A outer s H E).nox (defBody st) t ∧ t { nx := fun _ H' => Q .non H', rt := Q } (start N vs) H) :
    FnG P w K mg base CX0 (k + 1) f fd ps sp :=
  okG F S len fun cdv A outer s H vs Q E hr hg hs => let ⟨t, ht, q⟩ := body cdv A outer s H vs Q E hr hg hs; ⟨t, ht.nox, q⟩
end
section
variable {X : Cx} {CX : CXT} {k : Nat} {f : Addr} {fd : FuncData} {ps : List Str} {sp : Sp} {E : XK} {x : Str} {p pos : Pos} {e : Expr} {es : List Expr} {t : TA}
theorem run_fnG {pins : List (Addr × Obj)} {σ : L2.St} {H : Hp} {s : Shared} {Q : VK} {us : List Value} {vs : List V} (F : FnG X.prog X.w X.K X.mg X.base CX k f fd ps sp) (hr : Room k X.A) (hg : X.A.guards = some []) (hb : Binds X.K fd ps [])
    (hx : Passes CX X E) (I : Inv X pins σ H s) (r : Vals vs us) (h : sp vs H Q E) : wpAny (model X.prog X.w) X.A (call (.ref f) us) (EP X pins σ Q) X.xe s := by
  have hl : (us ++ []).length = ps.length := by rw [List.append_nil, ← r.length, F.len _ _ _ _ h]
  have hbs := hb s us I.kIn hl
  rw [List.append_nil] at hbs
  refine wpAny_call (codeAny_mono (F.run X.A X.stack s H ⟨us, []⟩ us vs Q E hr hg I.env0 hbs r h) fun res s' hq => ?_)
  match res, hq with
  | .error e, hq => exact hx pins σ H s e s' I hq
  | .ok (.ret u), hq => exact I.after hq
  | .ok .next, hq => exact hq.elim
  | .ok .brk, hq => exact hq.elim
  | .ok .cont, hq => exact hq.elim
end

/-! ### defs of the text, by name -/
/-- what the top has left of the def x, whose statement is st -/
def HasFn (K : PySem.W.Frag) (x : Str) (st : Stmt) : Prop := ∃ (f : Addr) (oc : Value) (od an : Option Addr) (kV doc pm cdv ct : Value) (osl : Array (Option Value)),
  PySem.W.nsIn K mainGlobals x = some (some (.ref f)) ∧ K.lookup f = some ⟨oc, od, .func (PySem.W.fnOf x x (defArgs st) (defBody st) (defScope st) .none kV doc pm an cdv ct), osl⟩ ∧
  PySem.W.codeIn K cdv x = true ∧ PySem.W.keepIn K (.ref f) = true
/-- the def x may be called: its promise sp, by level k -/
structure Use (P : Program) (w : World) (K : PySem.W.Frag) (mg : Str → Option Value) (base : Heap) (CX : CXT) (x : Str) (k : Nat) (ps : List Str) (sp : Sp) : Prop where
  ex : ∃ (f : Addr) (fd : FuncData), FnG P w K mg base CX k f fd ps sp ∧ mg x = some (.ref f) ∧ PySem.W.keepIn K (.ref f) = true ∧ Binds K fd ps []
section
variable {P : Program} {w : World} {K : PySem.W.Frag} {mg : Str → Option Value} {base h : Heap} {CX : CXT}
theorem mk_use {x : Str} {st : Stmt} {k : Nat} {ps : List Str} {sp : Sp} (F : HasFn K x st) (X : K.In h) (G : h.Ns mainGlobals mg)
    (hb : ∀ (kV doc pm : Value) (an : Option Addr) (cdv ct : Value) (us : List Value), us.length = ps.length → bindArgs (PySem.W.fnOf x x (defArgs st) (defBody st) (defScope st) .none kV doc pm an cdv ct) ⟨us, []⟩ = pure (ps.zip us))
    (ok : ∀ (f : Addr) (fd : FuncData), Fun K x x st f fd → FnG P w K mg base CX k f fd ps sp) : Use P w K mg base CX x k ps sp := by
  obtain ⟨f, oc, od, an, kV, doc, pm, cdv, ct, osl, e, l, c, kp⟩ := F
  have Fn := fun_mk (st := st) l c kp
  exact ⟨f, _, ok f _ Fn, PySem.W.mg_of X G e, kp, Fn.binds hb⟩
theorem Use.imp {x : Str} {k : Nat} {ps : List Str} {sp sp' : Sp} (U : Use P w K mg base CX x k ps sp) (h : ∀ vs H Q E, sp' vs H Q E → sp vs H Q E) : Use P w K mg base CX x k ps sp' := by
  obtain ⟨f, fd, ok, r⟩ := U.ex
  exact ⟨f, fd, ok.imp h, r⟩
end
section
variable {X : Cx} {CX : CXT} {E : XK} {k : Nat} {x : Str} {ps : List Str} {sp : Sp} {p pos : Pos} {e : Expr} {es : List Expr} {t : TA}
theorem pe_useX (U : Use X.prog X.w X.K X.mg X.base CX x k ps sp) (hx : Passes CX X E) (hr : Room k X.A) (gd : X.A.guards = some []) (hg : Gl X x) (ha : PA X (e :: es) t) (hdb : (x == ("__debug__" : Str)) = false := by decide)
    (he : starEach (e :: es) X.env = (false, eval e X.env) :: starEach es X.env := by rfl) (hpl : (backTo pos (starEach es X.env)).any (·.1) = false := by rfl) : PE X (.Call (.Name x p) (e :: es) [] pos) (fun σ H Q => t σ H fun vs H1 => sp vs H1 Q E) := by
  obtain ⟨f, fd, ok, hm, kp, hb⟩ := U.ex
  refine ⟨fun pins s σ H Q I h => wpAny_Call_Name_kw (ld_glob I hg hm ?_ hdb)⟩
  exact PySem.W.callWith_K (h₀ := X.base) I.ok.mod.kin kp (thn (ha.run pos pins s σ H _ I h) fun us s1 ⟨vs, H1, I1, r, q⟩ => ⟨I1.kIn, run_fnG ok hr gd hb hx I1 r q⟩) he hpl
def tUse (sp : Sp) (E : XK) (t : TA) : TE := fun σ H Q => t σ H fun vs H1 => sp vs H1 Q E
theorem pe_use (U : Use X.prog X.w X.K X.mg X.base CX0 x k ps sp) (hr : Room k X.A) (gd : X.A.guards = some []) (hg : Gl X x) (ha : PA X (e :: es) t) (hdb : (x == ("__debug__" : Str)) = false := by decide)
    (he : starEach (e :: es) X.env = (false, eval e X.env) :: starEach es X.env := by rfl) (hpl : (backTo pos (starEach es X.env)).any (·.1) = false := by rfl) : PE X (.Call (.Name x p) (e :: es) [] pos) (tUse sp E0 t) := pe_useX U pass0 hr gd hg ha hdb he hpl
theorem pe_use0 (U : Use X.prog X.w X.K X.mg X.base CX0 x k ps sp) (hr : Room k X.A) (gd : X.A.guards = some []) (hg : Gl X x) (hdb : (x == ("__debug__" : Str)) = false := by decide) : PE X (.Call (.Name x p) [] [] pos) (tUse sp E0 tNil) := by
  obtain ⟨f, fd, ok, hm, kp, hb⟩ := U.ex
  exact ⟨fun pins s σ H Q I h => wpAny_Call_Name_kw (ld_glob I hg hm (PySem.W.callWith_K0 I.kIn kp (run_fnG (us := []) ok hr gd hb pass0 I .nil h)) hdb)⟩
end

/-! ### what stays -/
theorem Same.new {H : Hp} {p : Addr} {o : HO} (h : H p = none) : Same H (upd H p o) := fun b u e => by
  rw [upd_ne (ne_of_none e h)]; exact e
theorem Same.rd {H H' : Hp} {a : Addr} {u : HO} (e : Same H H') (h : Rd H a u) : Rd H' a u := by
  rcases h with h | ⟨o, h⟩
  · exact .inl (e _ _ h)
  · exact .inr ⟨o, e _ _ h⟩
theorem Same.tupl {K : PySem.W.Frag} {H H' : Hp} {a : Addr} {xs : List V} (e : Same H H') (h : SqT K H a xs) : SqT K H' a xs := by
  rcases h with h | h
  · exact .inl (Same.rd e h)
  · exact .inr h
theorem SqT.mono {K : PySem.W.Frag} {H H' : Hp} {a : Addr} {xs : List V} (h : SqT K H a xs) (e : Same H H') : SqT K H' a xs := Same.tupl e h
theorem SqL.mono {K : PySem.W.Frag} {H H' : Hp} {a : Addr} {xs : List V} (h : SqL K H a xs) (e : Same H H') : SqL K H' a xs := e.seq h

/-! ### data: none, bools, ints, texts, tuples (and lists that stand still) -/
mutual
theorem Dp.mono {K : PySem.W.Frag} {H H' : Hp} (e : Same H H') : ∀ {v : V} {d : PyData}, Dp K H v d → Dp K H' v d
  | _, _, .non => .non
  | _, _, .bl b => .bl b
  | _, _, .int i => .int i
  | _, _, .str x => .str x
  | _, _, .lst h a => .lst (e.seq h) (DpAll.mono e a)
  | _, _, .tup h a => .tup (Same.tupl e h) (DpAll.mono e a)
theorem DpAll.mono {K : PySem.W.Frag} {H H' : Hp} (e : Same H H') : ∀ {vs : List V} {ds : List PyData}, DpAll K H vs ds → DpAll K H' vs ds
  | _, _, .nil => .nil
  | _, _, .cons h a => .cons (Dp.mono e h) (DpAll.mono e a)
end
/-- a tuple just made -/
theorem Dp.made {K : PySem.W.Frag} {H : Hp} {p : Addr} {xs : List V} {ds : List PyData} (hp : H p = none) (h : DpAll K H xs ds) : Dp K (upd H p (.tup xs)) (.ref p) (.tuple ds) :=
  .tup (SqT.of upd_same) (DpAll.mono (Same.new hp) h)
theorem DpAll.length {K : PySem.W.Frag} {H : Hp} : ∀ {vs : List V} {ds : List PyData}, DpAll K H vs ds → vs.length = ds.length
  | _, _, .nil => rfl
  | _, _, .cons _ t => by simp [DpAll.length t]
theorem DpAll.app {K : PySem.W.Frag} {H : Hp} : ∀ {vs ws : List V} {ds es : List PyData}, DpAll K H vs ds → DpAll K H ws es → DpAll K H (vs ++ ws) (ds ++ es)
  | _, _, _, _, .nil, t => t
  | _, _, _, _, .cons h a, t => .cons h (DpAll.app a t)

/-! ### repr of data -/
mutual
theorem Dp.noDict {K : PySem.W.Frag} {H : Hp} : ∀ {v : V} {d : PyData}, Dp K H v d → d.hasDict = false
  | _, _, .non => rfl
  | _, _, .bl _ => rfl
  | _, _, .int _ => rfl
  | _, _, .str _ => rfl
  | _, _, .lst _ a => by simp only [PyData.hasDict]; exact DpAll.noDict a
  | _, _, .tup _ a => by simp only [PyData.hasDict]; exact DpAll.noDict a
theorem DpAll.noDict {K : PySem.W.Frag} {H : Hp} : ∀ {vs : List V} {ds : List PyData}, DpAll K H vs ds → PyData.hasDictAll ds = false
  | _, _, .nil => rfl
  | _, _, .cons h a => by simp only [PyData.hasDictAll, Dp.noDict h, DpAll.noDict a, Bool.or_self]
end
/-- what repr asks of data -/
structure ShowOk (d : PyData) : Prop where
  ok : d.showable = true
  dp : d.depth ≤ 60
  sz : d.shown.length ≤ sizeLine
def rRepr (K : PySem.W.Frag) : List V → Hp → VK → Prop := fun xs H Q => ∃ v d, xs = [v] ∧ Dp K H v d ∧ ShowOk d ∧ Q (.str d.shown) H
section
variable {X : Cx}
theorem call_repr_data (hg : X.A.guards = some []) (hu : X.A.units + 64 < cLine) : CallR X (.builtin "repr") (rRepr X.K) := by
  intro pins s σ H xs us Q I r h
  obtain ⟨v, d, rfl, hd, ⟨hs, hdp, hsz⟩, q⟩ := h
  obtain ⟨u, rfl, rv⟩ := vals1 r
  obtain ⟨as, rr⟩ := Dp.reads I d v u hd rv
  have nd := Dp.noDict hd
  cases d with
  | none => cases rr; exact PySem.P.repr_of_none ⟨.str _, H, I.tok _, ⟨_, rfl⟩, q⟩
  | bool b => cases rr; exact PySem.P.repr_of_bool ⟨.str _, H, I.tok _, ⟨_, rfl⟩, by simpa [PyData.shown] using q⟩
  | int i => cases rr; exact PySem.P.repr_of_int (of_decide_eq_true (by simpa [PyData.showable] using hs)) ⟨.str _, H, I.tok _, ⟨_, rfl⟩, by simpa [PyData.shown] using q⟩
  | str x => cases rr; exact PySem.P.repr_of_str (hsz := by simpa [PyData.shown] using hsz) ⟨.str _, H, I.tok _, ⟨_, rfl⟩, by simpa [PyData.shown] using q⟩
  | list ds =>
    obtain ⟨a, rfl⟩ := PyProof.Rows.isRef_of_reads rr rfl
    exact repr_of_reads' rr hs (PyData.noDict_hsm nd) hg (by omega) (fun _ _ e => e) (fun h' u tk hk => ⟨.str _, H, I.kept hk, ⟨_, rfl⟩, q⟩) hsz
  | tuple ds =>
    obtain ⟨a, rfl⟩ := PyProof.Rows.isRef_of_reads rr rfl
    exact repr_of_reads' rr hs (PyData.noDict_hsm nd) hg (by omega) (fun _ _ e => e) (fun h' u tk hk => ⟨.str _, H, I.kept hk, ⟨_, rfl⟩, q⟩) hsz
  | dict kv => cases hd
end

/-! ### the law's own call -/
/-- the heap behind the top, seen with the script at a locked, or with nothing tracked -/
theorem law_callG {P : Program} {w : World} {K : PySem.W.Frag} {mg mb : Str → Option Value} {CX : CXT} {k : Nat} {fa a : Addr} {fd : FuncData} {x : Str} {sp : Sp} {s₁ : Shared} {vs : List Value} {ns : List Int}
    (inn : K.In s₁.heap) (hns : s₁.heap.Ns mainGlobals mg) (hb : s₁.heap.Ns builtinsNs mb) (hbb : ∀ x : Str, x ≠ "__name__" → mb x = bootBuiltins x) (hlim : s₁.heap.NoLimit) (hgens : s₁.gens = #[])
    (ha : s₁.heap.get? a = some { cls := .type "list", data := .seq vs.toArray }) (hi : IntsAre vs ns) (hl : ns.length ≤ sizeLine) (hr : Room k callerA)
    (F : ∀ base : Heap, K.In base → base.Ns mainGlobals mg → FnG P w K mg base CX k fa fd [x] sp) (hbind : ∀ (s : Shared) (u : Value), BindsTo s fd ⟨[u], []⟩ [(x, u)])
    (hsp : ∀ H : Hp, Only H → SqL K H a (ns.map V.int) → sp [.ref a] H (fun v _ => v = .bl true) fun _ _ _ => False)
    (hCX : ∀ H e s', CX [] H s₁ (fun _ _ _ => False) e s' → False) :
    codeAny (model P w) callerA (.call (.ref fa) ⟨[.ref a], []⟩) (fun r s' => r = .ok (.ret (.bool true)) ∧ OldK s₁.heap s'.heap ∧ s'.os = s₁.os ∧ AllBare s'.gens) s₁ := by
  have rv := vals_ints hi
  have run : ∀ H : Hp, Only H → SqL K H a (ns.map V.int) → HOk P w H s₁.heap → (∀ b u, H b = some u → b = a ∧ K.lookup a = none) →
      codeAny (model P w) callerA (.call (.ref fa) ⟨[.ref a], []⟩) (fun r s' => r = .ok (.ret (.bool true)) ∧ OldK s₁.heap s'.heap ∧ s'.os = s₁.os ∧ AllBare s'.gens) s₁ := by
    intro H only hS hok at_a
    -- what is no list stays in the base
    have free : ∀ {b : Addr} {o : Obj}, s₁.heap.get? b = some o → (∀ its n, o.data ≠ .seq its n) → H b = none := fun {b o} e hd => by
      cases q : H b with
      | none => rfl
      | some u =>
        obtain ⟨rfl, _⟩ := at_a b u q
        rw [ha] at e; cases e
        exact absurd rfl (hd _ _)
    have names : ∀ {b : Addr} {m : Str → Option Value}, s₁.heap.Ns b m → (hidT s₁.heap H).Ns b m := fun {b m} hn => by
      obtain ⟨o, es, ep, e, d, r⟩ := hn
      exact ⟨o, es, ep, hidT_get e (free e fun its n z => by rw [d] at z; cases z), d, r⟩
    have inb : K.In (hidT s₁.heap H) := fun b o e => by
      refine hidT_get (inn b o e) ?_
      cases q : H b with
      | none => rfl
      | some u =>
        obtain ⟨rfl, hk⟩ := at_a b u q
        rw [e] at hk; cases hk
    have md : Mod K mg (hidT s₁.heap H) := by
      obtain ⟨mc, h1, h2⟩ := hlim
      exact ⟨inb, names hns, ⟨mb, names hb, hbb⟩, ⟨mc, names h1, h2⟩⟩
    have none_in : ∀ b : Addr, b ∉ ([] : List Addr) := fun b z => nomatch z
    have e0 : Env0 P w K mg (hidT s₁.heap H) callerA [] s₁ H := ⟨rfl, md, fun b o e => of_hidT e, Nat.le_of_eq (hidT_size _ _), trivial, fun b z => absurd z (none_in b), hok, .of_eq hgens⟩
    refine codeAny_mono ((F _ inb (names hns)).run callerA [] s₁ H ⟨[.ref a], []⟩ [.ref a] [.ref a] _ _ hr rfl e0 (hbind s₁ (.ref a)) (.cons rfl .nil) (hsp H only hS)) fun r s' h => ?_
    match r, h with
    | .error e, h => exact (hCX H e s' h).elim
    | .ok .next, h => exact False.elim h
    | .ok .brk, h => exact False.elim h
    | .ok .cont, h => exact False.elim h
    | .ok (.ret u), h =>
      obtain ⟨v, H', os, bare, un, hok', r', q⟩ := h
      obtain rfl : v = V.bl true := q
      obtain rfl : u = Value.bool true := r'
      refine ⟨rfl, OldK.of_keep fun b o e => ?_, os, bare⟩
      cases q : H b with
      | none => exact un.keep b o e q (none_in b) (none_in b)
      | some u =>
        rcases only b with z | ⟨ob, xs, z⟩
        · rw [q] at z; cases z
        · have e1 : s₁.heap.get? b = some ob := (hok b _ z).1
          rw [e] at e1; cases e1
          exact (hok' b _ (un.frzs b o _ z)).1
  cases hk : K.lookup a with
  | some o =>
    have e := inn a o hk
    rw [ha] at e; cases e
    have sz : vs.toArray.size ≤ sizeLine := by rw [List.size_toArray, hi.length]; exact hl
    exact run (fun _ => none) (fun _ => .inl rfl) (.inr ⟨_, vs.toArray, _, hk, rfl, rfl, rfl, sz, by simpa using rv⟩) (fun b u z => nomatch (show (none : Option HO) = some u from z)) fun b u z => nomatch (show (none : Option HO) = some u from z)
  | none =>
    let u0 : HO := .frz { cls := .type "list", data := .seq vs.toArray } (.lst (ns.map V.int))
    have at1 : ∀ b u, upd (fun _ => none) a u0 b = some u → b = a ∧ u = u0 := fun b u z => by
      by_cases hb : b = a
      · subst hb; rw [upd_same] at z; exact ⟨rfl, (Option.some.inj z).symm⟩
      · rw [upd_ne hb] at z; cases z
    refine run (upd (fun _ => none) a u0) (fun b => ?_) (.inl (.inr ⟨_, upd_same⟩)) (fun b u z => ?_) fun b u z => ⟨(at1 b u z).1, hk⟩
    · by_cases hb : b = a
      · subst hb; exact .inr ⟨_, _, upd_same⟩
      · exact .inl (by rw [upd_ne hb])
    · obtain ⟨rfl, rfl⟩ := at1 b u z
      exact ⟨ha, by rw [List.length_map]; exact hl, vs, _, rv, ha⟩
theorem walkG {l : PySem.W.OpenLaw} {n k : Nat} {q : Program} {loose : List Str} {XP : (Str → Option Value) → Heap → Prop} {YP : World → Heap → Prop} {d : DefRec} {K : Params → PySem.W.Frag} {CX : CXT} {sp : PySem.W.Frag → Sp} {x : Str}
    (hn : l.most = some n) (hn2 : n ≤ sizeLine) (hdf : d.params.defaults = []) (hr : Room k callerA)
    (hY : ∀ (w : World) (h : Heap), YP w h → (K w.params).In h)
    (F : ∀ (w : World) (mg : Str → Option Value) (fa : Addr) (h : Heap), (K w.params).In h → h.Ns mainGlobals mg → mg d.name = some (.ref fa) →
      ∃ fd : FuncData, (∀ (s : Shared) (u : Value), BindsTo s fd ⟨[u], []⟩ [(x, u)]) ∧
        ∀ base : Heap, (K w.params).In base → base.Ns mainGlobals mg → FnG l.prog w (K w.params) mg base CX k fa fd [x] (sp (K w.params)))
    (hsp : ∀ (K : PySem.W.Frag) (H : Hp) (a : Addr) (ns : List Int), ns.length ≤ n → Only H → SqL K H a (ns.map V.int) → sp K [.ref a] H (fun v _ => v = .bl true) fun _ _ _ => False)
    (hCX : ∀ (H : Hp) (s : Shared) (e : Value) (s' : Shared), CX [] H s (fun _ _ _ => False) e s' → False) :
    PySem.W.WalkO q loose XP YP l.row.toRowW d [] (fun f vs => PySem.call f vs) :=
  Att.attach_call hn hdf fun w s₀ s₁ mg mb fa o pm cd doc a vs ns G Y ho hd hcd hmg hobj hints hlen hg =>
    let ⟨fd, hb, hF⟩ := F w mg fa _ (hY w _ Y) G.T.g hmg
    law_callG (hY w _ Y) G.T.g G.T.b G.T.builtins G.T.nolimit hg hobj hints (Nat.le_trans hlen hn2) hr hF hb (fun H hO hS => hsp (K w.params) H a ns hlen hO hS) fun H e s' => hCX H s₁ e s'
/-- from the top's facts: the law's def and its arguments -/
theorem law_use {P : Program} {w : World} {K : PySem.W.Frag} {mg : Str → Option Value} {h : Heap} {CX : CXT} {k : Nat} {fa : Addr} {st : Stmt} {x : Str} {sp : Sp} (L : HasFn K "law" st) (X : K.In h) (G : h.Ns mainGlobals mg) (hfa : mg "law" = some (.ref fa))
    (hb : ∀ (kV doc pm : Value) (an : Option Addr) (cdv ct v : Value), bindArgs (PySem.W.fnOf "law" "law" (defArgs st) (defBody st) (defScope st) .none kV doc pm an cdv ct) ⟨[v], []⟩ = pure [(x, v)])
    (ok : ∀ base : Heap, K.In base → base.Ns mainGlobals mg → ∀ fd, Fun K "law" "law" st fa fd → FnG P w K mg base CX k fa fd [x] sp) :
    ∃ fd : FuncData, (∀ (s : Shared) (v : Value), BindsTo s fd ⟨[v], []⟩ [(x, v)]) ∧ ∀ base : Heap, K.In base → base.Ns mainGlobals mg → FnG P w K mg base CX k fa fd [x] sp := by
  obtain ⟨f, oc, od, an, kV, doc, pm, cdv, ct, osl, e, l, c, kp⟩ := L
  have z := hfa.symm.trans (PySem.W.mg_of X G e)
  cases z
  have Fn := fun_mk (st := st) l c kp
  exact ⟨_, fun s v => .of_eq (hb ..), fun base h1 h2 => ok base h1 h2 _ Fn⟩

/-! ### tests whose answer is known -/
theorem iteFb {c : Bool} {A B : Prop} (h : c = false) (b : B) : if c = true then A else B := by rw [h]; exact iteF b
theorem iteTb {c : Bool} {A B : Prop} (h : c = true) (a : A) : if c = true then A else B := by rw [h]; exact iteT a
theorem ite3 {c : Bool} {A B : Prop} (h1 : c = true → A) (h2 : c = false → B) : if c = true then A else B := by
  cases c with
  | true => exact iteT (h1 rfl)
  | false => exact iteF (h2 rfl)

/-! ### constants of the top -/
def HasInt (K : PySem.W.Frag) (x : Str) (n : Int) : Prop := ∃ (t : Tok) (m : Int), PySem.W.nsIn K mainGlobals x = some (some (.int m t)) ∧ m = n
def KTup (K : PySem.W.Frag) (a : Addr) (xs : List V) : Prop := ∃ (od : Option Addr) (its : Array Value) (n : Nat) (sl : Array (Option Value)), K.lookup a = some ⟨.type "tuple", od, .seq its n, sl⟩ ∧ its.size ≤ sizeLine ∧ Vals xs its.toList
def HasTup (K : PySem.W.Frag) (x : Str) (xs : List V) : Prop := ∃ a, PySem.W.nsIn K mainGlobals x = some (some (.ref a)) ∧ KTup K a xs
theorem KTup.sq {K : PySem.W.Frag} {a : Addr} {xs : List V} (h : KTup K a xs) (H : Hp) : SqT K H a xs := by
  obtain ⟨od, its, n, sl, e, z, v⟩ := h
  exact .inr ⟨_, its, n, e, rfl, rfl, z, v⟩
/-- the module's names, as the defs see them -/
def GInt (mg : Str → Option Value) (x : Str) (n : Int) : Prop := ∃ t, mg x = some (.int n t)
def GTup (K : PySem.W.Frag) (mg : Str → Option Value) (x : Str) (xs : List V) : Prop := ∃ a, mg x = some (.ref a) ∧ KTup K a xs
theorem HasInt.g {K : PySem.W.Frag} {mg : Str → Option Value} {h : Heap} {x : Str} {n : Int} (i : HasInt K x n) (X : K.In h) (G : h.Ns mainGlobals mg) : GInt mg x n := by
  obtain ⟨t, m, e, rfl⟩ := i
  exact ⟨t, PySem.W.mg_of X G e⟩
theorem HasTup.g {K : PySem.W.Frag} {mg : Str → Option Value} {h : Heap} {x : Str} {xs : List V} (i : HasTup K x xs) (X : K.In h) (G : h.Ns mainGlobals mg) : GTup K mg x xs := by
  obtain ⟨a, e, k⟩ := i
  exact ⟨a, PySem.W.mg_of X G e, k⟩
section
variable {X : Cx} {x : Str} {pos : Pos}
theorem pe_globI {n : Int} (h : GInt X.mg x n) (hg : Gl X x) (hd : (x == ("__debug__" : Str)) = false := by decide) : PE X (.Name x pos) (tC (.int n)) := by
  obtain ⟨t, e⟩ := h
  exact pe_glob hg e ⟨t, rfl⟩ hd
/-- a tuple of the top: it is read as xs, wherever it stands -/
def tGT (K : PySem.W.Frag) (xs : List V) : TE := fun _ H Q => ∀ a, KTup K a xs → Q (.ref a) H
theorem pe_globT {xs : List V} (h : GTup X.K X.mg x xs) (hg : Gl X x) (hd : (x == ("__debug__" : Str)) = false := by decide) : PE X (.Name x pos) (tGT X.K xs) := by
  obtain ⟨a, e, k⟩ := h
  exact ⟨fun pins s σ H Q I q => (pe_glob (v := .ref a) hg e rfl hd).run pins s σ H Q I (q a k)⟩
end

/-! ### // by any divisor but 0 -/
def CDivX (_ j : Int) : Prop := j ≠ 0 ∧ j.natAbs.log2 < 9000
theorem op_fdivX {X : Cx} : OpR X (binaryOp .FloorDiv) (rI CDivX fun i j => .int (i.fdiv j)) := opI fun _ _ _ _ _ _ _ hc q => floordiv_int hc.1 q (.inl (PyProof.noPylong_of_log2 hc.2))
theorem fdiv_le_pos (i : Int) {j : Int} (hj : 0 < j) : (i.fdiv j).natAbs ≤ i.natAbs + 1 := by
  have e := Int.mul_fdiv_add_fmod i j
  have h0 := Int.fmod_nonneg_of_pos i hj
  have h1 := Int.fmod_lt_of_pos i hj
  have a : (i.fdiv j).natAbs ≤ (j * i.fdiv j).natAbs := by
    rw [Int.natAbs_mul]; exact Nat.le_mul_of_pos_left _ (by omega)
  by_cases hi : 0 ≤ i
  · have : 0 ≤ i.fdiv j := Int.fdiv_nonneg hi (by omega)
    have : 0 ≤ j * i.fdiv j := Int.mul_nonneg (by omega) this
    omega
  · have q : i.fdiv j ≤ -1 := by
      by_cases z : 0 ≤ i.fdiv j
      · have := Int.mul_nonneg (show 0 ≤ j by omega) z
        omega
      · omega
    have r : -1 + i ≤ i.fdiv j := by
      have : i.fdiv j * (j - 1) ≤ (-1) * (j - 1) := Int.mul_le_mul_of_nonneg_right q (by omega)
      have e2 : j * i.fdiv j = i.fdiv j * (j - 1) + i.fdiv j := by rw [Int.mul_sub, Int.mul_one, Int.mul_comm]; omega
      omega
    omega
theorem fdiv_le (i j : Int) : (i.fdiv j).natAbs ≤ i.natAbs + 1 := by
  by_cases h : 0 < j
  · exact fdiv_le_pos i h
  · by_cases h2 : j = 0
    · subst h2; rw [Int.fdiv_zero]; omega
    · have e : i.fdiv j = (-i).fdiv (-j) := by rw [Int.neg_fdiv_neg]
      have := fdiv_le_pos (-i) (show 0 < -j by omega)
      rw [e]; omega

/-! ### how long a shown thing is at most -/
structure Sm (d : PyData) (dp N : Nat) : Prop where
  ok : d.showable = true
  dp : d.depth ≤ dp
  sz : d.shown.length ≤ N
structure SmAll (ds : List PyData) (dp n N : Nat) : Prop where
  ok : PyData.showableAll ds = true
  dp : PyData.depthAll ds ≤ dp
  len : ds.length ≤ n
  sz : ((PyData.shownAll ds).map (·.length)).sum ≤ N
theorem Sm.show {d : PyData} {dp N : Nat} (h : Sm d dp N) (h1 : dp ≤ 60) (h2 : N ≤ sizeLine) : ShowOk d := ⟨h.ok, Nat.le_trans h.dp h1, Nat.le_trans h.sz h2⟩
theorem Sm.mono {d : PyData} {dp N dp' N' : Nat} (h : Sm d dp N) (h1 : dp ≤ dp') (h2 : N ≤ N') : Sm d dp' N' := ⟨h.ok, Nat.le_trans h.dp h1, Nat.le_trans h.sz h2⟩
theorem shownAll_length : ∀ ds : List PyData, (PyData.shownAll ds).length = ds.length
  | [] => rfl
  | d :: ds => by simp [PyData.shownAll, shownAll_length ds]
theorem Sm.int {i : Int} (h : i.natAbs < 2 ^ 1900) : Sm (.int i) 0 2000 := by
  have hl : i.natAbs.log2 < 1900 := PySem.Flt.log2_lt_of (by decide) h
  refine ⟨?_, Nat.le_refl 0, ?_⟩
  · simp only [PyData.showable, decide_eq_true_eq]; omega
  · have e := int_text_length_le (k := 1900) (by decide) hl
    show (Str.ofString (toString i)).length ≤ 2000
    rw [PySem.ofString_length]; omega
theorem Sm.bool (b : Bool) : Sm (.bool b) 0 10 := ⟨rfl, Nat.le_refl 0, by cases b <;> decide +kernel⟩
theorem Sm.none : Sm .none 0 10 := ⟨rfl, Nat.le_refl 0, by decide +kernel⟩
theorem Sm.str {x : Str} {n : Nat} (h : x.length ≤ n) (hc : ∀ c ∈ x.cps.toList, c < 16 ^ 8) : Sm (.str x) 0 (10 * n + 2) := ⟨rfl, Nat.le_refl 0, by
  have e := PySem.StrLaws.reprText_len x hc
  show (reprText x).length ≤ _
  omega⟩
theorem SmAll.nil : SmAll [] 0 0 0 := ⟨rfl, Nat.le_refl 0, Nat.le_refl 0, Nat.le_refl 0⟩
theorem SmAll.cons {d : PyData} {ds : List PyData} {dp dp' n N M : Nat} (h : Sm d dp N) (t : SmAll ds dp' n M) : SmAll (d :: ds) (max dp dp') (n + 1) (N + M) := by
  have h1 := h.dp
  have h2 := t.dp
  refine ⟨by simp [PyData.showableAll, h.ok, t.ok], ?_, by have := t.len; simp; omega, ?_⟩
  · simp only [PyData.depthAll]; omega
  · have := h.sz
    have := t.sz
    simp only [PyData.shownAll, List.map_cons, List.sum_cons]; omega
theorem Sm.tup {ds : List PyData} {dp n N : Nat} (h : SmAll ds dp n N) : Sm (.tuple ds) (dp + 1) (N + 2 * n + 3) := by
  refine ⟨by simpa [PyData.showable] using h.ok, by simp only [PyData.depth]; have := h.dp; omega, ?_⟩
  have e := tupleText_len_le (PyData.shownAll ds)
  have := h.sz
  have := h.len
  rw [shownAll_length] at e
  show (tupleText (PyData.shownAll ds)).length ≤ _
  omega
theorem Sm.lst {ds : List PyData} {dp n N : Nat} (h : SmAll ds dp n N) : Sm (.list ds) (dp + 1) (N + 2 * n + 3) := by
  refine ⟨by simpa [PyData.showable] using h.ok, by simp only [PyData.depth]; have := h.dp; omega, ?_⟩
  have e := listText_len_le (PyData.shownAll ds)
  have := h.sz
  have := h.len
  rw [shownAll_length] at e
  show (listText (PyData.shownAll ds)).length ≤ _
  omega
theorem SmAll.many {dp N : Nat} : ∀ {ds : List PyData}, (∀ d ∈ ds, Sm d dp N) → SmAll ds dp ds.length (N * ds.length)
  | [], _ => ⟨rfl, Nat.zero_le _, Nat.le_refl 0, Nat.zero_le _⟩
  | d :: ds, h => by
    have t := SmAll.cons (h d (by simp)) (SmAll.many (fun e he => h e (List.mem_cons_of_mem _ he)))
    rw [Nat.max_self] at t
    refine ⟨t.ok, t.dp, t.len, Nat.le_trans t.sz ?_⟩
    rw [List.length_cons, Nat.mul_succ]; omega
theorem sz_0 : (0 : Nat) ≤ sizeLine := by decide
theorem sz_1 : (1 : Nat) ≤ sizeLine := by decide
theorem sz_2 : (2 : Nat) ≤ sizeLine := by decide
theorem sz_3 : (3 : Nat) ≤ sizeLine := by decide
theorem sz_4 : (4 : Nat) ≤ sizeLine := by decide
theorem sz_5 : (5 : Nat) ≤ sizeLine := by decide
/-! ### the ends: each premise a fact that k_is finds -/
theorem HasFn.mk' {K : PySem.W.Frag} {x : Str} {st : Stmt} {f : Addr} {oc : Value} {od an : Option Addr} {kV doc pm cdv ct : Value} {osl : Array (Option Value)} (a : PySem.W.nsIn K mainGlobals x = some (some (.ref f)))
    (b : K.lookup f = some ⟨oc, od, .func (PySem.W.fnOf x x (defArgs st) (defBody st) (defScope st) .none kV doc pm an cdv ct), osl⟩) (c : PySem.W.codeIn K cdv x = true) (d : PySem.W.keepIn K (.ref f) = true) : HasFn K x st :=
  ⟨f, oc, od, an, kV, doc, pm, cdv, ct, osl, a, b, c, d⟩
theorem HasInt.mk' {K : PySem.W.Frag} {x : Str} {n m : Int} {t : Tok} (a : PySem.W.nsIn K mainGlobals x = some (some (.int m t))) (e : m = n) : HasInt K x n := ⟨t, m, a, e⟩
theorem HasTup.mk' {K : PySem.W.Frag} {x : Str} {xs : List V} {a : Addr} {od : Option Addr} {its : Array Value} {n : Nat} {sl : Array (Option Value)} (h : PySem.W.nsIn K mainGlobals x = some (some (.ref a)))
    (b : K.lookup a = some ⟨.type "tuple", od, .seq its n, sl⟩) (z : its.size ≤ sizeLine) (v : Vals xs its.toList) : HasTup K x xs := ⟨a, h, od, its, n, sl, b, z, v⟩
/-! ### what the laws' helpers promise -/
/-! the digits and the place -/
def BoxAt (H : Hp) (p dl : Addr) : Prop := ∃ (ds : List Int) (k : Int), H p = some (.lst [.ref dl, .int k]) ∧ 0 ≤ k ∧ H dl = some (.lst (ds.map V.int)) ∧ ds.length ≤ 4000 ∧ ∀ d ∈ ds, 0 ≤ d ∧ d < 1000
theorem BoxAt.at_ {H : Hp} {p dl : Addr} (h : BoxAt H p dl) : ∃ xs, H p = some (.lst xs) := let ⟨_, _, a, _⟩ := h; ⟨_, a⟩
theorem BoxAt.dg {H : Hp} {p dl : Addr} (h : BoxAt H p dl) : ∃ xs, H dl = some (.lst xs) := let ⟨_, _, _, _, c, _⟩ := h; ⟨_, c⟩
def Keep (p : Addr) (H H' : Hp) : Prop := ∀ b o, H b = some o → b ≠ p → H' b = some o
def spDraw (K : PySem.W.Frag) : Sp := fun vs H Q _ => ∃ (p dl : Addr) (m : Int), vs = [.ref p, .int m] ∧ BoxAt H p dl ∧ 0 < m ∧ ∀ r H', 0 ≤ r → r < m → BoxAt H' p dl → Keep p H H' → Q (.int r) H'
def spCell (K : PySem.W.Frag) : Sp := fun vs H Q _ => ∃ (a : Addr) (ns : List Int) (i : Int), vs = [.ref a, .int i] ∧ SqL K H a (ns.map V.int) ∧ 0 ≤ i ∧ ∀ r, Q (.int r) H
def DigAt (H0 H : Hp) (dl : Addr) (n : Nat) : Prop := ∃ ds : List Int, H dl = some (.lst (ds.map V.int)) ∧ ds.length ≤ n ∧ (∀ d ∈ ds, 0 ≤ d ∧ d < 1000) ∧ Same H0 H
theorem DigAt.mono {H0 H : Hp} {dl : Addr} {n m : Nat} (h : DigAt H0 H dl n) (l : n ≤ m) : DigAt H0 H dl m := let ⟨ds, a, b, c, d⟩ := h; ⟨ds, a, by omega, c, d⟩
theorem DigAt.add {H0 H : Hp} {dl : Addr} {n : Nat} {r : Int} {xs : List V} (h : DigAt H0 H dl n) (hx : H dl = some (.lst xs)) (nd : H0 dl = none) (h0 : 0 ≤ r) (h1 : r < 1000) : DigAt H0 (upd H dl (.lst (xs ++ [.int r]))) dl (n + 1) := by
  obtain ⟨ds, a, b, c, d⟩ := h
  rw [hx] at a
  obtain rfl := HO.lst.inj (Option.some.inj a)
  refine ⟨ds ++ [r], by rw [upd_same, List.map_append]; rfl, by simp; omega, fun z hz => ?_, fun q o e => by rw [upd_ne (ne_of_none e nd)]; exact d q o e⟩
  rcases List.mem_append.mp hz with hz | hz
  · exact c z hz
  · have : z = r := by simpa using hz
    omega
def spDigits (K : PySem.W.Frag) : Sp := fun vs H Q _ => ∃ (a : Addr) (ns : List Int) (lo hi : Nat), vs = [.ref a, .int lo, .int hi] ∧ SqL K H a (ns.map V.int) ∧ lo ≤ hi ∧ hi ≤ 64 ∧
  ∀ (p : Addr) (H' : Hp), H p = none → DigAt H H' p 4000 → Q (.ref p) H'
def spBound : Sp := fun vs H Q _ => vs = [] ∧ Q (.int (2 ^ 256)) H
theorem Keep.trans {p : Addr} {H H1 H2 : Hp} (a : Keep p H H1) (b : Keep p H1 H2) : Keep p H H2 := fun c o h ne => b c o (a c o h ne) ne
theorem Keep.refl (p : Addr) (H : Hp) : Keep p H H := fun _ _ h _ => h
def Sgn (z : Int) : Prop := z = 1 ∨ z = -1
theorem Sgn.mul {z n : Int} (h : Sgn z) : (z * n).natAbs = n.natAbs := by
  rcases h with rfl | rfl <;> omega
theorem Sgn.wide {z n : Int} (h : Sgn z) (hn : n.natAbs < 2 ^ 300) : CMulW z n := wide_mul (a := 2) (b := 300) (by rcases h with rfl | rfl <;> decide) hn (by decide) (by decide) (by decide)
def spNumber (K : PySem.W.Frag) : Sp := fun vs H Q _ => ∃ (p dl : Addr), vs = [.ref p] ∧ BoxAt H p dl ∧ ∀ (n : Int) H', n.natAbs < 2 ^ 260 → BoxAt H' p dl → Keep p H H' → Q (.int n) H'
def spSame (K : PySem.W.Frag) : Sp := fun vs H Q _ => ∃ (x y : V) (d : PyData), vs = [x, y] ∧ Dp K H x d ∧ Dp K H y d ∧ ShowOk d ∧ Q (.bl true) H
theorem Same.keep {p : Addr} {H H' : Hp} (e : Same H H') : Keep p H H' := fun b o h _ => e b o h
theorem BoxAt.same {p dl : Addr} {H H' : Hp} (h : BoxAt H p dl) (e : Same H H') : BoxAt H' p dl := by
  obtain ⟨ds, k, a, b, c, d⟩ := h
  exact ⟨ds, k, e _ _ a, b, e _ _ c, d⟩
theorem BoxAt.upd {p dl l : Addr} {H : Hp} {o : HO} (h : BoxAt H p dl) (h1 : l ≠ p) (h2 : l ≠ dl) : BoxAt (L2.upd H l o) p dl := by
  obtain ⟨ds, k, a, b, c, d⟩ := h
  exact ⟨ds, k, by rw [upd_ne (Ne.symm h1)]; exact a, b, by rw [upd_ne (Ne.symm h2)]; exact c, d⟩
theorem strOk (s : Str) (h : s.cps.toList.all (fun c => decide (c < 16 ^ 8)) = true) : ∀ c ∈ s.cps.toList, c < 16 ^ 8 := fun c hc => of_decide_eq_true (List.all_eq_true.mp h c hc)

/-! ### data without lists: what no change of a list can reach -/
mutual
inductive Dt (K : PySem.W.Frag) (H : Hp) : V → PyData → Prop
  | non : Dt K H .non .none
  | bl (b : Bool) : Dt K H (.bl b) (.bool b)
  | int (i : Int) : Dt K H (.int i) (.int i)
  | str (x : Str) : Dt K H (.str x) (.str x)
  | tup {a : Addr} {xs : List V} {ds : List PyData} : SqT K H a xs → DtAll K H xs ds → Dt K H (.ref a) (.tuple ds)
inductive DtAll (K : PySem.W.Frag) (H : Hp) : List V → List PyData → Prop
  | nil : DtAll K H [] []
  | cons {v : V} {vs : List V} {d : PyData} {ds : List PyData} : Dt K H v d → DtAll K H vs ds → DtAll K H (v :: vs) (d :: ds)
end
mutual
theorem Dt.dp {K : PySem.W.Frag} {H : Hp} : ∀ {v : V} {d : PyData}, Dt K H v d → Dp K H v d
  | _, _, .non => .non
  | _, _, .bl b => .bl b
  | _, _, .int i => .int i
  | _, _, .str x => .str x
  | _, _, .tup h a => .tup h (DtAll.dp a)
theorem DtAll.dp {K : PySem.W.Frag} {H : Hp} : ∀ {vs : List V} {ds : List PyData}, DtAll K H vs ds → DpAll K H vs ds
  | _, _, .nil => .nil
  | _, _, .cons h a => .cons (Dt.dp h) (DtAll.dp a)
end
/-- every tuple that H reads H' reads as well -/
def KeepT (K : PySem.W.Frag) (H H' : Hp) : Prop := ∀ a xs, SqT K H a xs → SqT K H' a xs
mutual
theorem Dt.keepT {K : PySem.W.Frag} {H H' : Hp} (e : KeepT K H H') : ∀ {v : V} {d : PyData}, Dt K H v d → Dt K H' v d
  | _, _, .non => .non
  | _, _, .bl b => .bl b
  | _, _, .int i => .int i
  | _, _, .str x => .str x
  | _, _, .tup h a => .tup (e _ _ h) (DtAll.keepT e a)
theorem DtAll.keepT {K : PySem.W.Frag} {H H' : Hp} (e : KeepT K H H') : ∀ {vs : List V} {ds : List PyData}, DtAll K H vs ds → DtAll K H' vs ds
  | _, _, .nil => .nil
  | _, _, .cons h a => .cons (Dt.keepT e h) (DtAll.keepT e a)
end
theorem KeepT.refl (K : PySem.W.Frag) (H : Hp) : KeepT K H H := fun _ _ h => h
theorem KeepT.trans {K : PySem.W.Frag} {H H1 H2 : Hp} (a : KeepT K H H1) (b : KeepT K H1 H2) : KeepT K H H2 := fun c xs h => b c xs (a c xs h)
theorem Same.keepT {K : PySem.W.Frag} {H H' : Hp} (e : Same H H') : KeepT K H H' := fun _ _ h => Same.tupl e h
theorem Keep.keepT {K : PySem.W.Frag} {p : Addr} {H H' : Hp} (e : Keep p H H') (hp : ∃ xs, H p = some (.lst xs)) : KeepT K H H' := fun a xs h => by
  obtain ⟨ys, hp⟩ := hp
  rcases h with (h | ⟨o, h⟩) | h
  · exact .inl (.inl (e _ _ h (ne_of h hp (by intro z; cases z))))
  · exact .inl (.inr ⟨o, e _ _ h (ne_of h hp (by intro z; cases z))⟩)
  · exact .inr h
theorem KeepT.upd {K : PySem.W.Frag} {p : Addr} {H : Hp} {o : HO} {xs : List V} (hp : H p = some (.lst xs)) : KeepT K H (upd H p o) :=
  Keep.keepT (p := p) (fun b u e hb => by rw [upd_ne hb]; exact e) ⟨xs, hp⟩
theorem Dt.mono {K : PySem.W.Frag} {H H' : Hp} {v : V} {d : PyData} (e : Same H H') (h : Dt K H v d) : Dt K H' v d := h.keepT (Same.keepT e)
theorem DtAll.mono {K : PySem.W.Frag} {H H' : Hp} {v : List V} {d : List PyData} (e : Same H H') (h : DtAll K H v d) : DtAll K H' v d := h.keepT (Same.keepT e)
theorem Dt.made {K : PySem.W.Frag} {H : Hp} {p : Addr} {xs : List V} {ds : List PyData} (hp : H p = none) (h : DtAll K H xs ds) : Dt K (L2.upd H p (.tup xs)) (.ref p) (.tuple ds) := .tup (SqT.of upd_same) (DtAll.mono (Same.new hp) h)
theorem DtAll.length {K : PySem.W.Frag} {H : Hp} {vs : List V} {ds : List PyData} (h : DtAll K H vs ds) : vs.length = ds.length := LK.DpAll.length h.dp
theorem DtAll.app {K : PySem.W.Frag} {H : Hp} : ∀ {vs ws : List V} {ds es : List PyData}, DtAll K H vs ds → DtAll K H ws es → DtAll K H (vs ++ ws) (ds ++ es)
  | _, _, _, _, .nil, t => t
  | _, _, _, _, .cons h a, t => .cons h (DtAll.app a t)
theorem DtAll.get {K : PySem.W.Frag} {H : Hp} : ∀ {vs : List V} {ds : List PyData} {i : Nat} {d : PyData}, DtAll K H vs ds → ds[i]? = some d → ∃ v, vs[i]? = some v ∧ Dt K H v d
  | _, _, 0, _, .cons h _, e => ⟨_, rfl, Option.some.inj e ▸ h⟩
  | _, _, i + 1, _, .cons _ a, e => DtAll.get (i := i) a e
theorem DtAll.getV {K : PySem.W.Frag} {H : Hp} : ∀ {vs : List V} {ds : List PyData} {i : Nat} {v : V}, DtAll K H vs ds → vs[i]? = some v → ∃ d, ds[i]? = some d ∧ Dt K H v d
  | _, _, 0, _, .cons h _, e => ⟨_, rfl, Option.some.inj e ▸ h⟩
  | _, _, i + 1, _, .cons _ a, e => DtAll.getV (i := i) a e
theorem Dt.tuple_inv {K : PySem.W.Frag} {H : Hp} {v : V} {ds : List PyData} (h : Dt K H v (.tuple ds)) : ∃ a xs, v = .ref a ∧ SqT K H a xs ∧ DtAll K H xs ds := by
  cases h with
  | tup h a => exact ⟨_, _, rfl, h, a⟩
theorem DtAll.cons_inv {K : PySem.W.Frag} {H : Hp} {vs : List V} {d : PyData} {ds : List PyData} (h : DtAll K H vs (d :: ds)) : ∃ v ws, vs = v :: ws ∧ Dt K H v d ∧ DtAll K H ws ds := by
  cases h with
  | cons h a => exact ⟨_, _, rfl, h, a⟩
theorem DtAll.nil_inv {K : PySem.W.Frag} {H : Hp} {vs : List V} (h : DtAll K H vs []) : vs = [] := by cases h; rfl
theorem Dt.int_inv {K : PySem.W.Frag} {H : Hp} {v : V} {i : Int} (h : Dt K H v (.int i)) : v = .int i := by cases h; rfl
theorem Dt.str_inv {K : PySem.W.Frag} {H : Hp} {v : V} {x : Str} (h : Dt K H v (.str x)) : v = .str x := by cases h; rfl
theorem Dt.bool_inv {K : PySem.W.Frag} {H : Hp} {v : V} {b : Bool} (h : Dt K H v (.bool b)) : v = .bl b := by cases h; rfl
theorem dtStrs {K : PySem.W.Frag} {H : Hp} : ∀ xs : List Str, DtAll K H (xs.map V.str) (xs.map PyData.str)
  | [] => .nil
  | x :: xs => .cons (.str x) (dtStrs xs)
end LK

set_option Elab.async false
set_option linter.all false
set_option maxRecDepth 100000
set_option maxHeartbeats 4000000
/-! enumerate of a tuple. -/
namespace LK
open PySem PySem.Spec PyProof.Rows L2
open AutoSeq1 (wpAny_loadPart')
open Sem (wp)
def enumObj (it : Addr) : Obj := { cls := .type "enumerate", data := .fields #[.none, .bool false, .ref it, rawInt 0, .none, .none] }
def tupIt (t : Addr) : Obj := { cls := .type "tuple_iterator", data := .fields #[.ref t, .int 0 0] }
theorem meets_enumT (t : Addr) (items : Array Value) (n : Nat) (dct : Option Addr) (sl : Array (Option Value)) :
    Meets (Builtin.«enumerate.__new__» ⟨[.type "enumerate", .ref t], []⟩) (fun _ R s => s.heap.get? t = some { cls := .type "tuple", dict := dct, data := .seq items n, slots := sl } ∧
      R (.ok (.ret (.ref (s.heap.push (tupIt t)).objs.size))) { s with heap := (s.heap.push (tupIt t)).push (enumObj s.heap.objs.size) }) :=
  .of_wp fun prog w A R s h => by
    obtain ⟨hp, g, d, tk, os⟩ := s
    obtain ⟨hl, h⟩ := h
    have hsub := sub_enumerate
    have hT : Heap.IsTuple (Shared.heap ⟨hp, g, d, tk, os⟩) t items := ⟨_, hl, rfl, n, rfl⟩
    wp_walk using wpAny_loadPart' hl
    refine wpAny_stack_any fun st => wpAny_pure ?_
    split
    · rename_i c _ _ _ _ _
      cases (c == Value.type "enumerate") <;> (wp_walk using wpAny_loadPart' hl, wpAny_pyIter_tuple hT; exact ⟨_, rfl, h⟩)
    · wp_walk using wpAny_loadPart' hl, wpAny_pyIter_tuple hT
      exact ⟨_, rfl, h⟩
section
variable {prog : Program} {w : World} {A : Around} {E : Value → Shared → Prop} {s : Shared}
theorem call_enumT {t : Addr} {items : Array Value} {Q : Value → Shared → Prop} (hT : s.heap.IsTuple t items)
    (h : ∀ h', IsEnum h' (s.heap.objs.size + 1) s.heap.objs.size 0 .none → h'.IsTupleIter s.heap.objs.size t 0 → (∀ b o, s.heap.get? b = some o → h'.get? b = some o) → Q (.ref (s.heap.objs.size + 1)) { s with heap := h' }) :
    wpAny (model prog w) A (call (.type "enumerate") [.ref t]) Q E s := by
  obtain ⟨⟨c, dct, dt, sl⟩, hl, hc, n, hd⟩ := hT
  obtain rfl : c = .type "tuple" := hc
  obtain rfl : dt = .seq items n := hd
  refine callType_new F.called_enumerate (by decide) (F.typeCall_enumerate_1 _) (F.newCall_enumerate_1 _) (fun obj => F.args_object_init_2 obj _) F.entry_enumerate_new (meets_enumT t items n dct sl) ⟨hl, ?_⟩
  have hz : (s.heap.push (tupIt t)).objs.size = s.heap.objs.size + 1 := Heap.size_push ..
  have he : IsEnum ((s.heap.push (tupIt t)).push (enumObj s.heap.objs.size)) (s.heap.objs.size + 1) s.heap.objs.size 0 .none := by
    have q := Heap.get?_push_size (s.heap.push (tupIt t)) (o := enumObj s.heap.objs.size) rfl
    rw [hz] at q
    exact q
  show _ ∧ _
  rw [hz]
  exact ⟨⟨_, he, rfl⟩, h _ he (Heap.get?_push_of_some _ (Heap.get?_push_size _ rfl) |> fun q => ⟨_, q, rfl, rfl⟩) fun b o x => Heap.get?_push_of_some _ (Heap.get?_push_of_some _ x)⟩
end
/-- the tuple at a, each item in a new pair with its place -/
def IteT (K : PySem.W.Frag) (a : Addr) : It where
  go := fun i H => ∃ (xs : List V) (x : V), SqT K H a xs ∧ xs[i]? = some x
  yld := fun i H v H' => ∃ T x, v = .ref T ∧ H T = none ∧ H' = upd H T (.tup [.int (i : Nat), x]) ∧ ∀ xs, SqT K H a xs → xs[i]? = some x
  stop := fun i H => ∃ xs : List V, SqT K H a xs ∧ xs.length = i
theorem turn_enumT {P : Program} {w : World} {K : PySem.W.Frag} {elts : List Expr} {kk : Nat} {tpos : Pos} (a e it : Addr) :
    Turn P w K (.Tuple elts kk tpos) (IteT K a) [e, it] e (fun i h => (∃ old, IsEnum h e it ((i : Nat) : Int) old) ∧ h.IsTupleIter it a i ∧ e ≠ it) where
  mem := List.mem_cons_self
  obj := fun i h st b hb => by
    obtain ⟨⟨old, he⟩, ⟨o, ho, hc, hd⟩, _⟩ := st
    have hb : b = e ∨ b = it := by simpa using hb
    rcases hb with rfl | rfl
    · exact ⟨_, he, fun v q => nomatch q⟩
    · exact ⟨o, ho, fun v q => by rw [hd] at q; cases q⟩
  keep := fun i h h' st k => by
    obtain ⟨⟨old, he⟩, hi, hne⟩ := st
    exact ⟨⟨old, k e (by simp) _ he⟩, hi.at fun o q => k it (by simp) o q, hne⟩
  item := by
    intro X hP hw hK hc i pins s σ H E I hf st hg
    subst hP hw hK
    obtain ⟨⟨old, he⟩, hit, hne⟩ := st
    obtain ⟨xs, x, hq, hx⟩ := hg
    obtain ⟨its, rv, p, hz⟩ := I.tuple hq
    obtain ⟨u, hu, ru⟩ := rv.get hx
    have hel : e < s.heap.objs.size := Heap.lt_size he
    have hil : it < s.heap.objs.size := by obtain ⟨_, q, _⟩ := hit; exact Heap.lt_size q
    have hat : a ≠ it := by
      intro z
      subst z
      obtain ⟨o, q1, c1, _⟩ := hit
      obtain ⟨o', q2, c2, _⟩ := p
      rw [q1] at q2; cases q2
      exact absurd (Value.type.inj (c1.symm.trans c2)) (by decide)
    have D := Draws.tuple (prog := X.prog) (w := X.w) (A := X.A.in1) (I.ok.hd hc) it a hat its.toArray
    have Dst : (fun i (h : Heap) => h.IsTupleIter it a i ∧ h.IsTuple a its.toArray) i s.heap := ⟨hit, p⟩
    have eat : e ≠ a := by
      intro z
      subst z
      obtain ⟨o', q2, c2, _⟩ := p
      rw [he] at q2; cases q2
      exact absurd (Value.type.inj c2) (by decide)
    have hi : i < its.toArray.size := by
      have := (List.getElem?_eq_some_iff.mp hu).1
      simpa using this
    refine wpAny_pyNext_enum_itemD D he Dst hi hne (by simp [hne, eat]) fun v h' tk hv ho hst hT hsz hk => ?_
    obtain rfl : v = u := by
      have hv : its.toArray[i]? = some v := hv
      rw [show its.toArray[i]? = some u by simpa using hu] at hv
      exact (Option.some.inj hv).symm
    refine ⟨_, rfl, wpAny_letOwnedTupleGo_enum (s := { s with heap := h', toks := tk + 1 }) ho fun h'' he' sb => ?_⟩
    have hT2 := (sb.2 _ (Nat.ne_of_gt hel)).trans hT
    have new : ObjOk X.prog X.w (upd H s.heap.objs.size (.tup [.int (i : Nat), x])) h'' s.heap.objs.size (.tup [.int (i : Nat), x]) :=
      ⟨by show 2 ≤ sizeLine; decide, [.int i tk, v], .cons ⟨_, rfl⟩ (.cons ru .nil), ⟨_, hT2, rfl, _, rfl⟩⟩
    have I1 : Inv X pins σ (upd H s.heap.objs.size (.tup [.int (i : Nat), x])) { s with heap := h'', toks := tk + 1 } :=
      I.turnedNew (ch := [e, it]) (fun b ob hb q => (sb.2 b (fun z => hb (by simp [z]))).trans (hk b ob (fun z => hb (by simp [z])) (fun z => hb (by simp [z])) q)) hf (Nat.le_refl _) new
    refine ⟨.ref s.heap.objs.size, _, I1, rfl, ⟨_, x, rfl, I.hok.fresh (Nat.le_refl _), rfl, fun ys hy => by rw [I.tuple_inj hy hq]; exact hx⟩, ⟨⟨v, ?_⟩, hst.1.at fun o q => (sb.2 it (Ne.symm hne)).trans q, hne⟩, fun b hb => ?_⟩
    · rw [show ((i + 1 : Nat) : Int) = (i : Int) + 1 by omega]
      exact he'
    · have hb' : b < s.heap.objs.size := by
        have z : b = e ∨ b = it := by simpa using hb
        rcases z with rfl | rfl <;> assumption
      rw [upd_ne (Nat.ne_of_lt hb')]
      exact (hf b hb).1
  done := by
    intro X hP hw hK hc i pins s σ H E I hf st hg
    subst hP hw hK
    obtain ⟨⟨old, he⟩, hit, hne⟩ := st
    obtain ⟨xs, hq, hx⟩ := hg
    obtain ⟨its, rv, p, hz⟩ := I.tuple hq
    obtain ⟨f0, f1, f2, f3, f4, f5⟩ := hf it (by simp)
    have hl := rv.length
    have hat : a ≠ it := by
      intro z
      subst z
      obtain ⟨o, q1, c1, _⟩ := hit
      obtain ⟨o', q2, c2, _⟩ := p
      rw [q1] at q2; cases q2
      exact absurd (Value.type.inj (c1.symm.trans c2)) (by decide)
    have D := Draws.tuple (prog := X.prog) (w := X.w) (A := X.A.in1) (I.ok.hd hc) it a hat its.toArray
    have hn : i = its.toArray.size := by simp; omega
    subst hn
    exact wpAny_pyNext_enum_endD D he ⟨hit, p⟩ fun h' eb => ⟨rfl, I.turned (t' := s.toks) (fun b o hb q => eb b o hb q) f0 f1 f3 f4 f5⟩
  self := fun A i s Q E st h => let ⟨⟨_, he⟩, _⟩ := st; wpAny_pyIter_enum he h
def iEnumT (K : PySem.W.Frag) (ta : TA) : TI := fun σ H R => ta σ H fun vs H1 => ∃ a xs, vs = [.ref a] ∧ SqT K H1 a xs ∧ R (IteT K a) H1
theorem pi_enumT {X : Cx} {e : Expr} {ta : TA} {p pos tpos : Pos} {elts : List Expr} {kk : Nat} (hg : Gl X "enumerate") (hm : X.mg "enumerate" = none) (ha : PA X [e] ta) (hs : starEach [e] X.env = [(false, eval e X.env)] := by rfl) :
    PI X (.Tuple elts kk tpos) (.Call (.Name "enumerate" p) [e] [] pos) (iEnumT X.K ta) := by
  refine ⟨fun pins s σ H R I h => ?_⟩
  refine Call_ (ld_blt I hg hm boot_enumerate (PyProof.Rows.callWith_type1 (thn (ha.run pos pins s σ H _ I h) fun us s1 ⟨vs, H1, I1, r1, q1⟩ => ?_) hs rfl))
  obtain ⟨a, xs, rfl, hq, q⟩ := q1
  cases r1 with
  | cons r rr =>
    cases rr
    cases r
    obtain ⟨its, rv, p', hz⟩ := I1.tuple hq
    refine call_enumT (show s1.heap.IsTuple a its.toArray from p') fun h' he hit hk => wpAny_pyIter_enum he ?_
    refine ⟨s1.heap.objs.size + 1, [s1.heap.objs.size + 1, s1.heap.objs.size], _, _, H1, rfl, I1.kept (t' := s1.toks) hk, turn_enumT a (s1.heap.objs.size + 1) s1.heap.objs.size, ⟨⟨.none, he⟩, hit, Nat.succ_ne_self _⟩, fun b hb => ?_, q⟩
    have hle : s1.heap.objs.size ≤ b := by
      have z : b = s1.heap.objs.size + 1 ∨ b = s1.heap.objs.size := by simpa using hb
      rcases z with rfl | rfl <;> omega
    exact I1.fpOk hle (I1.hok.fresh hle)
theorem walk_enumT {K : PySem.W.Frag} {a : Addr} {xs : List V} : Walk (IteT K a) xs.length (fun H => SqT K H a xs) (YPair (fun i => some (.int (i : Nat))) (fun i => xs[i]?)) := by
  refine ⟨fun i _ hi q => ⟨xs, xs[i], q, by simp [hi]⟩, fun _ q => ⟨xs, q, rfl⟩, fun i H v H' _ q y => ?_⟩
  obtain ⟨T, x, h1, h2, h3, h4⟩ := y
  exact ⟨T, .int (i : Nat), x, h1, h2, h3, rfl, h4 xs q⟩

/-! ### comprehensions whose items are data -/
theorem tYes_of {σ : L2.St} {H : Hp} {P R : Hp → Prop} (h : P H) : tYes σ H fun b H3 => if b = true then P H3 else R H3 := by
  show (if true = true then P H else R H)
  rw [if_pos rfl]
  exact h
/-- each turn gives data and leaves what stood; no test -/
theorem lc_dt {K : PySem.W.Frag} {J : It} {n : Nat} {G : Hp → Prop} {Y : Nat → Hp → V → Hp → Prop} (w : Walk J n G Y) {g : TG} {te : TE} {vs : List Nat} {σ : L2.St} {H : Hp} {D : Addr} {Qd : Hp → Prop} (hD : H D = none) (ds : List PyData) (hn : ds.length = n) (hz : n < sizeLine)
    (hG : ∀ H', Same H H' → G H')
    (hs : ∀ i x H1 H2 d (Nx : V → Hp → Prop), i < n → ds[i]? = some d → Same H H1 → (∃ acc, H1 D = some (.lst acc)) → Y i H1 x H2 → (∀ y H5, Same H1 H5 → Dt K H5 y d → Nx y H5) →
      g x (wipe σ vs) H2 fun σ2 H3 => wipe σ2 vs = wipe σ vs ∧ te σ2 H3 Nx)
    (hd : ∀ H' acc, Same H H' → H' D = some (.lst acc) → DtAll K H' acc ds → Qd H')
    (mono : ∀ x σ H Q Q', (∀ σ' H', Q σ' H' → Q' σ' H') → g x σ H Q → g x σ H Q') :
    ∃ W : Nat → Nat → Hp → Prop, (∃ m, W 0 m (upd H D (.lst []))) ∧ ∀ i m H, W i m H →
      (J.stop i H ∧ Qd H) ∨ (J.go i H ∧ ∃ Nx : Hp → Prop, (∀ H', Nx H' → ∃ m', m' < m ∧ W (i + 1) m' H') ∧ ∀ x H', J.yld i H x H' → g x (wipe σ vs) H' fun σ2 H2 => wipe σ2 vs = wipe σ vs ∧ tYes σ2 H2 fun b H3 =>
        if b = true then te σ2 H3 fun y H4 => ∃ acc, H4 D = some (.lst acc) ∧ acc.length < sizeLine ∧ Nx (upd H4 D (.lst (acc ++ [y]))) else Nx H3) := by
  refine lc_it w (fun i H' => ∃ acc, H' D = some (.lst acc) ∧ DtAll K H' acc (ds.take i) ∧ Same H H') ⟨[], upd_same, .nil, Same.new hD⟩ (fun i H' _ h => let ⟨_, _, _, s⟩ := h; hG H' s) (fun i x H1 H2 hi h y => ?_) fun H' h => ?_
  · obtain ⟨acc, a1, a2, a3⟩ := h
    have hi' : i < ds.length := by omega
    have hg := hs i x H1 H2 ds[i] (fun y H4 => ∃ acc, H4 D = some (.lst acc) ∧ acc.length < sizeLine ∧ ∃ acc', upd H4 D (.lst (acc ++ [y])) D = some (.lst acc') ∧ DtAll K (upd H4 D (.lst (acc ++ [y]))) acc' (ds.take (i + 1)) ∧ Same H (upd H4 D (.lst (acc ++ [y]))))
      hi (List.getElem?_eq_getElem hi') a3 ⟨acc, a1⟩ y fun y H5 s hy => ?_
    · exact mono _ _ _ _ _ (fun σ2 H3 q => ⟨q.1, tYes_of q.2⟩) hg
    · have b1 := s _ _ a1
      have kt : KeepT K H5 (upd H5 D (.lst (acc ++ [y]))) := KeepT.upd b1
      refine ⟨acc, b1, ?_, _, upd_same, ?_, fun b o e => ?_⟩
      · rw [a2.length, List.length_take]; omega
      · rw [List.take_succ, List.getElem?_eq_getElem hi']
        exact DtAll.app (DtAll.keepT (KeepT.trans (Same.keepT s) kt) a2) (.cons (Dt.keepT kt hy) .nil)
      · rw [upd_ne (ne_of_none e hD)]
        exact s _ _ (a3 _ _ e)
  · obtain ⟨acc, a1, a2, a3⟩ := h
    rw [← hn, List.take_length] at a2
    exact hd H' acc a3 a1 a2
theorem mono_name {i : Nat} : ∀ x (σ : L2.St) (H : Hp) (Q Q' : L2.St → Hp → Prop), (∀ σ' H', Q σ' H' → Q' σ' H') → gName i x σ H Q → gName i x σ H Q' := fun _ _ _ _ _ h q => h _ _ q
theorem mono_tup2 {K : PySem.W.Frag} {i j n : Nat} : ∀ x (σ : L2.St) (H : Hp) (Q Q' : L2.St → Hp → Prop), (∀ σ' H', Q σ' H' → Q' σ' H') → gTup K n (gCons (gName i) (gCons (gName j) gNil)) x σ H Q → gTup K n (gCons (gName i) (gCons (gName j) gNil)) x σ H Q' := by
  rintro x σ H Q Q' h ⟨a, xs, e1, e2, e3, v, r, e4, v', r', e5, e6, q⟩
  exact ⟨a, xs, e1, e2, e3, v, r, e4, v', r', e5, e6, h _ _ q⟩
end LK

set_option Elab.async false
set_option linter.all false
set_option maxRecDepth 100000
set_option maxHeartbeats 4000000
set_option exponentiation.threshold 3000
/-! More rules: text * int, two rules at one place, what == says of data. -/
namespace LK
open PySem PySem.Spec PyProof.Rows L2
theorem at_of' {α : Type} {xs : List α} {z : Int} {j : Nat} {v : α} (e : z = (j : Int)) (h : xs[j]? = some v) : atI xs z = some v := by
  rw [e]
  exact atI_nat h
/-- z repeated k times, by its codes -/
def repC (z : List Nat) (k : Int) : List Nat := (List.replicate k.toNat z).flatten
def repS (z : Str) (k : Int) : Str := ⟨(repC z.cps.toList k).toArray⟩
theorem repC_length (z : List Nat) (k : Int) : (repC z k).length = k.toNat * z.length := by simp [repC]
theorem foldl_arr (z : Array Nat) : ∀ (n : Nat) (acc : Array Nat), (List.replicate n z).foldl (· ++ ·) acc = acc ++ (List.replicate n z.toList).flatten.toArray
  | 0, acc => by simp
  | n + 1, acc => by
    rw [List.replicate_succ, List.foldl_cons, foldl_arr z n, List.replicate_succ, List.flatten_cons]
    apply Array.ext'
    simp
def rRepS : R2 := fun x y H Q => ∃ (z : Str) (k : Int), x = .str z ∧ y = .int k ∧ -1000000000000 ≤ k ∧ k < 1000000000000 ∧ z.length * k.toNat ≤ 1000000 ∧ Q (.str (repS z k)) H
theorem repS_arr (z : Str) (k : Int) : (⟨(List.replicate k.toNat z.cps).foldl (· ++ ·) #[]⟩ : Str) = repS z k := by
  rw [foldl_arr]
  simp [repS, repC]
theorem op_rep_str {X : Cx} : OpR X (binaryOp .Mult) rRepS := by
  intro pins s σ H x y v u Q I rx ry h
  obtain ⟨z, k, rfl, rfl, h1, h2, h3, q⟩ := h
  obtain ⟨t, rfl⟩ := rx
  obtain ⟨t', rfl⟩ := ry
  have szl : (1000000 : Nat) ≤ sizeLine := by decide
  have e1 : ¬ k < 1 → k = (k.toNat : Int) := fun h => by omega
  refine PySem.P.mul_str ?_ (fun hk hz => ?_) (fun hk hz => ?_) ?_
  · rw [decide_eq_false (by omega), decide_eq_false (by omega)]; rfl
  · have e0 : z.length ≠ 0 := fun e => by rw [e] at hz; simp at hz
    have hd : (9223372036854775807 : Int) / k ≥ 1000000 := by
      apply Int.le_ediv_of_mul_le (by omega)
      have hlen : k.toNat ≤ 1000000 := Nat.le_trans (Nat.le_mul_of_pos_left _ (by omega)) h3
      omega
    have hl : z.length ≤ 1000000 := Nat.le_trans (Nat.le_mul_of_pos_right _ (by omega)) h3
    show ¬ ((z.length : Int) > 9223372036854775807 / k)
    omega
  · unfold Builtin.Str.tooLong
    simp
    omega
  · split
    · rename_i hk
      have e : repS z k = Str.empty := by
        have : k.toNat = 0 := by omega
        simp [repS, repC, this]; rfl
      refine ⟨by decide, .str _, H, I.tok _, ⟨_, rfl⟩, ?_⟩
      rw [← e]; exact q
    · rename_i hk
      split
      · rename_i hz
        have e : repS z k = z := by
          rcases Bool.or_eq_true_iff.mp hz with h | h
          · have : k = 1 := by simpa using h
            subst this
            simp [repS, repC]
          · have : z.cps.toList = [] := by
              have : z.cps.size = 0 := by simpa [Str.length] using h
              exact List.eq_nil_of_length_eq_zero (by simpa using this)
            have e2 : (List.replicate k.toNat ([] : List Nat)).flatten = [] := by simp
            unfold repS repC
            rw [this, e2]
            cases z with
            | mk c =>
              have : c = #[] := Array.toList_inj.mp (by simpa using this)
              subst this; rfl
        refine ⟨.str _, H, I, ⟨t, rfl⟩, ?_⟩
        rw [← e]; exact q
      · rw [repS_arr]
        refine ⟨?_, .str _, H, I.tok _, ⟨_, rfl⟩, q⟩
        show (repC z.cps.toList k).toArray.size ≤ sizeLine
        rw [List.size_toArray, repC_length]
        have : z.cps.toList.length = z.length := by simp [Str.length]
        rw [this, Nat.mul_comm]; omega
/-! ### the objects at the beginning -/
def clsNames : List Str := ["Exception", "ArithmeticError", "ZeroDivisionError", "OverflowError", "LookupError", "IndexError", "KeyError", "NameError", "AttributeError", "TypeError", "ValueError", "StopIteration", "RuntimeError", "RecursionError", "MemoryError", "HostError"]
def clsBases : List Int := [-1, 1, 2, 2, 1, 5, 5, 1, 1, 1, 1, 1, 1, 13, 1, 1]
def builtNames : List Str := ["print", "len", "range", "repr", "str", "int", "list", "tuple", "dict", "iter", "next", "isinstance", "abs"]
def clsVar (i : Nat) (n : Str) : PyData := .tuple [.str n, .tuple [.str "ref", .int ((i : Int) + 1)]]
def nameVar (k n : Str) : PyData := .tuple [.str n, .tuple [.str k, .str n]]
def clsObj (n : Str) (b : Int) : PyData := .tuple [.str "class", .str n, .int b, .tuple []]
def clsVars : List PyData := clsNames.mapIdx clsVar
def startVars (hs : List Str) : List PyData := clsVars ++ builtNames.map (nameVar "built") ++ hs.map (nameVar "host")
def startD (hs : List Str) : List PyData := .tuple [.str "scope", .tuple (startVars hs), .tuple [], .tuple [], .int (-1), .bool false] :: List.zipWith clsObj clsNames clsBases
/-- a list at p, of the data ds -/
def ListAt (K : PySem.W.Frag) (H : Hp) (p : Addr) (ds : List PyData) : Prop := ∃ xs, H p = some (.lst xs) ∧ DtAll K H xs ds
def spStart (K : PySem.W.Frag) : Sp := fun vs H Q _ => ∃ (t : Addr) (hs : List Str), vs = [.ref t] ∧ SqT K H t (hs.map V.str) ∧ hs.length ≤ 1000 ∧
  ∀ (p : Addr) (H' : Hp), H p = none → Same H H' → ListAt K H' p (startD hs) → Q (.ref p) H'
theorem at0 {α : Type} {x : α} {ws : List α} : atI (x :: ws) 0 = some x := at_of' (j := 0) rfl rfl
theorem at1 {α : Type} {x y : α} {ws : List α} : atI (x :: y :: ws) 1 = some y := at_of' (j := 1) rfl rfl
theorem at2 {α : Type} {x y z : α} {ws : List α} : atI (x :: y :: z :: ws) 2 = some z := at_of' (j := 2) rfl rfl
/-- a written pair, triple as it is read -/
theorem Dt.head {K : PySem.W.Frag} {H : Hp} {v : V} {z : Str} {rest : List PyData} (h : Dt K H v (.tuple (.str z :: rest))) : ∃ a ws, v = .ref a ∧ SqT K H a (.str z :: ws) ∧ DtAll K H ws rest := by
  obtain ⟨q, xs, rfl, hs, ha⟩ := h.tuple_inv
  obtain ⟨x, ws, rfl, h1, hw⟩ := ha.cons_inv
  cases h1.str_inv
  exact ⟨q, ws, rfl, hs, hw⟩
theorem Dt.pair {K : PySem.W.Frag} {H : Hp} {v : V} {z : Str} {d : PyData} (h : Dt K H v (.tuple [.str z, d])) : ∃ a x, v = .ref a ∧ SqT K H a [.str z, x] ∧ Dt K H x d := by
  obtain ⟨a, ws, rfl, hs, hw⟩ := h.head
  obtain ⟨x, ws', rfl, h1, hn⟩ := hw.cons_inv
  cases hn.nil_inv
  exact ⟨a, x, rfl, hs, h1⟩
theorem Dt.triple {K : PySem.W.Frag} {H : Hp} {v : V} {z : Str} {d e : PyData} (h : Dt K H v (.tuple [.str z, d, e])) : ∃ a x y, v = .ref a ∧ SqT K H a [.str z, x, y] ∧ Dt K H x d ∧ Dt K H y e := by
  obtain ⟨a, ws, rfl, hs, hw⟩ := h.head
  obtain ⟨x, ws', rfl, h1, hn⟩ := hw.cons_inv
  obtain ⟨y, ws'', rfl, h2, hn2⟩ := hn.cons_inv
  cases hn2.nil_inv
  exact ⟨a, x, y, rfl, hs, h1, h2⟩
theorem listAt_mono {K : PySem.W.Frag} {H H' : Hp} {p : Addr} {ds : List PyData} (h : ListAt K H p ds) (e : Same H H') : ListAt K H' p ds := by
  obtain ⟨xs, hx, ax⟩ := h
  exact ⟨xs, e _ _ hx, DtAll.mono e ax⟩
theorem eqv_nil (ds : List PyData) : PyData.eqv (.tuple ds) (.tuple []) = ds.isEmpty := by
  cases ds <;> simp [PyData.eqv, PyData.eqvAll]
theorem listAt_upd {K : PySem.W.Frag} {H : Hp} {l l' : Addr} {ds : List PyData} {xs : List V} {o : HO} (h : ListAt K H l ds) (ne : l ≠ l') (hl : H l' = some (.lst xs)) : ListAt K (upd H l' o) l ds := by
  obtain ⟨ys, hy, ay⟩ := h
  exact ⟨ys, by rw [upd_ne ne]; exact hy, DtAll.keepT (KeepT.upd hl) ay⟩
theorem listAt_app {K : PySem.W.Frag} {H : Hp} {l : Addr} {ds : List PyData} {xs : List V} {v : V} {d : PyData} (h : ListAt K H l ds) (hl : H l = some (.lst xs)) (hd : Dt K H v d) : ListAt K (upd H l (.lst (xs ++ [v]))) l (ds ++ [d]) := by
  obtain ⟨ys, hy, ay⟩ := h
  rw [hl] at hy
  obtain rfl := HO.lst.inj (Option.some.inj hy)
  exact ⟨_, upd_same, DtAll.app (DtAll.keepT (KeepT.upd hl) ay) (.cons (Dt.keepT (KeepT.upd hl) hd) .nil)⟩
theorem listAt_keep {K : PySem.W.Frag} {H H' : Hp} {l p : Addr} {ds : List PyData} (h : ListAt K H l ds) (e : Keep p H H') (ne : l ≠ p) (hp : ∃ xs, H p = some (.lst xs)) : ListAt K H' l ds := by
  obtain ⟨ys, hy, ay⟩ := h
  exact ⟨ys, e _ _ hy ne, DtAll.keepT (Keep.keepT e hp) ay⟩
theorem listAt_made {K : PySem.W.Frag} {H : Hp} {l : Addr} {xs : List V} {ds : List PyData} (hl : H l = none) (h : DtAll K H xs ds) : ListAt K (upd H l (.lst xs)) l ds := ⟨xs, upd_same, DtAll.mono (Same.new hl) h⟩
/-! how long the objects at the beginning are, shown -/
def shortS (n : Str) : Bool := decide (n.length ≤ 40) && n.cps.toList.all (fun c => decide (c < 16 ^ 8))
theorem Sm.short {n : Str} (h : shortS n = true) : Sm (.str n) 0 500 := by
  obtain ⟨h1, h2⟩ := Bool.and_eq_true_iff.mp h
  exact (Sm.str (of_decide_eq_true h1) (strOk n h2)).mono (by decide) (by decide)
theorem cls_short : ∀ n ∈ clsNames, shortS n = true := by decide +kernel
theorem built_short : ∀ n ∈ builtNames, shortS n = true := by decide +kernel
theorem Sm.nm {k n : Str} (hk : shortS k = true) (hn : shortS n = true) : Sm (nameVar k n) 3 4000 :=
  (Sm.tup (.cons (Sm.short hn) (.cons (Sm.tup (.cons (Sm.short hk) (.cons (Sm.short hn) .nil))) .nil))).mono (by decide) (by decide)
theorem Sm.cv {i : Nat} {n : Str} (hi : i < 1000) (hn : shortS n = true) : Sm (clsVar i n) 3 4000 :=
  (Sm.tup (.cons (Sm.short hn) (.cons (Sm.tup (.cons (Sm.short (n := "ref") (by decide +kernel)) (.cons (Sm.int (Nat.lt_of_lt_of_le (show ((i : Int) + 1).natAbs < 2 ^ 20 by omega) (Nat.pow_le_pow_right (by decide) (by decide)))) .nil))) .nil))).mono (by decide) (by decide)
theorem Sm.co {b : Int} {n : Str} (hb : b.natAbs < 1000) (hn : shortS n = true) : Sm (clsObj n b) 3 4000 :=
  (Sm.tup (.cons (Sm.short (n := "class") (by decide +kernel)) (.cons (Sm.short hn) (.cons (Sm.int (Nat.lt_of_lt_of_le (show b.natAbs < 2 ^ 20 by omega) (Nat.pow_le_pow_right (by decide) (by decide)))) (.cons (Sm.tup .nil) .nil))))).mono (by decide) (by decide)
theorem SmAll.mem {ds : List PyData} {dp n N m M : Nat} (h : SmAll ds dp n N) (h1 : n ≤ m) (h2 : N ≤ M) : SmAll ds dp m M := ⟨h.ok, h.dp, Nat.le_trans h.len h1, Nat.le_trans h.sz h2⟩
theorem sm_vars {hs : List Str} {L : Nat} (h : ∀ n ∈ hs, shortS n = true) (hl : hs.length ≤ L) : SmAll (startVars hs) 3 (29 + L) (4000 * (29 + L)) := by
  have h1 : ∀ d ∈ startVars hs, Sm d 3 4000 := fun d hd => by
    rcases List.mem_append.mp hd with hd | hd
    · rcases List.mem_append.mp hd with hd | hd
      · obtain ⟨i, hi, rfl⟩ := List.mem_mapIdx.mp hd
        exact Sm.cv (Nat.lt_trans hi (by decide)) (cls_short _ (List.getElem_mem hi))
      · obtain ⟨n, hn, rfl⟩ := List.mem_map.mp hd
        exact Sm.nm (by decide +kernel) (built_short n hn)
    · obtain ⟨n, hn, rfl⟩ := List.mem_map.mp hd
      exact Sm.nm (by decide +kernel) (h n hn)
  have hlen : (startVars hs).length = 29 + hs.length := by
    simp only [startVars, List.length_append, List.length_map]
    have : clsVars.length = 16 := by decide
    have : builtNames.length = 13 := by decide
    omega
  exact (SmAll.many h1).mem (by omega) (by omega)
theorem sm_start {hs : List Str} {L : Nat} (h : ∀ n ∈ hs, shortS n = true) (hl : hs.length ≤ L) : ∀ d ∈ startD hs, Sm d 5 (5000 * (30 + L)) := fun d hd => by
  rcases List.mem_cons.mp hd with rfl | hd
  · exact (Sm.tup (.cons (Sm.short (n := "scope") (by decide +kernel)) (.cons (Sm.tup (sm_vars h hl)) (.cons (Sm.tup .nil) (.cons (Sm.tup .nil) (.cons (Sm.int (by decide)) (.cons (Sm.bool false) .nil))))))).mono (by decide) (by omega)
  · have : ∃ n b, d = clsObj n b ∧ n ∈ clsNames ∧ b.natAbs < 1000 := by
      have key : ∀ q ∈ List.zip clsNames clsBases, q.1 ∈ clsNames ∧ q.2.natAbs < 1000 := by decide +kernel
      rw [← List.map_uncurry_zip_eq_zipWith] at hd
      obtain ⟨q, hq, rfl⟩ := List.mem_map.mp hd
      exact ⟨q.1, q.2, rfl, key q hq⟩
    obtain ⟨n, b, rfl, hn, hb⟩ := this
    exact (Sm.co hb (cls_short n hn)).mono (by decide) (by omega)
theorem start_cls {hs : List Str} {k : Nat} (h1 : 1 ≤ k) (h2 : k ≤ 16) : ∃ rest, (startD hs)[k]? = some (.tuple (.str "class" :: rest)) := by
  obtain ⟨j, rfl⟩ : ∃ j, k = j + 1 := ⟨k - 1, by omega⟩
  have l1 : clsNames.length = 16 := by decide
  have l2 : clsBases.length = 16 := by decide
  refine ⟨[.str clsNames[j]!, .int clsBases[j]!, .tuple []], ?_⟩
  have e1 : clsNames[j]? = some clsNames[j]! := by rw [List.getElem!_eq_getElem?_getD]; rw [List.getElem?_eq_getElem (by omega)]; rfl
  have e2 : clsBases[j]? = some clsBases[j]! := by rw [List.getElem!_eq_getElem?_getD]; rw [List.getElem?_eq_getElem (by omega)]; rfl
  show (List.zipWith clsObj clsNames clsBases)[j]? = _
  rw [List.getElem?_zipWith, e1, e2]
  rfl
end LK

set_option Elab.async false
set_option linter.all false
set_option maxRecDepth 100000
set_option maxHeartbeats 4000000
set_option exponentiation.threshold 3000
/-! tuple * 1; rows: texts or tuples at one place; the type of what is read as a tuple; data equal to itself. -/
namespace LK
open PySem PySem.Spec PyProof.Rows L2
theorem tuple_mul1 (l : Addr) (items : Array Value) (n : Nat) (dd : Option Addr) (sl : Array (Option Value)) (u : Tok) :
    Meets (Builtin.«tuple.__mul__» ⟨[.ref l, .int 1 u], []⟩) (fun _ R s => s.heap.get? l = some { cls := .type "tuple", dict := dd, data := .seq items n, slots := sl } ∧ R (.ok (.ret (Value.ref l))) s) :=
  .of_wp fun prog w A R s h => by
    obtain ⟨hp, g, d, tk, os⟩ := s
    obtain ⟨hl, h⟩ := h
    have f1 := AutoSeq1.idx_int
    have c0 : (decide ((1 : Int) < -(2 ^ 63)) || decide ((1 : Int) ≥ 2 ^ 63)) = false := by decide
    have c1 : (items.isEmpty || (1 : Int) == 1) = true := by simp
    wp_walk using wpAny_loadPart' hl
    exact ⟨_, rfl, h⟩
/-- a tuple times an int from 1 to 1000 -/
def rRepTA (K : PySem.W.Frag) : R2 := fun x y H Q => ∃ l k xs, x = .ref l ∧ y = .int k ∧ SqT K H l xs ∧ xs ≠ [] ∧ 1 ≤ k ∧ k ≤ 1000 ∧ xs.length ≤ 1000 ∧ (k = 1 → Q (.ref l) H) ∧ (k ≠ 1 → ∀ p, H p = none → Q (.ref p) (upd H p (.tup (List.replicate k.toNat xs).flatten)))
section
variable {X : Cx}
theorem op_repTA : OpR X (binaryOp .Mult) (rRepTA X.K) := by
  intro pins s σ H x y v u Q I rx ry h
  obtain ⟨l, k, xs, rfl, rfl, hT, hne, h1, h2, hz, q1, q2⟩ := h
  by_cases hk : k = 1
  · subst hk
    cases rx
    obtain ⟨t, rfl⟩ := ry
    obtain ⟨its, r, ⟨⟨cls, dd, data, sl⟩, ho, hc, n, hd⟩, hs⟩ := I.tuple hT
    simp only at hc hd
    subst hc hd
    refine wpAny_binaryOp_repeat_ref (T := "tuple") (U := "int") (by decide) ⟨_, ho, rfl⟩ (fun s' => typeIs_int s' 1 t) noFill_tuple_mul F.fills_int_mul F.slot_int_rmul repeat_tuple F.slot_int_index.lookup
      (call_meets F.slot_int_rmul (typeIs_int s 1 t) F.entry_int_rmul (F.args_int_rmul_2 _ _) (int_rmul_tuple 1 t l its.toArray n dd sl)
        ⟨ho, rfl, ⟨_, ho, rfl⟩, call_meets F.slot_tuple_mul ⟨_, ho, rfl⟩ F.entry_tuple_mul (F.args_tuple_mul_2 _ _) (tuple_mul1 l its.toArray n dd sl t) ⟨ho, ?_⟩⟩)
    exact ⟨.ref l, H, I, rfl, q1 rfl⟩
  · exact op_repT pins s σ H _ _ v u Q I rx ry ⟨l, k, xs, rfl, rfl, hT, hne, by omega, h2, hz, q2 hk⟩
end
theorem SqT.tyX {K : PySem.W.Frag} {H : Hp} {a : Addr} {xs : List V} (h : SqT K H a xs) : TyX K H (.ref a) (.type "tuple") := by
  rcases h with (h | ⟨o, h⟩) | ⟨o, its, n, e, c, _⟩
  · exact .base (.tup h)
  · exact .fTuple h
  · exact .kTuple e c
/-! ### data equal to itself -/
mutual
theorem eqv_self : ∀ {d : PyData}, d.canLay0 = true → PyData.eqv d d = true
  | .none, _ => by simp [PyData.eqv]
  | .bool _, _ => by simp [PyData.eqv]
  | .int _, _ => by simp [PyData.eqv]
  | .str _, _ => by simp [PyData.eqv]
  | .list xs, h => by rw [PyData.eqv]; exact eqvAll_self (by simpa [PyData.canLay0] using h)
  | .tuple xs, h => by rw [PyData.eqv]; exact eqvAll_self (by simpa [PyData.canLay0] using h)
  | .dict _, h => absurd h (by simp [PyData.canLay0])
theorem eqvAll_self : ∀ {xs : List PyData}, PyData.canLayAll0 xs = true → PyData.eqvAll xs xs = true
  | [], _ => by simp [PyData.eqvAll]
  | x :: xs, h => by
    rw [PyData.canLayAll0, Bool.and_eq_true] at h
    rw [PyData.eqvAll, eqv_self h.1, eqvAll_self h.2]; rfl
end
theorem canLayAll0_of {ds : List PyData} (h : ∀ d ∈ ds, d.canLay0 = true) : PyData.canLayAll0 ds = true := by
  induction ds with
  | nil => rfl
  | cons d ds ih => rw [PyData.canLayAll0, h d (by simp), ih fun e he => h e (List.mem_cons_of_mem _ he)]; rfl
theorem depthAll_of {ds : List PyData} {n : Nat} (h : ∀ d ∈ ds, d.depth ≤ n) : PyData.depthAll ds ≤ n := by
  induction ds with
  | nil => exact Nat.zero_le _
  | cons d ds ih => rw [PyData.depthAll]; exact Nat.max_le.mpr ⟨h d (by simp), ih fun e he => h e (List.mem_cons_of_mem _ he)⟩
/-! ### rows: a text, or a tuple of small ints -/
def Item (d : PyData) : Prop := ∃ i : Int, d = .tuple [.str "int", .int i] ∧ 0 ≤ i ∧ i < 11
def Low (z : Str) : Prop := ∀ c ∈ z.cps.toList, c < 128
inductive Row : Bool → PyData → Nat → Prop
  | txt {z : Str} {n : Nat} : z.length = n → Low z → Row true (.str z) n
  | tup {ds : List PyData} {n : Nat} : ds.length = n → (∀ d ∈ ds, Item d) → Row false (.tuple ds) n
def catD : PyData → PyData → PyData
  | .str a, .str b => .str (a ++ b)
  | .tuple a, .tuple b => .tuple (a ++ b)
  | a, _ => a
def repD (d : PyData) (k : Int) : PyData := match d with
  | .str a => .str (repS a k)
  | .tuple a => .tuple (List.replicate k.toNat a).flatten
  | a => a
def noneD : PyData → PyData
  | .str a => .str (cutS a none (some 0))
  | .tuple _ => .tuple []
  | a => a
theorem len_app (a b : Str) : (a ++ b).length = a.length + b.length := strLen_append a b
theorem len_rep (z : Str) (k : Int) : (repS z k).length = z.length * k.toNat := by
  show (repC z.cps.toList k).toArray.size = _
  rw [List.size_toArray, repC_length, Nat.mul_comm]
  simp [Str.length]
theorem Low.app {a b : Str} (h : Low a) (g : Low b) : Low (a ++ b) := by
  intro c hc
  have e : (a ++ b).cps.toList = a.cps.toList ++ b.cps.toList := by
    show (a.cps ++ b.cps).toList = _
    simp
  rw [e] at hc
  rcases List.mem_append.mp hc with hc | hc
  · exact h c hc
  · exact g c hc
theorem Low.rep {a : Str} (h : Low a) (k : Int) : Low (repS a k) := by
  intro c hc
  have hc : c ∈ (List.replicate k.toNat a.cps.toList).flatten := by simpa [repS, repC] using hc
  obtain ⟨l, hl, hcl⟩ := List.mem_flatten.mp hc
  exact h c (List.eq_of_mem_replicate hl ▸ hcl)
theorem Low.cut {a : Str} (h : Low a) (lo hi : Option Int) : Low (cutS a lo hi) := by
  intro c hc
  have hc : c ∈ (a.cps.toList.drop (HT.sIx a.length 0 lo)).take (HT.sIx a.length a.length hi - HT.sIx a.length 0 lo) := hc
  exact h c (List.mem_of_mem_drop (List.mem_of_mem_take hc))
theorem cut_to (a : Str) (m : Nat) : (cutS a none (some (m : Int))).length ≤ m := by
  show ((a.cps.toList.drop (HT.sIx a.length 0 none)).take (HT.sIx a.length a.length (some (m : Int)) - HT.sIx a.length 0 none)).toArray.size ≤ m
  rw [List.size_toArray, List.length_take, HT.sIx_nat]
  omega
theorem Row.cat {t : Bool} {a b : PyData} {n m : Nat} (h : Row t a n) (g : Row t b m) : Row t (catD a b) (n + m) := by
  cases h with
  | txt e l =>
    cases g with
    | txt e2 l2 => exact .txt (by rw [len_app, e, e2]) (l.app l2)
  | tup e l =>
    cases g with
    | tup e2 l2 => exact .tup (by rw [List.length_append, e, e2]) fun d hd => (List.mem_append.mp hd).elim (l d) (l2 d)
theorem Row.rep {t : Bool} {a : PyData} {n : Nat} (h : Row t a n) (k : Int) : Row t (repD a k) (n * k.toNat) := by
  cases h with
  | txt e l => exact .txt (by rw [len_rep, e]) (l.rep k)
  | tup e l =>
    refine .tup (by rw [PyProof.Rows.lm_len_rep_flat, e, Nat.mul_comm]) fun d hd => ?_
    obtain ⟨x, hx, hdx⟩ := List.mem_flatten.mp hd
    exact l d (List.eq_of_mem_replicate hx ▸ hdx)
theorem Row.none {t : Bool} {a : PyData} {n : Nat} (h : Row t a n) : Row t (noneD a) 0 := by
  cases h with
  | @txt z _ e l => exact .txt (Nat.le_zero.mp (cut_to z 0)) (l.cut _ _)
  | tup e l => exact .tup rfl fun d hd => by cases hd
theorem Item.sm {d : PyData} (h : Item d) : Sm d 1 3000 := by
  obtain ⟨i, rfl, h0, h1⟩ := h
  exact (Sm.tup (.cons (Sm.short (n := "int") (by decide +kernel)) (.cons (Sm.int (Nat.lt_of_lt_of_le (show i.natAbs < 2 ^ 20 by omega) (Nat.pow_le_pow_right (by decide) (by decide)))) .nil))).mono (by decide) (by decide)
theorem Row.sm {t : Bool} {d : PyData} {n : Nat} (h : Row t d n) (hn : n ≤ 1000) : Sm d 2 3100000 := by
  cases h with
  | txt e l => exact (Sm.str (n := 1000) (by omega) fun c hc => Nat.lt_of_lt_of_le (l c hc) (by decide)).mono (by decide) (by decide)
  | tup e l => exact (Sm.tup ((SmAll.many fun d hd => (l d hd).sm).mem (m := 1000) (M := 3000000) (by omega) (by omega))).mono (by decide) (by decide)
theorem Row.lay {t : Bool} {d : PyData} {n : Nat} (h : Row t d n) : d.canLay0 = true := by
  cases h with
  | @txt z _ e l =>
    rw [PyData.canLay0]
    exact Array.all_eq_true_iff_forall_mem.mpr fun c hc => by
      have := l c (Array.mem_toList_iff.mpr hc)
      exact decide_eq_true (by omega)
  | tup e l =>
    rw [PyData.canLay0]
    exact canLayAll0_of fun d hd => by obtain ⟨i, rfl, _⟩ := l d hd; simp only [PyData.canLay0, PyData.canLayAll0, Bool.and_true]; decide +kernel
section
variable {X : Cx}
/-- a + b, two rows -/
def rCatD (K : PySem.W.Frag) : R2 := fun x y H Q => ∃ (t : Bool) (a b : PyData) (n m : Nat), Row t a n ∧ Row t b m ∧ Dt K H x a ∧ Dt K H y b ∧ n + m ≤ 2000 ∧ ∀ v H', Same H H' → Dt K H' v (catD a b) → Q v H'
theorem op_catD : OpR X (binaryOp .Add) (rCatD X.K) := by
  intro pins s σ H x y v u Q I rx ry h
  obtain ⟨t, a, b, n, m, ha, hb, da, db, hz, q⟩ := h
  cases ha with
  | txt e l =>
    cases hb with
    | txt e2 l2 =>
      cases da.str_inv; cases db.str_inv
      exact op_add_str pins s σ H _ _ v u Q I rx ry ⟨_, _, rfl, rfl, by rw [e, e2]; exact Nat.le_trans hz (by decide), q _ _ (Same.refl _) (.str _)⟩
  | @tup ds _ e l =>
    cases hb with
    | @tup es _ e2 l2 =>
      obtain ⟨p, xs, rfl, hs, ax⟩ := da.tuple_inv
      obtain ⟨p2, ys, rfl, hs2, ay⟩ := db.tuple_inv
      have lx := ax.length
      have ly := ay.length
      refine op_catA pins s σ H _ _ v u Q I rx ry ⟨p, p2, xs, ys, rfl, rfl, hs, hs2, by rw [lx, ly, e, e2]; exact Nat.le_trans hz (by decide), fun h0 => ?_, fun _ h0 => ?_, fun _ _ z hz => ?_⟩
      · subst h0
        have : ds = [] := List.eq_nil_of_length_eq_zero (by rw [← lx]; rfl)
        subst this
        exact q _ _ (Same.refl _) db
      · subst h0
        have : es = [] := List.eq_nil_of_length_eq_zero (by rw [← ly]; rfl)
        subst this
        refine q _ _ (Same.refl _) ?_
        show Dt X.K H (.ref p) (.tuple (ds ++ []))
        rw [List.append_nil]; exact da
      · exact q _ _ (Same.new hz) (Dt.made hz (DtAll.app ax ay))
/-- a * k, a row and an int -/
def rRepD (K : PySem.W.Frag) : R2 := fun x y H Q => ∃ (t : Bool) (a : PyData) (n : Nat) (k : Int), Row t a n ∧ Dt K H x a ∧ y = .int k ∧ 1 ≤ n ∧ 1 ≤ k ∧ n * k ≤ 1000 ∧ ∀ v H', Same H H' → Dt K H' v (repD a k) → Q v H'
theorem dtRep {K : PySem.W.Frag} {H : Hp} {xs : List V} {ds : List PyData} (h : DtAll K H xs ds) : ∀ m : Nat, DtAll K H (List.replicate m xs).flatten (List.replicate m ds).flatten
  | 0 => .nil
  | m + 1 => by
    rw [List.replicate_succ, List.flatten_cons, List.replicate_succ, List.flatten_cons]
    exact DtAll.app h (dtRep h m)
theorem op_repD : OpR X (binaryOp .Mult) (rRepD X.K) := by
  intro pins s σ H x y v u Q I rx ry h
  obtain ⟨t, a, n, k, ha, da, rfl, hn, hk, hz, q⟩ := h
  have k1 : k ≤ 1000 := by
    have : 1 * k ≤ n * k := Int.mul_le_mul_of_nonneg_right (by omega) (by omega)
    omega
  have n1 : n ≤ 1000 := by
    have : (n : Int) * 1 ≤ n * k := Int.mul_le_mul_of_nonneg_left hk (by omega)
    omega
  cases ha with
  | txt e l =>
    cases da.str_inv
    refine op_rep_str pins s σ H _ _ v u Q I rx ry ⟨_, k, rfl, rfl, by omega, by omega, ?_, q _ _ (Same.refl _) (.str _)⟩
    rw [e]
    exact Nat.le_trans (Nat.mul_le_mul n1 (show k.toNat ≤ 1000 by omega)) (by decide)
  | @tup ds _ e l =>
    obtain ⟨p, xs, rfl, hs, ax⟩ := da.tuple_inv
    have lx := ax.length
    refine op_repTA pins s σ H _ _ v u Q I rx ry ⟨p, k, xs, rfl, rfl, hs, fun z => ?_, hk, k1, by omega, fun h1 => ?_, fun h1 z hz => ?_⟩
    · subst z
      rw [List.length_nil] at lx
      omega
    · subst h1
      refine q _ _ (Same.refl _) ?_
      show Dt X.K H (.ref p) (.tuple (List.replicate 1 ds).flatten)
      rw [show (List.replicate 1 ds).flatten = ds by simp]
      exact da
    · exact q _ _ (Same.new hz) (Dt.made hz (dtRep ax _))
/-- a[:0], a row -/
def rNoneD (K : PySem.W.Frag) : V → Option Int → Option Int → Hp → VK → Prop := fun x lo hi H Q => ∃ (t : Bool) (a : PyData) (n : Nat), Row t a n ∧ Dt K H x a ∧ n ≤ 2000 ∧ lo = none ∧ hi = some 0 ∧ ∀ v H', Same H H' → Dt K H' v (noneD a) → Q v H'
theorem sl_noneD : SlR X (rNoneD X.K) := by
  intro pins s σ H x v vl vu lo hi sl Q I rx hs pl pu h
  obtain ⟨t, a, n, ha, da, hn, rfl, rfl, q⟩ := h
  cases ha with
  | txt e l =>
    cases da.str_inv
    exact sl_str pins s σ H _ v vl vu _ _ sl Q I rx hs pl pu ⟨_, rfl, by rw [e]; exact Nat.le_trans hn (by decide), q _ _ (Same.refl _) (.str _)⟩
  | @tup ds _ e l =>
    obtain ⟨p, xs, rfl, hq, ax⟩ := da.tuple_inv
    have lx := ax.length
    refine sl_tupA pins s σ H _ v vl vu _ _ sl Q I rx hs pl pu ⟨p, xs, rfl, hq, fun hw => ?_, fun _ z hz => ?_⟩
    · have h0 : ds.length = 0 := by
        have := hw.2
        rw [show (some (0 : Int)) = some ((0 : Nat) : Int) from rfl, HT.sIx_nat] at this
        omega
      have := List.eq_nil_of_length_eq_zero h0
      subst this
      exact q _ _ (Same.refl _) da
    · refine q _ _ (Same.new hz) (Dt.made hz ?_)
      have : cutV xs none (some 0) = [] := by
        apply List.eq_nil_of_length_eq_zero
        unfold cutV
        rw [List.length_take, show (some (0 : Int)) = some ((0 : Nat) : Int) from rfl, HT.sIx_nat]
        omega
      rw [this]
      exact .nil
/-- len(a), a row -/
def rLenD (K : PySem.W.Frag) : List V → Hp → VK → Prop := fun vs H Q => ∃ (v : V) (t : Bool) (a : PyData) (n : Nat), vs = [v] ∧ Row t a n ∧ Dt K H v a ∧ n ≤ 2000 ∧ Q (.int (n : Int)) H
theorem call_lenD' : CallR X (.builtin "len") (rLenD X.K) := by
  intro pins s σ H xs us Q I r h
  obtain ⟨v, t, a, n, rfl, ha, da, hn, q⟩ := h
  cases ha with
  | txt e l =>
    cases da.str_inv
    exact call_len pins s σ H _ us Q I r ⟨_, n, rfl, ⟨by rw [e]; exact Nat.le_trans hn (by decide), e.symm⟩, q⟩
  | @tup ds _ e l =>
    obtain ⟨p, ys, rfl, hq, ax⟩ := da.tuple_inv
    exact call_len pins s σ H _ us Q I r ⟨_, n, rfl, .inr ⟨_, hq, by rw [ax.length, e]⟩, q⟩
end
end LK

set_option Elab.async false
set_option linter.all false
set_option maxRecDepth 100000
set_option maxHeartbeats 4000000
set_option exponentiation.threshold 3000
/-! Letters, digits, underscores; texts of the top. -/
namespace LK
open PySem PySem.Spec PyProof.Rows L2 SX
def isD (c : Nat) : Bool := decide (48 ≤ c) && decide (c ≤ 57)
def isL (c : Nat) : Bool := (decide (65 ≤ c) && decide (c ≤ 90)) || (decide (97 ≤ c) && decide (c ≤ 122)) || c == 95
def isW (c : Nat) : Bool := isD c || isL c
theorem isW_lt {c : Nat} (h : isW c = true) : c < 128 := by
  simp [isW, isD, isL] at h; omega
theorem uni_alpha : ∀ c < 128, Unicode.isAlpha c = (isL c && c != 95) := by decide +kernel
theorem uni_digit : ∀ c < 128, Unicode.isDigit c = isD c := by decide +kernel
theorem uni_alnum : ∀ c < 128, Unicode.isAlnum c = (isW c && c != 95) := by decide +kernel
theorem alpha1 {c : Nat} (h : c < 128) : Txt.isalpha (S [c]) = (isL c && c != 95) := by
  show (decide ((S [c]).length > 0) && (S [c]).cps.all Unicode.isAlpha) = _
  rw [S_len]; simp [S, uni_alpha c h]
theorem digit1 {c : Nat} (h : c < 128) : Txt.isdigit (S [c]) = isD c := by
  show (decide ((S [c]).length > 0) && (S [c]).cps.all Unicode.isDigit) = _
  rw [S_len]; simp [S, uni_digit c h]
theorem alnum1 {c : Nat} (h : c < 128) : Txt.isalnum (S [c]) = (isW c && c != 95) := by
  show (decide ((S [c]).length > 0) && (S [c]).cps.all Unicode.isAlnum) = _
  rw [S_len]; simp [S, uni_alnum c h]
theorem digitS {a : List Nat} (h : ∀ c ∈ a, c < 128) (hne : a ≠ []) : Txt.isdigit (S a) = a.all isD := by
  show (decide ((S a).length > 0) && (S a).cps.all Unicode.isDigit) = _
  have : 0 < a.length := List.length_pos_iff.mpr hne
  rw [S_len, decide_eq_true this, Bool.true_and]
  show a.toArray.all Unicode.isDigit = _
  rw [List.all_toArray]
  apply Bool.eq_iff_iff.mpr
  rw [List.all_eq_true, List.all_eq_true]
  exact ⟨fun g c hc => uni_digit c (h c hc) ▸ g c hc, fun g c hc => (uni_digit c (h c hc)).symm ▸ g c hc⟩
/-! texts of the top -/
def GStr (mg : Str → Option Value) (x : Str) (z : Str) : Prop := ∃ t, mg x = some (.str z t)
def HasStr (K : PySem.W.Frag) (x : Str) (p : Str → Prop) : Prop := ∃ (z : Str) (t : Tok), PySem.W.nsIn K mainGlobals x = some (some (.str z t)) ∧ p z
theorem HasStr.mk' {K : PySem.W.Frag} {x : Str} {p : Str → Prop} {z : Str} {t : Tok} (a : PySem.W.nsIn K mainGlobals x = some (some (.str z t))) (b : p z) : HasStr K x p := ⟨z, t, a, b⟩
theorem HasStr.g {K : PySem.W.Frag} {mg : Str → Option Value} {h : Heap} {x : Str} {p : Str → Prop} (i : HasStr K x p) (X : K.In h) (G : h.Ns mainGlobals mg) : ∃ z, GStr mg x z ∧ p z := by
  obtain ⟨z, t, e, hp⟩ := i
  exact ⟨z, ⟨t, PySem.W.mg_of X G e⟩, hp⟩
theorem pe_globS {X : Cx} {x z : Str} {pos : Pos} (h : GStr X.mg x z) (hg : Gl X x) (hd : (x == ("__debug__" : Str)) = false := by decide) : PE X (.Name x pos) (tC (.str z)) := by
  obtain ⟨t, e⟩ := h
  exact pe_glob hg e ⟨t, rfl⟩ hd
theorem split1 {a : List Nat} {c : Nat} (h : c ∉ a) (hc : c < 256) : Txt.split (S a) (S [c]) = [S a] := by
  rw [split_S (by simp) (by simpa using hc)]
  have := SX.spl_join (c := c) (sep := []) (parts := [a]) (by simp) (by simpa using h)
  have e : TL.joinL [c] [a] = a := by simp [TL.joinL]
  rw [e] at this
  rw [this]; rfl
theorem lstrip1 {a : List Nat} {b : List Nat} (h : ∀ c, a.head? = some c → c ∉ b) : Txt.lstripChars (S a) (S b) = S a := by
  have e1 : (S a).cps.toList.takeWhile (S b).cps.contains = [] := tw0 a fun c hc => by
    have := h c hc
    show b.toArray.contains c = false
    rw [List.contains_toArray]
    simpa using this
  have e0 : stripLo (S b).cps.contains true (S a) = 0 := by
    unfold stripLo
    rw [if_pos rfl, e1] <;> rfl
  have e3 : stripHi (S b).cps.contains false (S a) 0 = (S a).length := by
    unfold stripHi
    rw [if_neg Bool.false_ne_true]
  unfold Txt.lstripChars Txt.stripBy stripSame
  rw [e0, e3]
  exact if_pos (by simp)
/-! while, its test's reading made monotone -/
def tUp (c : TT) : TT := fun σ H Q => ∃ P : Bool → Hp → Prop, c σ H P ∧ ∀ b H1, P b H1 → Q b H1
theorem pt_up {X : Cx} {e : Expr} {c : TT} (h : PT X e c) : PT X e (tUp c) :=
  ⟨fun pins s σ H Q I ⟨P, hP, k⟩ => thn (h.run pins s σ H P I hP) fun b s1 ⟨H1, I1, q⟩ => ⟨H1, I1, k _ _ q⟩⟩
theorem while_up {c : TT} {tb : TS} {D : Ends} {σ : L2.St} {H : Hp} (Pv : L2.St → Hp → Prop) (μ : L2.St → Hp → Nat) (h0 : Pv σ H)
    (hs : ∀ σ H, Pv σ H → c σ H fun b H1 => if b = true then tb { D with nx := fun σ' H' => Pv σ' H' ∧ μ σ' H' < μ σ H, ct := fun σ' H' => Pv σ' H' ∧ μ σ' H' < μ σ H, bk := D.nx } σ H1 else D.nx σ H1) : tWhile (tUp c) tb D σ H :=
  while_by Pv μ h0 (fun σ H p => ⟨_, hs σ H p, fun _ _ h => h⟩) (fun σ H Q Q' hq ⟨P, hP, k⟩ => ⟨P, hP, fun b H1 h => hq b H1 (k b H1 h)⟩)
theorem nl_S : ("\n" : Str) = S [10] := by decide +kernel
theorem us_S : ("_" : Str) = S [95] := by decide +kernel
theorem sp_S : (" " : Str) = S [32] := by decide +kernel
theorem hash_S : ("#" : Str) = S [35] := by decide +kernel
theorem sign_eq {c d : Nat} : decide (V.str ⟨#[c]⟩ = V.str (S [d])) = decide (c = d) := by
  by_cases h : c = d
  · subst h; rw [decide_eq_true rfl, decide_eq_true rfl]
  · rw [decide_eq_false h, decide_eq_false]
    intro e
    have := S_inj (a := [c]) (b := [d]) (V.str.inj e)
    exact h (by simpa using this)
theorem str_eq {a b : List Nat} : decide (V.str (S a) = V.str (S b)) = decide (a = b) := by
  by_cases h : a = b
  · subst h; rw [decide_eq_true rfl, decide_eq_true rfl]
  · rw [decide_eq_false h, decide_eq_false]
    intro e
    exact h (S_inj (V.str.inj e))
theorem starts1 {c d : Nat} {r : List Nat} : Txt.startswith (S (c :: r)) (S [d]) = decide (c = d) := by
  show (decide (0 + (S [d]).length ≤ (S (c :: r)).length) && ((c :: r).toArray.extract 0 (0 + (S [d]).length) == [d].toArray)) = _
  rw [S_len, S_len]
  have e : (c :: r).toArray.extract 0 (0 + [d].length) = #[c] := by simp
  rw [e]
  by_cases h : c = d
  · subst h; simp
  · simp [h]
theorem at_S {a : List Nat} {j c : Nat} (h : a[j]? = some c) : atI (S a).cps.toList (j : Int) = some c := atI_nat h
theorem cut_all {a : List Nat} : cutS (S a) (some 0) (some ((a.length : Nat) : Int)) = S a := by
  unfold cutS
  rw [S_len, show (some (0 : Int)) = some ((0 : Nat) : Int) from rfl, HT.sIx_nat, HT.sIx_nat]
  show (⟨((a.drop (min 0 a.length)).take (min a.length a.length - min 0 a.length)).toArray⟩ : Str) = ⟨a.toArray⟩
  rw [Nat.zero_min, List.drop_zero, Nat.min_self, Nat.sub_zero, List.take_length]
/-! a promise at a higher level -/
theorem FnG.mono {P : Program} {w : World} {K : PySem.W.Frag} {mg : Str → Option Value} {base : Heap} {CX : CXT} {j k : Nat} {f : Addr} {fd : FuncData} {ps : List Str} {sp : Sp} (F : FnG P w K mg base CX j f fd ps sp) (h : j ≤ k) : FnG P w K mg base CX k f fd ps sp :=
  ⟨F.len, fun A outer s H args us vs Q E hr => F.run A outer s H args us vs Q E (hr.mono h)⟩
theorem Use.mono {P : Program} {w : World} {K : PySem.W.Frag} {mg : Str → Option Value} {base : Heap} {CX : CXT} {x : Str} {j k : Nat} {ps : List Str} {sp : Sp} (U : Use P w K mg base CX x j ps sp) (h : j ≤ k) : Use P w K mg base CX x k ps sp := by
  obtain ⟨f, fd, ok, r⟩ := U.ex
  exact ⟨f, fd, ok.mono h, r⟩
/-! the signs that a program may hold -/
def okC (c : Nat) : Bool := c == 10 || (decide (32 ≤ c) && decide (c ≤ 126) && c != 37)
theorem okC_lt {c : Nat} (h : okC c = true) : c < 128 := by
  simp [okC] at h; omega
theorem lstrip_sp (a : List Nat) : Txt.lstripChars (S a) (S [32]) = S (a.dropWhile (· == 32)) := by
  have e1 : (S a).cps.toList.takeWhile (S [32]).cps.contains = a.takeWhile (· == 32) := by
    show a.takeWhile _ = _
    congr 1
    funext c
    show #[32].contains c = _
    simp [Array.contains, BEq.comm]
  have el : (a.takeWhile (· == 32)).length ≤ a.length := (List.takeWhile_prefix _).length_le
  have ed : a.drop (a.takeWhile (· == 32)).length = a.dropWhile (· == 32) := by
    have h := List.takeWhile_append_dropWhile (p := (· == 32)) (l := a)
    have : (a.takeWhile (· == 32) ++ a.dropWhile (· == 32)).drop (a.takeWhile (· == 32)).length = a.dropWhile (· == 32) := List.drop_left
    rwa [h] at this
  have e0 : stripLo (S [32]).cps.contains true (S a) = (a.takeWhile (· == 32)).length := by
    unfold stripLo
    rw [if_pos rfl, e1] <;> rfl
  have e3 : stripHi (S [32]).cps.contains false (S a) (a.takeWhile (· == 32)).length = (S a).length := by
    unfold stripHi
    rw [if_neg Bool.false_ne_true]
  unfold Txt.lstripChars Txt.stripBy stripSame stripped
  rw [e0, e3]
  split
  · rename_i h
    simp at h
    have : (a.takeWhile (· == 32)).length = 0 := by simpa using h
    rw [this, List.drop_zero] at ed
    rw [← ed]
  · show (⟨a.toArray.extract (a.takeWhile (· == 32)).length (S a).length⟩ : Str) = _
    rw [S_len, ← ed]
    congr 1
    apply Array.toList_inj.mp
    simp only [Array.toList_extract, List.extract_eq_drop_take]
    exact List.take_of_length_le (by rw [List.length_drop]; omega)
/-- z[i:j] by codes -/
theorem cut_S {a : List Nat} {i j : Nat} (hi : i ≤ a.length) (hj : j ≤ a.length) : cutS (S a) (some ((i : Nat) : Int)) (some ((j : Nat) : Int)) = S ((a.drop i).take (j - i)) := by
  unfold cutS
  rw [S_len, HT.sIx_nat, HT.sIx_nat, Nat.min_eq_left hi, Nat.min_eq_left hj]
/-- a line: so many spaces, and perhaps a word -/
def lnT (s : Nat) (w : List Nat) : List Nat := List.replicate s 32 ++ w
theorem lnT_len (s : Nat) (w : List Nat) : (lnT s w).length = s + w.length := by simp [lnT]
theorem lnT_sp {s : Nat} {w : List Nat} {i : Nat} (h : i < s) : (lnT s w)[i]? = some 32 := by
  unfold lnT
  rw [List.getElem?_append_left (by simpa using h), List.getElem?_replicate, if_pos h]
theorem lnT_w {s : Nat} {w : List Nat} {i : Nat} : (lnT s w)[s + i]? = w[i]? := by
  unfold lnT
  rw [List.getElem?_append_right (by simp), List.length_replicate, Nat.add_sub_cancel_left]
theorem lnT_drop (s : Nat) (w : List Nat) : (lnT s w).drop s = w := by
  unfold lnT
  rw [List.drop_append_of_le_length (by simp)]
  simp
end LK

set_option Elab.async false
set_option linter.all false
set_option maxRecDepth 100000
set_option maxHeartbeats 4000000
set_option exponentiation.threshold 3000
/-! What several laws share: boxes and lists beside changes of other objects. -/
namespace LK
open PySem PySem.Spec PyProof.Rows L2
section
variable {K : PySem.W.Frag}
theorem BoxAt.ne_new {H : Hp} {p dl b : Addr} (B : BoxAt H p dl) (h : H b = none) : b ≠ p ∧ b ≠ dl := by
  obtain ⟨xs, g⟩ := B.at_
  obtain ⟨ys, g2⟩ := B.dg
  exact ⟨fun e => (by subst e; rw [h] at g; cases g), fun e => (by subst e; rw [h] at g2; cases g2)⟩
theorem BoxAt.kp {H H' : Hp} {p dl : Addr} (B : BoxAt H p dl) (h : ∀ b o, b = p ∨ b = dl → H b = some o → H' b = some o) : BoxAt H' p dl := by
  obtain ⟨ds, k, a, b, c, d⟩ := B
  exact ⟨ds, k, h _ _ (.inl rfl) a, b, h _ _ (.inr rfl) c, d⟩
theorem BoxAt.keep' {H H' : Hp} {p dl l : Addr} (B : BoxAt H p dl) (k : Keep l H H') (h1 : l ≠ p) (h2 : l ≠ dl) : BoxAt H' p dl :=
  B.kp fun b o hb e => k b o e (by
    rcases hb with rfl | rfl
    · exact Ne.symm h1
    · exact Ne.symm h2)
theorem BoxAt.keep2 {H H' : Hp} {p dl l m : Addr} (B : BoxAt H p dl) (k : ∀ b o, H b = some o → b ≠ l → b ≠ m → H' b = some o) (h1 : l ≠ p) (h2 : l ≠ dl) (h3 : m ≠ p) (h4 : m ≠ dl) : BoxAt H' p dl :=
  B.kp fun b o hb e => by
    rcases hb with rfl | rfl
    · exact k _ _ e (Ne.symm h1) (Ne.symm h3)
    · exact k _ _ e (Ne.symm h2) (Ne.symm h4)
theorem KeepT.ins {p C dx : Addr} {H : Hp} {o : HO} {fs : List (Str × V)} (hp : H p = some (.ins C dx fs)) : KeepT K H (L2.upd H p o) := fun a xs h => by
  rcases h with (h | ⟨o', h⟩) | h
  · exact .inl (.inl (by rw [upd_ne (ne_of h hp (by intro z; cases z))]; exact h))
  · exact .inl (.inr ⟨o', by rw [upd_ne (ne_of h hp (by intro z; cases z))]; exact h⟩)
  · exact .inr h
theorem listAt_ins {p C dx l : Addr} {H : Hp} {o : HO} {fs : List (Str × V)} {ds : List PyData} (h : ListAt K H l ds) (hp : H p = some (.ins C dx fs)) : ListAt K (upd H p o) l ds := by
  obtain ⟨xs, e, a⟩ := h
  exact ⟨xs, by rw [upd_ne (ne_of e hp (by intro z; cases z))]; exact e, DtAll.keepT (KeepT.ins hp) a⟩
theorem Low.zero : Low "" := fun c hc => by
  have e : ("" : Str).cps.toList = [] := by decide +kernel
  rw [e] at hc; cases hc
theorem DtAll.take {H : Hp} : ∀ (n : Nat) {vs : List V} {ds : List PyData}, DtAll K H vs ds → DtAll K H (vs.take n) (ds.take n)
  | 0, _, _, _ => .nil
  | _ + 1, _, _, .nil => .nil
  | n + 1, _, _, .cons h a => .cons h (DtAll.take n a)
theorem len_start0 : (startD []).length = 17 := by decide
theorem sm_start0 : ∀ d ∈ startD [], Sm d 5 150000 := fun d hd => sm_start (hs := []) (L := 0) (by simp) (by simp) d hd
theorem sm_heap {ds : List PyData} (h : ds.length ≤ 30) (sm : ∀ d ∈ ds, Sm d 5 150000) : ShowOk (.list ds) := (Sm.lst ((SmAll.many sm).mem (m := 30) (M := 4500000) h (by omega))).show (by decide) (by decide)
theorem ListAt.dp {H : Hp} {l : Addr} {ds : List PyData} (h : ListAt K H l ds) : Dp K H (.ref l) (.list ds) := let ⟨_, e, a⟩ := h; .lst (SqL.of e) a.dp
end
theorem FnG.or {P : Program} {w : World} {K : PySem.W.Frag} {mg : Str → Option Value} {base : Heap} {CX : CXT} {k : Nat} {f : Addr} {fd : FuncData} {ps : List Str} {sp sp' : Sp} (A : FnG P w K mg base CX k f fd ps sp) (B : FnG P w K mg base CX k f fd ps sp') :
    FnG P w K mg base CX k f fd ps (fun vs H Q E => sp vs H Q E ∨ sp' vs H Q E) where
  len := fun vs H Q E h => h.elim (A.len vs H Q E) (B.len vs H Q E)
  run := fun A' outer s H args us vs Q E hr hg he hb hv h => h.elim (A.run A' outer s H args us vs Q E hr hg he hb hv) (B.run A' outer s H args us vs Q E hr hg he hb hv)
/-- start_heap of a list of names -/
def spStartL (K : PySem.W.Frag) : Sp := fun vs H Q _ => ∃ (t : Addr) (hs : List Str), vs = [.ref t] ∧ SqL K H t (hs.map V.str) ∧ hs.length ≤ 1000 ∧
  ∀ (p : Addr) (H' : Hp), H p = none → Same H H' → ListAt K H' p (startD hs) → Q (.ref p) H'
def spStart2 (K : PySem.W.Frag) : Sp := fun vs H Q E => spStart K vs H Q E ∨ spStartL K vs H Q E
theorem ip_fdiv {X : Cx} : PIp X .FloorDiv (rI CDiv fun i j => .int (i / j)) := fun pins s σ H x y v u Q I r1 r2 h => iop_fdiv pins s σ H x y v u Q I r1 r2 h
theorem none_back0 {p np : Addr} {H H' : Hp} (K1 : Keep p H H') (B : ∃ xs, H' p = some (.lst xs)) (h : H' np = none) : H np = none := by
  cases e : H np with
  | none => rfl
  | some o =>
    by_cases ep : np = p
    · subst ep
      obtain ⟨xs, g⟩ := B
      rw [g] at h; cases h
    · rw [K1 _ _ e ep] at h; cases h
end LK

set_option Elab.async false
set_option linter.all false
set_option maxRecDepth 100000
set_option maxHeartbeats 4000000
/-! dicts of the top: what a literal dict of the program gives, read where it stands. -/
namespace LK
open PySem PySem.Spec PyProof.Rows L2
/-- at a lies a dict of the top with these entries -/
def KDct (P : Program) (w : World) (K : PySem.W.Frag) (a : Addr) (kvs : List (Key × V)) : Prop := (a == sysModules) = false ∧ ∃ vs, KV kvs vs ∧ ∀ h : Heap, K.In h → h.DictOf (mixKind P w) a vs
def tDGetK (P : Program) (w : World) (K : PySem.W.Frag) (td ty : TE) : TE := fun σ H Q => td σ H fun x H1 => ty σ H1 fun y H2 => ∃ a kvs k v, x = .ref a ∧ KDct P w K a kvs ∧ y = kV k ∧ valV kvs k = some v ∧ Q v H2
def tDInK (P : Program) (w : World) (K : PySem.W.Frag) (ty td : TE) : TE := fun σ H Q => ty σ H fun y H1 => td σ H1 fun x H2 => ∃ a kvs k, x = .ref a ∧ KDct P w K a kvs ∧ y = kV k ∧ Q (.bl (valV kvs k).isSome) H2
section
variable {X : Cx} {o i : Expr} {pos : Pos} {td ty : TE}
theorem pe_dgetK (ho : PE X o td) (hi : PE X i ty) (hs : NoSl i) : PE X (.Subscript o i pos) (tDGetK X.prog X.w X.K td ty) := by
  refine ⟨fun pins s σ H Q I h => ?_⟩
  refine subD_of PySem.F.slot_dict_getitem.lookup hs (thn (ho.run pins s σ H _ I h) fun u s1 ⟨x, H1, I1, rx, q1⟩ => thn (hi.run pins s1 σ H1 _ I1 q1) fun iv s2 ⟨y, H2, I2, ry, a, kvs, k, v, ex, ⟨hsys, vs, rel, dd⟩, ey, l, q2⟩ => ?_)
  subst ex ey
  obtain rfl : u = Value.ref a := rx
  have dd := dd _ I2.kIn
  refine ⟨dd.typeIs, ?_⟩
  obtain ⟨w', hw, rw'⟩ := RelO.some_of (v := v) (o := valueAt vs k) (by rw [← l]; exact rel.val k)
  exact wpAny_getItem_of (kV_is ry) dd.mapOf hw ⟨v, H2, I2.tok _, rw', q2⟩
theorem pc_dinK (hi : PE X i ty) (ho : PE X o td) : PC X .In i o (tDInK X.prog X.w X.K ty td) := by
  refine ⟨fun pins s σ H Q I h => ?_⟩
  refine thn (hi.run pins s σ H _ I h) fun iv s1 ⟨y, H1, I1, ry, q1⟩ => thn (ho.run pins s1 σ H1 _ I1 q1) fun u s2 ⟨x, H2, I2, rx, a, kvs, k, ex, ⟨hsys, vs, rel, dd⟩, ey, q2⟩ => ?_
  subst ex ey
  obtain rfl : u = Value.ref a := rx
  have dd := dd _ I2.kIn
  refine wpAny_in_of (kV_is ry) hsys dd.mapOf ?_
  rw [← (rel.val k).isSome_eq]
  exact ⟨.bl _, H2, I2.tok _, rfl, q2⟩
end
/-! its fact from the top -/
def HasDct (P : Program) (w : World) (K : PySem.W.Frag) (x : Str) (kvs : List (Key × V)) : Prop := ∃ a, PySem.W.nsIn K mainGlobals x = some (some (.ref a)) ∧ KDct P w K a kvs
structure UseD (P : Program) (w : World) (K : PySem.W.Frag) (mg : Str → Option Value) (x : Str) (kvs : List (Key × V)) : Prop where
  ex : ∃ a, mg x = some (.ref a) ∧ KDct P w K a kvs
/-- entries whose keys and values are texts -/
inductive DEnt (w : World) : List DictEntry → List (Str × Str) → Prop
  | nil : DEnt w [] []
  | cons {e : DictEntry} {es : List DictEntry} {k v : Str} {ps : List (Str × Str)} {t t' : Tok} : e.key = .str k t → e.hash = hashStr w k → e.val = .str v t' → DEnt w es ps → DEnt w (e :: es) ((k, v) :: ps)
def txtKV (ps : List (Str × Str)) : List (Key × V) := ps.map fun p => (.inr p.1, .str p.2)
theorem DEnt.pairs {P : Program} {w : World} : ∀ {es : List DictEntry} {ps : List (Str × Str)}, DEnt w es ps → ∃ vs : List (Key × Value), KV (txtKV ps) vs ∧ PySem.Pairs (mixKind P w) es vs ∧ vs.map (·.1) = ps.map (fun p => (Sum.inr p.1 : Key)) ∧ ∀ e ∈ es, ∃ k, (mixKind P w).is k e.key = true ∧ e.hash = (mixKind P w).hash k
  | _, _, .nil => ⟨[], .nil, .nil, rfl, fun _ h => by cases h⟩
  | _, _, .cons (k := k) (v := v) (t := t) (t' := t') hk hh hv r => by
    obtain ⟨vs, a, b, c, d⟩ := DEnt.pairs (P := P) r
    refine ⟨(.inr k, .str v t') :: vs, .cons ⟨rfl, ⟨_, rfl⟩⟩ a, .cons (by rw [hk]; exact mixKind_str P w k t) hv b, by rw [List.map_cons, c]; rfl, fun e he => ?_⟩
    rcases List.mem_cons.mp he with rfl | he
    · exact ⟨.inr k, by rw [hk]; exact mixKind_str P w k t, hh⟩
    · exact d e he
theorem nodup_inr : ∀ {xs : List Str}, xs.Nodup → (xs.map (Sum.inr : Str → Key)).Nodup
  | [], _ => .nil
  | x :: r, h => by
    obtain ⟨h1, h2⟩ := List.nodup_cons.mp h
    refine List.nodup_cons.mpr ⟨fun hm => ?_, nodup_inr h2⟩
    obtain ⟨y, hy, e⟩ := List.mem_map.mp hm
    exact h1 (Sum.inr.inj e ▸ hy)
theorem HasDct.mk' {P : Program} {w : World} {K : PySem.W.Frag} {x : Str} {ps : List (Str × Str)} {a : Addr} {es : Array DictEntry} {ep : Nat} (h : PySem.W.nsIn K mainGlobals x = some (some (.ref a)))
    (b : K.lookup a = some { cls := .type "dict", data := .dict es ep }) (hs : (a == sysModules) = false) (c : DEnt w es.toList ps) (nd : (ps.map (·.1)).Nodup) : HasDct P w K x (txtKV ps) := by
  obtain ⟨vs, v1, v2, v3, v4⟩ := DEnt.pairs (P := P) c
  refine ⟨a, h, hs, vs, v1, fun hh hK => ⟨_, es, ep, hK a _ b, ⟨rfl, rfl, rfl⟩, rfl, fun e he => v4 e (Array.mem_toList_iff.mpr he), v2, ?_⟩⟩
  rw [v3]
  have : ps.map (fun p => (Sum.inr p.1 : Key)) = (ps.map (·.1)).map Sum.inr := by rw [List.map_map]; rfl
  rw [this]
  exact nodup_inr nd
theorem HasDct.g {P : Program} {w : World} {K : PySem.W.Frag} {mg : Str → Option Value} {h : Heap} {x : Str} {kvs : List (Key × V)} (D : HasDct P w K x kvs) (X : K.In h) (G : h.Ns mainGlobals mg) : UseD P w K mg x kvs := by
  obtain ⟨a, e, k⟩ := D
  exact ⟨a, PySem.W.mg_of X G e, k⟩
end LK

set_option Elab.async false
set_option linter.all false
set_option maxRecDepth 100000
set_option maxHeartbeats 4000000
set_option exponentiation.threshold 3000
/-! Numbers, texts over the 95 characters, dicts of the top with any plain values. -/
namespace LK
open PySem PySem.Spec PyProof.Rows L2 SX
def CPowW (i j : Int) : Prop := 0 ≤ j ∧ (Builtin.Int.intBits i : Int) * j ≤ 2 ^ 27
theorem op_powW {X : Cx} : OpR X (binaryOp .Pow) (rI CPowW fun i j => .int (i ^ j.toNat)) := opI fun _ _ _ _ _ _ _ hc q => pow_int hc.1 hc.2 q
/-- the 95 characters by their codes -/
def chStr : Str := "\n !\"#$&'()*+,-./0123456789:;<=>?@ABCDEFGHIJKLMNOPQRSTUVWXYZ[\\]^_`abcdefghijklmnopqrstuvwxyz{|}~"
def chC : List Nat := chStr.cps.toList
theorem chC_len : chC.length = 95 := by decide +kernel
theorem chStr_S : chStr = S chC := by unfold chC S; rfl
def ch (j : Nat) : Nat := chC.getD j 0
/-- the text of a row of indices -/
def tx (js : List Nat) : Str := S (js.map ch)
theorem ch_at {j : Nat} (h : j < 95) : chC[j]? = some (ch j) := by
  have h' : j < chC.length := by rw [chC_len]; exact h
  rw [List.getElem?_eq_getElem h', ch, List.getD_eq_getElem?_getD, List.getElem?_eq_getElem h']; rfl
theorem ch_low (j : Nat) : ch j < 128 := by
  by_cases h : j < 95
  · exact (show ∀ c ∈ chC, c < 128 by decide +kernel) _ (List.mem_of_getElem? (ch_at h))
  · rw [ch, List.getD_eq_getElem?_getD, List.getElem?_eq_none (by rw [chC_len]; omega)]; decide
theorem ch_inj {i j : Nat} (hi : i < 95) (hj : j < 95) (h : ch i = ch j) : i = j := by
  have key : ∀ i < 95, ∀ j < 95, ch i = ch j → i = j := by decide +kernel
  exact key i hi j hj h
theorem tx_len (js : List Nat) : (tx js).length = js.length := by rw [tx, S_len, List.length_map]
theorem tx_app (a b : List Nat) : tx (a ++ b) = tx a ++ tx b := by rw [tx, List.map_append, ← S_cat]; rfl
theorem occ_ch : ∀ j < 95, (Builtin.Str.occurrences chStr ⟨#[ch j]⟩ 0 95 1).head? = some j := by decide +kernel
theorem occ_at {j : Nat} (h : j < 95) : ∃ rest, Builtin.Str.occurrences chStr ⟨#[ch j]⟩ 0 chStr.length 1 = j :: rest := by
  have e := occ_ch j h
  rw [show chStr.length = 95 by decide +kernel]
  cases q : Builtin.Str.occurrences chStr ⟨#[ch j]⟩ 0 95 1 with
  | nil => rw [q] at e; cases e
  | cons a r => rw [q] at e; exact ⟨r, by rw [Option.some.inj e]⟩
theorem joinL_one : ∀ cs : List Nat, TL.joinL [] (cs.map fun c => [c]) = cs
  | [] => rfl
  | [c] => rfl
  | c :: d :: r => by
    have := joinL_one (d :: r)
    show [c] ++ ([] ++ TL.joinL [] ((d :: r).map fun c => [c])) = _
    rw [this]; rfl
theorem join_chars (cs : List Nat) : Txt.join "" (cs.map fun c => (⟨#[c]⟩ : Str)) = S cs := by
  rw [TL.join_eq]
  have e := TL.tl_join "" (cs.map fun c => (⟨#[c]⟩ : Str))
  rw [show TL.tl ("" : Str) = [] by decide +kernel, List.map_map, show (TL.tl ∘ fun c => (⟨#[c]⟩ : Str)) = fun c => [c] from rfl, joinL_one] at e
  cases h : Str.join "" (cs.map fun c => (⟨#[c]⟩ : Str)) with
  | mk a =>
    rw [h] at e
    have e : a.toList = cs := e
    subst e
    rfl
section
variable {X : Cx} {K : PySem.W.Frag} {T id : String} {name : Str} {r : V → List V → Hp → VK → Prop} {o e : Expr} {es : List Expr} {to : TE} {t : TA} {apos cpos : Pos}
/-- a built-in method, where the written part is told (in a comprehension) -/
theorem pe_bmK (hK : X.K = K) (pa : PlainAttrs T) (slot : Slot T name id) (hty : typeOf (.builtin id) = pure (.type "method_descriptor")) (hm : MtR X id r) (ho : PE X o to) (ha : PA X (e :: es) t)
    (hbase : attributeBase o name X.env (eval o X.env) = eval o X.env := by rfl)
    (hfew : ((backTo cpos (starEach (e :: es) X.env)).all (fun x => !x.1) && (backToKw cpos (keywordEach [] X.env)).all (fun x => x.1.isSome)
      && decide ((e :: es).length + ([] : List Keyword).length + (if ([] : List Keyword).isEmpty then 0 else 1) < 30)) = true := by rfl)
    (hline : (apos.endLine == cpos.line) = true := by rfl) (hs : starEach (e :: es) X.env = (false, eval e X.env) :: starEach es X.env := by rfl) (hplain : (backTo cpos (starEach es X.env)).any (·.1) = false := by rfl) :
    PE X (.Call (.Attribute o name apos) (e :: es) [] cpos) (tBM K T r to t) := by
  subst hK; exact pe_bm pa slot hty hm ho ha hbase hfew hline hs hplain
end
/-! dicts of the top whose keys are texts and whose values are plain -/
inductive DEntV (w : World) : List DictEntry → List (Str × V) → Prop
  | nil : DEntV w [] []
  | cons {e : DictEntry} {es : List DictEntry} {k : Str} {v : V} {ps : List (Str × V)} {t : Tok} : e.key = .str k t → e.hash = hashStr w k → RelV v e.val → DEntV w es ps → DEntV w (e :: es) ((k, v) :: ps)
def valKV (ps : List (Str × V)) : List (Key × V) := ps.map fun p => (.inr p.1, p.2)
theorem DEntV.pairs {P : Program} {w : World} : ∀ {es : List DictEntry} {ps : List (Str × V)}, DEntV w es ps → ∃ vs : List (Key × Value), KV (valKV ps) vs ∧ PySem.Pairs (mixKind P w) es vs ∧ vs.map (·.1) = ps.map (fun p => (Sum.inr p.1 : Key)) ∧ ∀ e ∈ es, ∃ k : Key, (mixKind P w).is k e.key = true ∧ e.hash = (mixKind P w).hash k
  | _, _, .nil => ⟨[], .nil, .nil, rfl, fun _ h => by cases h⟩
  | _, _, .cons (e := e0) (k := k) (v := v) (t := t) hk hh hv r => by
    obtain ⟨vs, a, b, c, d⟩ := DEntV.pairs (P := P) r
    refine ⟨(.inr k, e0.val) :: vs, .cons ⟨rfl, hv⟩ a, .cons (by rw [hk]; exact mixKind_str P w k t) rfl b, by rw [List.map_cons, c]; rfl, fun e he => ?_⟩
    rcases List.mem_cons.mp he with rfl | he
    · exact ⟨.inr k, by rw [hk]; exact mixKind_str P w k t, hh⟩
    · exact d e he
theorem HasDct.mkV {P : Program} {w : World} {K : PySem.W.Frag} {x : Str} {ps : List (Str × V)} {a : Addr} {es : Array DictEntry} {ep : Nat} (h : PySem.W.nsIn K mainGlobals x = some (some (.ref a)))
    (b : K.lookup a = some { cls := .type "dict", data := .dict es ep }) (hs : (a == sysModules) = false) (c : DEntV w es.toList ps) (nd : (ps.map (·.1)).Nodup) : HasDct P w K x (valKV ps) := by
  obtain ⟨vs, v1, v2, v3, v4⟩ := DEntV.pairs (P := P) c
  refine ⟨a, h, hs, vs, v1, fun hh hK => ⟨_, es, ep, hK a _ b, ⟨rfl, rfl, rfl⟩, rfl, fun e he => v4 e (Array.mem_toList_iff.mpr he), v2, ?_⟩⟩
  rw [v3]
  have : ps.map (fun p => (Sum.inr p.1 : Key)) = (ps.map (·.1)).map Sum.inr := by rw [List.map_map]; rfl
  rw [this]
  exact nodup_inr nd
theorem dtAll_int {K : PySem.W.Frag} {H : Hp} : ∀ {is : List Int} {ws : List V}, DtAll K H ws (is.map PyData.int) → ws = is.map V.int
  | [], _, h => by cases h.nil_inv; rfl
  | i :: r, _, h => by
    obtain ⟨y, ws, rfl, h1, h2⟩ := h.cons_inv
    cases h1.int_inv
    rw [dtAll_int h2]; rfl
theorem cut_one (x : V) (xs : List V) : cutV (x :: xs) (some 1) none = xs := by
  unfold cutV
  rw [show (some (1 : Int)) = some ((1 : Nat) : Int) from rfl, HT.sIx_nat, HT.sIx_none, Nat.min_eq_left (by simp)]
  simp
theorem tx_take (js : List Nat) (n : Nat) : cutS (tx js) none (some (n : Int)) = tx (js.take n) := by
  unfold cutS
  rw [tx_len, HT.sIx_nat, HT.sIx_none]
  show (⟨(((js.map ch).drop 0).take (min n js.length - 0)).toArray⟩ : Str) = ⟨((js.take n).map ch).toArray⟩
  rw [List.drop_zero, Nat.sub_zero, List.map_take]
  congr 2
  by_cases h : n ≤ js.length
  · rw [Nat.min_eq_left h]
  · rw [Nat.min_eq_right (by omega), List.take_of_length_le (by simp), List.take_of_length_le (by simp; omega)]
theorem tx_drop (js : List Nat) (n : Nat) : cutS (tx js) (some (n : Int)) none = tx (js.drop n) := by
  unfold cutS
  rw [tx_len, HT.sIx_nat, HT.sIx_none]
  show (⟨(((js.map ch).drop (min n js.length)).take (js.length - min n js.length)).toArray⟩ : Str) = ⟨((js.drop n).map ch).toArray⟩
  rw [List.map_drop]
  congr 2
  by_cases h : n ≤ js.length
  · rw [Nat.min_eq_left h, List.take_of_length_le (by simp)]
  · rw [Nat.min_eq_right (by omega), List.drop_of_length_le (by simp), List.drop_of_length_le (by simp; omega)]; simp
def rLenK (K : PySem.W.Frag) : List V → Hp → VK → Prop := fun xs H Q => ∃ x n, xs = [x] ∧ LenV K x H n ∧ Q (.int (n : Nat)) H
theorem call_lenK {X : Cx} {K : PySem.W.Frag} (hK : X.K = K) : CallR X (.builtin "len") (rLenK K) := by subst hK; exact call_len
end LK

set_option Elab.async false
set_option linter.all false
set_option maxRecDepth 100000
set_option maxHeartbeats 4000000
/-! An own exception class over ValueError (its bases may be own ones) whose __init__ says super().__init__(..) first. -/
namespace SupX
open PySem PySem.Spec PyProof.Rows L2 NdefX
/-- what the written part says of the class at C, its __init__ at fI (a def that closes over __class__), in the program P -/
structure SupC (P : Program) (K : PySem.W.Frag) (C fI cc : Addr) (F : NF) : Prop where
  oex : OexC K C
  fn : ∃ oc od doc pm ctv osl, K.lookup fI = some ⟨oc, od, .func (F.fd doc pm ctv), osl⟩
  cl : F.cl = [(("__class__" : Str), cc)]
  cd : PySem.W.codeIn K (.ref F.c) F.qual = true
  code : ∃ ccl cdd vs ccs file tf, K.lookup F.c = some ⟨ccl, cdd, .fields vs, ccs⟩ ∧ vs[2]? = some (.str file tf) ∧ ((P.main.file : Str) == file) = true
  top : (P.main.scope.names.lookup ("super" : Str)).isSome = false
  cell : ∃ cl cld csl, K.lookup cc = some ⟨cl, cld, .cell (some (.ref C)), csl⟩
  own : PySem.W.mroIn K C (.ref C) = some true
  isB : PySem.W.subIn K (.ref C) (.type "ValueError") = some true
  sup : PySem.W.ks_superIn K C C "__init__" = some (some (.builtin "ValueError.__init__"))
  opq : PySem.W.nsIn K cStatics "thirdparty.any" = some none
  glob : PySem.W.nsIn K mainGlobals "super" = some none
/-- super().__init__(..), then the rest -/
def tSup (C : Addr) (ta : TA) (tr : TS) : TS := fun D σ H => ta σ H fun ws H1 => ws.length ≤ 1000 ∧ ∃ a, σ[0]? = some (some (.ref a)) ∧ H1 a = some (exo a C none) ∧ tr D σ H1
section
variable {P : Program} {w : World} {K : PySem.W.Frag} {mg : Str → Option Value} {base : Heap} {N ps : List Str} {F : NF} {fI C cc : Addr} {k : Nat} {sp : Sp} {e : Expr} {es : List Expr} {rest : List Stmt} {p0 p1 pa pc pe : Pos} {self : Str} {ar : Arg}
theorem sup_ok (T : SupC P K C fI cc F) (S : NScope N (self :: ps) ["__class__"] F.scope) (len : ∀ vs H Q E, sp vs H Q E → vs.length = (self :: ps).length)
    (hself : ∀ vs H Q E, sp vs H Q E → ∃ a ws, vs = .ref a :: ws ∧ H a = some (exo a C none))
    (hbd : F.body = .Expr (.Call (.Attribute (.Call (.Name "super" p0) [] [] p1) "__init__" pa) (e :: es) [] pc) pe :: rest) (hpar : (F.params.posonlyargs ++ F.params.args).head? = some ar) (har : ar.arg = self)
    (hks : F.scope.names.lookup ("super" : Str) = some .globalImplicit) (hkc : F.scope.names.lookup ("__class__" : Str) = some .free) (hka : F.scope.names.lookup self = some .local)
    (he : ∀ env : Env, starEach (e :: es) env = (false, eval e env) :: starEach es env) (hpl : ∀ env : Env, (backTo pc (starEach es env)).any (·.1) = false)
    (hev : ∀ env : Env, ∃ pl : Sem Bool, eval (.Call (.Attribute (.Call (.Name "super" p0) [] [] p1) "__init__" pa) (e :: es) [] pc) env = (do
      let ov ← attributeBase (.Call (.Name "super" p0) [] [] p1) "__init__" env (eval (.Call (.Name "super" p0) [] [] p1) env)
      standAt pa.atName
      let (f, first) ← holding [ov] (getMethod ov "__init__" pl)
      callWith pc f first (backTo pc (starEach (e :: es) env)) []))
    (body : ∀ (A : Around) (outer : List Env) (s : Shared) (H : Hp) (vs : List V) (Q : VK) (E : XK), Room k (A.deeper (envF F fI s.heap.objs.size)) → sp vs H Q E →
      ∃ ta tr, PA (ncx CX0 P w K mg base N F fI A outer s H E) (e :: es) ta ∧ PSs (ncx CX0 P w K mg base N F fI A outer s H E) rest tr ∧ tSup C ta tr { nx := fun _ H' => Q .non H', rt := Q } (startF N vs [none]) H) :
    ∀ fd, (∃ oc od osl, K.lookup fI = some ⟨oc, od, .func fd, osl⟩) → FnOk P w K mg base CX0 (k + 1) fI fd (self :: ps) sp := by
  rintro fd ⟨oc', od', osl', lk'⟩
  obtain ⟨oc, od, doc, pm, ctv, osl, lk⟩ := T.fn
  have efd : fd = F.fd doc pm ctv := by
    rw [lk] at lk'
    have := Option.some.inj lk'
    injection this with _ _ h _
    injection h with h
    exact h.symm
  subst efd
  refine ⟨len, fun A outer s H args us vs Q E hr e0 hb r hsp => ?_⟩
  have inn : K.In s.heap := e0.mod.kin.keeps fun b o e => (e0.bs b o e).1
  have lim : s.heap.NoLimit := e0.mod.nolimit.keeps fun b o e => (e0.bs b o e).1
  obtain ⟨a, ws, rfl, ha⟩ := hself _ _ _ _ hsp
  refine ks_codeAny_call_defAt (fd := F.fd doc pm ctv) (body := F.body) (binds := (self :: ps).zip us) hr.depth (inn _ _ lk) rfl lim (PySem.W.codeRec_of inn T.cd) rfl hb S.nocell
    (fun ⟨n, _⟩ hx => S.par n (List.of_mem_zip hx).1) (fun h₁ hns kp => ?_) S.co S.gen S.kind
  obtain ⟨cl, cld, csl, hcell⟩ := T.cell
  have cellS : s.heap.IsCell cc (some (.ref C)) := ⟨_, inn _ _ hcell, rfl⟩
  have ec : ∀ y c, F.cl.lookup y = some c → y = "__class__" ∧ c = cc := fun y c h => by
    rw [T.cl] at h
    by_cases hy : y = ("__class__" : Str)
    · subst hy
      simp [List.lookup] at h
      exact ⟨rfl, h.symm⟩
    · have : (y == ("__class__" : Str)) = false := beq_eq_false_iff_ne.mpr hy
      simp [List.lookup, this] at h
  have lc : F.cl.lookup ("__class__" : Str) = some cc := by rw [T.cl]; simp [List.lookup]
  obtain ⟨oB, hoB⟩ : ∃ o, base.get? cc = some o := ⟨_, e0.mod.kin _ _ hcell⟩
  have Cs : CellsAt F.cl ["__class__"] [none] s.heap H := by
    refine ⟨rfl, fun y c h => ?_, fun x y c h1 h2 => ?_, fun i y h => ?_⟩
    · obtain ⟨_, rfl⟩ := ec y c h
      exact ⟨(e0.bs _ _ hoB).2, _, cellS⟩
    · rw [(ec x c h1).1, (ec y c h2).1]
    · match i, h with
      | 0, h =>
        obtain rfl := Option.some.inj h
        exact ⟨cc, lc, fun v hv => by simp at hv⟩
      | i + 1, h => simp at h
  obtain ⟨ta, tr, hta, htr, hq⟩ := body A outer s H _ Q E (hr.deeper _) hsp
  have I : Inv (ncx CX0 P w K mg base N F fI A outer s H E) [] (startF N (.ref a :: ws) [none]) H { s with heap := h₁, toks := s.toks + ((self :: ps).zip us).length } := inv_startN S hr.hd e0 (len _ _ _ _ hsp) r Cs hns kp
  show PySem.wpAt (model P w) (A.deeper (envF F fI s.heap.objs.size)) (.func F.body (envF F fI s.heap.objs.size)) (execs F.body (envF F fI s.heap.objs.size)) _ _ _
  generalize s.toks + ((self :: ps).zip us).length = tk at I
  rw [show execs F.body = execs (.Expr (.Call (.Attribute (.Call (.Name "super" p0) [] [] p1) "__init__" pa) (e :: es) [] pc) pe :: rest) from by rw [hbd]]
  refine ks_wpAt_execs_cons ?_
  refine ks_wpAt_Expr_any ?_ (by unfold interactive; rw [show (envF F fI s.heap.objs.size).scope.kind = .function from S.kind]; rfl)
  obtain ⟨pl, hev⟩ := hev (envF F fI s.heap.objs.size)
  refine ks_wpAt_MethodCall ?_ hev
  obtain ⟨ccl, cdd, vs', ccs, file, tf, hcode, hvs, hfile⟩ := T.code
  have X1 : K.In h₁ := inn.keeps kp
  refine ks_wpAt_super_base (env := envF F fI s.heap.objs.size) hks hkc rfl rfl (X1 _ _ lk) rfl hpar rfl (X1 _ _ hcode) rfl hvs hfile T.top ?_
  obtain ⟨mb, hmb, hboot⟩ := e0.mod.blt
  have kB : ∀ b o, base.get? b = some o → h₁.get? b = some o := fun b o e => kp b o (e0.bs b o e).1
  refine PySem.W.ks_loadName_global S.kind hks (PySem.Calls.loadGlobal_builtin (env := envF F fI s.heap.objs.size) (e0.mod.glob.keeps kB) (PySem.W.mg_none_of e0.mod.kin e0.mod.glob T.glob) (hmb.keeps kB) (hboot _ (by decide +kernel)) ⟨rfl, ?_⟩)
  refine wpAny_loadName_free S.kind hkc lc ⟨_, X1 _ _ hcell, rfl⟩ ?_
  -- self
  have ndp : (self :: ps).Nodup := by
    have h : ((self :: ps) ++ [("__class__" : Str)]).Nodup := by rw [← S.pre]; exact S.nd.sublist (List.take_sublist _ _)
    exact (List.nodup_append.mp h).1
  obtain ⟨us', rfl⟩ : ∃ us', us = .ref a :: us' := by
    cases r with
    | cons r1 r2 => exact ⟨_, by rw [show _ = Value.ref a from r1]⟩
  rw [har]
  refine wpAny_loadName_local S.kind hka hns (zip_look (i := 0) (x := self) (u := .ref a) ndp rfl rfl) ?_
  -- super(__class__, self)
  obtain ⟨nm, q, NN, bs, bm, sn, sub, ab, col, dd, k0, k1, k2, k3, k5, hC, hbm⟩ := T.oex.cls
  have hcl : PySem.W.clsIn K C = some { name := nm, bases := bs, mro := .ref C :: bm, ns := NN, qualname := q, hasDict := true, slotNames := sn, subclasses := sub, abstract := ab, collection := col, hasDel := false } := by unfold PySem.W.clsIn; rw [hC] <;> rfl
  obtain ⟨t1, hoa⟩ := exo_at I.hok ha
  obtain ⟨hh0, g, dr, tk0, os⟩ := s
  dsimp only at *
  refine ks_wpAny_isType_cls (X1 _ _ hC) rfl ⟨rfl, ?_⟩
  refine ks_wpAny_call_super (X1 _ _ hC) rfl hoa rfl (fun c e => by cases e) (PySem.W.looks_mroIn X1 T.own) (fun h2 e2 k2' => ?_)
  have X2 : K.In h2 := X1.keeps k2'
  have IA : PySem.W.InstAt h2 a _ C none := ⟨k2' _ _ hoa, rfl, rfl, trivial⟩
  have hm := T.sup
  unfold PySem.W.ks_superIn at hm
  rw [hcl] at hm
  refine PySem.W.kxs_getMethod PySem.W.kxs_ValueError e2 (PySem.W.looks_opaque X2 T.opq) (l₀ := .ref C :: bm) (fun A Q E s k q => wpAny_bind ((PySem.W.looks_clsIn X2 hcl) A _ E s k (wpAny_pure q))) rfl X2 hm (IA.type.andThen (PySem.W.looks_subIn X2 T.isB)) (PySem.W.ks_ne X2 IA hcl) (by decide) ?_
  -- the wrapper, called
  have I1 : Inv (ncx CX0 P w K mg base N F fI A outer ⟨hh0, g, dr, tk0, os⟩ H E) [(h2.objs.size, PySem.W.kxs_mw "ValueError.__init__" a)] (startF N (.ref a :: ws) [none]) H ⟨h2.push (PySem.W.kxs_mw "ValueError.__init__" a), g, dr, tk + 1, os⟩ :=
    ClX.pin_new (t' := tk + 1) I (fun b o e => Heap.get?_push_of_some _ (k2' _ _ e)) (Nat.le_of_lt (Heap.lt_size e2)) (Heap.get?_push_at rfl rfl) (fun v e => by cases e)
  have He := he (envF F fI hh0.objs.size)
  rw [He]
  refine PySem.W.kxs_callWith (i := "ValueError.__init__") (x := a) (by show (false || (backTo pc (starEach es (envF F fI hh0.objs.size))).any (·.1)) = false; rw [hpl]; rfl) ?_
  refine PySem.Calls.evalArgs_plain ?_
  have hrun := hta.run pc _ _ _ _ _ I1 hq
  change wpAny _ _ (spliced (backTo pc (starEach (e :: es) (envF F fI hh0.objs.size)))) _ _ _ at hrun
  rw [He] at hrun
  refine thn hrun fun vs s1 ⟨ws', H1, I2, r2, hz, a', ha', hb', q⟩ => ?_
  obtain rfl : a = a' := by
    have e : (startF N (.ref a :: ws) [none])[0]? = some (some (V.ref a)) := rfl
    rw [e] at ha'
    exact V.ref.inj (Option.some.inj (Option.some.inj ha'))
  have hu := ClX.pin_at I2
  refine ⟨hu, ?_⟩
  obtain ⟨t2, ho2⟩ := exo_at I2.hok hb'
  have hlen : vs.length ≤ sizeLine := by
    rw [← Paired.length r2, sizeLine_eq]
    omega
  obtain ⟨h3, g3, d3, t3, os3⟩ := s1
  have X3 : K.In h3 := I2.kIn
  dsimp only at *
  refine wpAny_call (codeAny_of_tree ?_)
  show wpAny _ _ (callAny (.ref h2.objs.size) ⟨[] ++ vs, []⟩) _ _ _
  rw [List.nil_append]
  simp only [callAny]
  refine wpAny_bind (wpAny_load hu ?_)
  simp only [PySem.W.kxs_mw, show (Value.type "method-wrapper" == Value.type "method" || Value.type "method-wrapper" == Value.type "builtin_function_or_method" || Value.type "method-wrapper" == Value.type "method-wrapper") = true by decide, if_true]
  refine PySem.W.KFB.if_so (by decide) ?_
  refine wpAny_bind (PySem.W.check_bound_init PySem.F.excBase_ValueError.toExcCallFacts (X3 _ _ hC) ho2 rfl ?_)
  refine wpAny_bind (wpAny_pure (wpAny_pure ?_))
  refine ⟨plainId_quiet PySem.F.excBase_ValueError.init.plain _, codeAny_builtin PySem.F.excBase_ValueError.initEntry ?_⟩
  refine PySem.W.exc_init_tree (cls := .ref C) (t0 := t2) (dv := none) (c2 := .none) (c3 := .none) (b4 := .bool false) ho2 hlen fun h4 k4 e4 _ => ?_
  have J := I2.write (t' := t3) (x := a) (e := a) (o := exo a C none) (by rw [hb']; exact True.intro) (.inl rfl) k4 ⟨_, e4⟩ (exo_ok e4)
  have eu : upd H1 a (exo a C none) = H1 := by
    funext b
    by_cases hb : b = a
    · rw [hb, upd_same, hb']
    · rw [upd_ne hb]
  rw [eu] at J
  have J := ClX.unpin J
  refine wpAt_of_wpAny (wpAny_mono (htr.run [] _ _ _ _ J q) (fun fl s' hs => ?_) fun _ _ z => z)
  have fin : ∀ {σ' : L2.St} {H' : Hp} {v : V} {u : Value}, Inv (ncx CX0 P w K mg base N F fI A outer ⟨hh0, g, dr, tk0, os⟩ H E) [] σ' H' s' → L2.RelV v u → Q v H' → CE outer P w H ⟨hh0, g, dr, tk0, os⟩ Q u s' :=
    fun {σ' H' v u} J rv q => ⟨v, H', J.os, J.bare, J.base, J.hok, rv, q⟩
  cases fl with
  | ret u =>
    obtain ⟨v, σ', H', J, rv, q⟩ := hs
    exact fin J rv q
  | next =>
    obtain ⟨σ', H', J, q⟩ := hs
    exact fin (v := V.non) (u := Value.none) J rfl q
  | brk =>
    obtain ⟨_, _, _, q⟩ := hs
    exact False.elim q
  | cont =>
    obtain ⟨_, _, _, q⟩ := hs
    exact False.elim q
end
end SupX

set_option Elab.async false
set_option linter.all false
set_option maxRecDepth 100000
set_option maxHeartbeats 4000000
/-! Own exceptions in the layer: isinstance of a caught one that has a dict; raise C(line, reason); defs that raise. -/
namespace LK
open PySem PySem.Spec PyProof.Rows L2 NdefX SupX
section
variable {K : PySem.W.Frag} {x D : Addr} {ox : Obj}
theorem kitx_excD (C : ExcC K D) : PySem.W.KitX K (.ref x) (.ref D) (fun h => ∃ od, PySem.W.InstAt h x ox D od) where
  ty := fun _ _ _ ⟨_, I⟩ => I.type
  it := fun _ _ X _ => by
    obtain ⟨cdD, hcD, _⟩ := PySem.W.any_some C.hd
    unfold PySem.W.clsIn at hcD
    split at hcD
    · rename_i c' d' cd' sl' ho
      intro A' Q' E' s' k q
      unfold isType loadHead
      exact wpAny_bind (wpAny_loadPart (k _ _ (X _ _ ho)) (wpAny_pure q))
    · cases hcD
  ne := fun h tp dd its n sl X htp => by
    obtain ⟨cdD, hcD, _⟩ := PySem.W.any_some C.hd
    refine Bool.eq_false_iff.mpr fun q => ?_
    have e : D = tp := Value.ref.inj (beq_iff_eq.mp q)
    subst e
    unfold PySem.W.clsIn at hcD
    split at hcD
    · rename_i c' d' cd' sl' ho
      have z := (X _ _ ho).symm.trans htp
      cases z
    · cases hcD
  ca := fun X ⟨od, I⟩ k => PySem.W.kx_classE X I C.hg C.hk C.hs (PySem.W.findObj_dataE (by obtain ⟨cd, hc, _⟩ := PySem.W.any_some C.hd; rw [hc]; rfl) C.ha C.hn C.ht) C.hm k
end
/-- isinstance(e, c), e the exception that the suite holds, its dict at dd -/
def rIsD (K : PySem.W.Frag) (D a dd : Addr) : List V → Hp → VK → Prop := fun xs H Q => ∃ (c : V) (cv : Value) (b : Bool) (fs : List (Str × V)), xs = [.ref a, c] ∧ (∀ u, RelV c u → u = cv) ∧ PySem.W.kitOne K (.ref D) cv = some b ∧ H dd = some (.xd fs) ∧ Q (.bl b) H
theorem call_isD {X : Cx} {a D dd : Addr} {oe : Obj} {pn : List (Addr × Obj)} (C : ExcC X.K D) (hz : Zc (.ref D) (some dd) oe) (hf : ∃ vs, oe.data = .fields vs) : CallR (X.suite a ((a, oe) :: pn)) (.builtin "isinstance") (rIsD X.K D a dd) := by
  intro pins s σ H xs us Q I r h
  obtain ⟨c, cv, b, fs, rfl, hcv, e, hd, q⟩ := h
  cases r with
  | cons rx rr =>
    cases rr with
    | cons rt rr =>
      cases rr
      cases rx
      have ec := hcv _ rt
      subst ec
      obtain ⟨hget, _⟩ := I.pin (a, oe) (List.mem_append.mpr (.inl List.mem_cons_self))
      obtain ⟨vs, hv⟩ := hf
      have hx : ObjOk X.prog X.w H s.heap dd (.xd fs) := I.hok dd _ hd
      obtain ⟨mA, hns, hr⟩ := hx
      obtain ⟨od, ho, hl⟩ := lookIn_ns hns
      have J : PySem.W.InstAt s.heap a oe D (some od) := ⟨hget, hz.1, by unfold PySem.W.notCls; rw [hv] <;> rfl, by rw [hz.2]; exact ho⟩
      exact PySem.W.kia_one (kitx_excD C) I.kIn ⟨_, J⟩ e (fun z => nomatch z) fun tk => ⟨.bl b, H, I.kept (t' := tk) fun _ _ z => z, rfl, q⟩
/-! ### the class Fault -/
/-- what its __init__ leaves -/
def spFault (K : PySem.W.Frag) (C : Addr) : Sp := fun vs H Q _ => ∃ (a : Addr) (n : Int) (r : Str), vs = [.ref a, .int n, .str r] ∧ H a = some (exo a C none) ∧ n.natAbs < 2 ^ 100 ∧ r.length ≤ 1000 ∧
  ∀ d H', H d = none → H' a = some (exo a C (some d)) → H' d = some (exd d [("reason", .str r), ("line", .int n)]) → (∀ b, b ≠ a → b ≠ d → H' b = H b) → Q .non H'
/-- the class stands at C, its base at B: what a raise and an except ask -/
structure UseF (P : Program) (w : World) (K : PySem.W.Frag) (mg : Str → Option Value) (base : Heap) (C B : Addr) : Prop where
  oex : OexC K C
  xf : XfC K C
  isc : ExcC K C
  mC : mg "Fault" = some (.ref C)
  mB : mg "HoldError" = some (.ref B)
  line : PySem.W.findIn K (.ref C) "line" = some none
  reason : PySem.W.findIn K (.ref C) "reason" = some none
  exm : PySem.W.exmOne K (.ref C) (.ref B) = some true
  ve : PySem.W.kitOne K (.ref C) (.type "ValueError") = some true
  ini : ∃ (fI : Addr) (fd : FuncData), PySem.W.findIn K (.ref C) "__init__" = some (some (.ref fI)) ∧ PySem.W.typeIn K (.ref fI) = some (.type "function") ∧ FnOk P w K mg base CX0 1 fI fd ["self", "line", "reason"] (spFault K C) ∧ Binds K fd ["self", "line", "reason"] []
def faultD (n : Int) (r : Str) : HO := .xd [("reason", .str r), ("line", .int n)]
/-- raise Fault(line, reason) -/
def tRaiseF (C : Addr) (ta : TA) (W : WX) : TS := fun _ σ H => ta σ H fun vs H1 => ∃ (n : Int) (r : Str), vs = [.int n, .str r] ∧ n.natAbs < 2 ^ 100 ∧ r.length ≤ 1000 ∧ ∀ d, H1 d = none → W (.ref C) (some d) σ (upd H1 d (faultD n r))
section
variable {X : Cx} {C B : Addr} {W : WX} {e1 : Expr} {es : List Expr} {ta : TA} {p pos pos2 : Pos}
theorem pa_up (h : PA X es ta) : PA X es (fun σ H Q => ∃ P : List V → Hp → Prop, ta σ H P ∧ ∀ vs H1, P vs H1 → Q vs H1) :=
  ⟨fun pos pins s σ H Q I ⟨P, hP, k⟩ => thn (h.run pos pins s σ H P I hP) fun us s1 ⟨vs, H1, I1, r, q⟩ => ⟨vs, H1, I1, r, k vs H1 q⟩⟩
theorem ps_raiseF (U : UseF X.prog X.w X.K X.mg X.base C B) (hc : X.calm = true) (tk : Takes X W) (hr : Room 2 X.A) (hg : Gl X "Fault") (ha : PA X (e1 :: es) ta)
    (he : starEach (e1 :: es) X.env = (false, eval e1 X.env) :: starEach es X.env := by rfl) (hpl : (backTo pos (starEach es X.env)).any (·.1) = false := by rfl) :
    PS X (.Raise (some (.Call (.Name "Fault" p) (e1 :: es) [] pos)) none pos2) (tRaiseF C ta W) := by
  obtain ⟨fI, fd, i1, i2, ok, hb⟩ := U.ini
  have R := ps_raise (pos := pos2) hc tk (pmk_oex (p := p) (pos := pos) U.oex i1 i2 ok hr hb .nil pass0 hg U.mC (pa_up ha) (by decide) he hpl)
  refine ⟨fun pins s σ H D I h => R.run pins s σ H D I ⟨_, h, ?_⟩⟩
  rintro vs H1 ⟨n, r, rfl, hn, hr, k⟩
  refine ⟨show 2 ≤ 1000 by decide, fun a ha1 => ⟨a, n, r, rfl, upd_same, hn, hr, fun d H2 hd ha2 hd2 keep => ?_⟩⟩
  have hda : d ≠ a := fun e => by
    subst e
    rw [upd_same] at hd
    cases hd
  rw [upd_ne hda] at hd
  refine ⟨rfl, d, _, ha2, hd2, hd, ?_⟩
  have e : upd (del H2 a) d (.xd [("reason", .str r), ("line", .int n)]) = upd H1 d (faultD n r) := by
    funext b
    by_cases hb : b = d
    · subst hb
      rw [upd_same, upd_same]; rfl
    · rw [upd_ne hb, upd_ne hb]
      by_cases hba : b = a
      · subst hba
        rw [del_same, ha1]
      · rw [del_ne hba, keep b hba hb, upd_ne hba]
  rw [e]
  exact k d hd
end
/-! ### the call of a def that may raise -/
section
variable {X : Cx} {CX : CXT} {k : Nat} {f : Addr} {fd : FuncData} {ps : List Str} {sp : Sp} {x : Str} {p pos : Pos} {e : Expr} {es : List Expr} {t : TA}
theorem run_fnSG {pins : List (Addr × Obj)} {σ : L2.St} {H : Hp} {s : Shared} {Q : VK} {us : List Value} {vs : List V} {E : L2.St → XK} (F : FnG X.prog X.w X.K X.mg X.base CX k f fd ps sp) (hr : Room k X.A) (hg : X.A.guards = some []) (hb : Binds X.K fd ps [])
    (hx : PassesAt CX X σ (E σ)) (I : Inv X pins σ H s) (r : Vals vs us) (h : sp vs H Q (E σ)) : wpAny (model X.prog X.w) X.A (call (.ref f) us) (EP X pins σ Q) X.xe s := by
  have hl : (us ++ []).length = ps.length := by rw [List.append_nil, ← r.length, F.len _ _ _ _ h]
  have hbs := hb s us I.kIn hl
  rw [List.append_nil] at hbs
  refine wpAny_call (codeAny_mono (F.run X.A X.stack s H ⟨us, []⟩ us vs Q _ hr hg I.env0 hbs r h) fun res s' hq => ?_)
  match res, hq with
  | .error e, hq => exact hx pins H s e s' I hq
  | .ok (.ret u), hq => exact I.after hq
  | .ok .next, hq => exact hq.elim
  | .ok .brk, hq => exact hq.elim
  | .ok .cont, hq => exact hq.elim
def tUseS (sp : Sp) (E : L2.St → XK) (t : TA) : TE := fun σ H Q => t σ H fun vs H1 => sp vs H1 Q (E σ)
/-- in a try -/
theorem pe_useS {E : L2.St → XK} (U : Use X.prog X.w X.K X.mg X.base CX x k ps sp) (hx : ∀ σ, PassesAt CX X σ (E σ)) (hr : Room k X.A) (gd : X.A.guards = some []) (hg : Gl X x) (ha : PA X (e :: es) t) (hdb : (x == ("__debug__" : Str)) = false := by decide)
    (he : starEach (e :: es) X.env = (false, eval e X.env) :: starEach es X.env := by rfl) (hpl : (backTo pos (starEach es X.env)).any (·.1) = false := by rfl) : PE X (.Call (.Name x p) (e :: es) [] pos) (tUseS sp E t) := by
  obtain ⟨f, fd, ok, hm, kp, hb⟩ := U.ex
  refine ⟨fun pins s σ H Q I h => wpAny_Call_Name_kw (ld_glob I hg hm ?_ hdb)⟩
  exact PySem.W.callWith_K (h₀ := X.base) I.ok.mod.kin kp (thn (ha.run pos pins s σ H _ I h) fun us s1 ⟨vs, H1, I1, r, q⟩ => ⟨I1.kIn, run_fnSG ok hr gd hb (hx _) I1 r q⟩) he hpl
/-- in a def that lets out what the callee lets out -/
theorem pe_useR {E : XK} (U : Use X.prog X.w X.K X.mg X.base (L2.CX X.prog X.w) x k ps sp) (tk : Takes X fun cls d _ H => E cls d H) (hr : Room k X.A) (gd : X.A.guards = some []) (hg : Gl X x) (ha : PA X (e :: es) t) (hdb : (x == ("__debug__" : Str)) = false := by decide)
    (he : starEach (e :: es) X.env = (false, eval e X.env) :: starEach es X.env := by rfl) (hpl : (backTo pos (starEach es X.env)).any (·.1) = false := by rfl) : PE X (.Call (.Name x p) (e :: es) [] pos) (tUse sp E t) :=
  pe_useX U (passes_call tk fun _ _ _ _ h => h) hr gd hg ha hdb he hpl
end
/-! ### Fault's __init__ -/
section
variable {P : Program} {w : World} {K : PySem.W.Frag} {mg : Str → Option Value} {base : Heap} {F : NF} {fI C cc : Addr} {p0 p1 pa pc pe q1 q2 q3 q4 q5 q6 q7 a1 a2 a3 a4 b1 b2 b3 b4 : Pos} {k1 k2 : Nat} {ar : Arg}
theorem fault_ini (T : SupC P K C fI cc F) (hl : PySem.W.findIn K (.ref C) "line" = some none) (hr : PySem.W.findIn K (.ref C) "reason" = some none)
    (S : NScope ["self", "line", "reason", "__class__"] ["self", "line", "reason"] ["__class__"] F.scope)
    (hbd : F.body = [.Expr (.Call (.Attribute (.Call (.Name "super" p0) [] [] p1) "__init__" pa) [.JoinedStr [.Constant (.str "line ") k1 q1, .FormattedValue (.Name "line" q2) (-1) none q3, .Constant (.str ": ") k2 q4, .FormattedValue (.Name "reason" q5) (-1) none q6] q7] [] pc) pe,
      .Assign [.Attribute (.Name "self" a1) "line" a2] (.Name "line" a3) a4, .Assign [.Attribute (.Name "self" b1) "reason" b2] (.Name "reason" b3) b4])
    (hpar : (F.params.posonlyargs ++ F.params.args).head? = some ar) (har : ar.arg = "self") (hks : F.scope.names.lookup ("super" : Str) = some .globalImplicit)
    (hev : ∀ env : Env, ∃ pl : Sem Bool, eval (.Call (.Attribute (.Call (.Name "super" p0) [] [] p1) "__init__" pa) [.JoinedStr [.Constant (.str "line ") k1 q1, .FormattedValue (.Name "line" q2) (-1) none q3, .Constant (.str ": ") k2 q4, .FormattedValue (.Name "reason" q5) (-1) none q6] q7] [] pc) env = (do
      let ov ← attributeBase (.Call (.Name "super" p0) [] [] p1) "__init__" env (eval (.Call (.Name "super" p0) [] [] p1) env)
      standAt pa.atName
      let (f, first) ← holding [ov] (getMethod ov "__init__" pl)
      callWith pc f first (backTo pc (starEach [.JoinedStr [.Constant (.str "line ") k1 q1, .FormattedValue (.Name "line" q2) (-1) none q3, .Constant (.str ": ") k2 q4, .FormattedValue (.Name "reason" q5) (-1) none q6] q7] env)) [])) :
    ∀ fd, (∃ oc od osl, K.lookup fI = some ⟨oc, od, .func fd, osl⟩) → FnOk P w K mg base CX0 1 fI fd ["self", "line", "reason"] (spFault K C) := by
  have v0 : F.scope.names.lookup ("self" : Str) = some .local := S.par _ (by simp)
  have v1 : F.scope.names.lookup ("line" : Str) = some .local := S.par _ (by simp)
  have v2 : F.scope.names.lookup ("reason" : Str) = some .local := S.par _ (by simp)
  refine sup_ok (k := 0) T S (fun vs H Q E h => ?_) (fun vs H Q E h => ?_) hbd hpar har hks (S.frk _ (by simp)) v0 (fun _ => rfl) (fun _ => rfl) hev fun A outer s H vs Q E hroom h => ?_
  · obtain ⟨a, n, r, rfl, _⟩ := h
    rfl
  · obtain ⟨a, n, r, rfl, ha, _⟩ := h
    exact ⟨a, _, rfl, ha⟩
  · obtain ⟨a, n, r, rfl, ha, hn, hz, k⟩ := h
    refine ⟨_, _, pa_cons (pe_joined (.cons pe_str (.cons (pe_fmt (pe_var (i := 1) rfl (.inl v1))) (.cons pe_str (.cons (pe_fmt (pe_var (i := 2) rfl (.inl v2))) .nil))))) pa_nil,
      pss_cons (ps_ost (pe_var (i := 0) rfl (.inl v0)) (pe_var (i := 1) rfl (.inl v1))) (pss_one (ps_ost (pe_var (i := 0) rfl (.inl v0)) (pe_var (i := 2) rfl (.inl v2)))), ?_⟩
    have hln : (Str.ofString (toString n)).length ≤ 2000 := by
      have hl : n.natAbs.log2 < 1900 := Nat.lt_of_lt_of_le (PySem.Flt.log2_lt_of (k := 100) (by decide) hn) (by decide)
      have e := int_text_length_le (k := 1900) (by decide) hl
      rw [PySem.ofString_length]; omega
    have l1 : (Str.empty ++ ("line " : Str)).length = 5 := by decide +kernel
    have l2 : (": " : Str).length = 2 := by decide +kernel
    refine ⟨_, rfl, by rw [l1]; decide, ?_⟩
    refine ⟨_, rfl, .inr ⟨n, rfl, Nat.lt_of_lt_of_le (PySem.Flt.log2_lt_of (k := 100) (by decide) hn) (by decide), _, rfl, ?_, ?_⟩⟩
    · rw [strLen_append, l1]
      exact Nat.le_trans (show 5 + _ ≤ 3000 by omega) (by decide)
    refine ⟨_, rfl, ?_, ?_⟩
    · rw [strLen_append, strLen_append, l1, l2]
      exact Nat.le_trans (show _ ≤ 3000 by omega) (by decide)
    refine ⟨_, rfl, .inl ⟨r, rfl, Nat.le_trans hz (by decide), _, rfl, ?_, ?_⟩⟩
    · rw [strLen_append, strLen_append, strLen_append, l1, l2]
      exact Nat.le_trans (show _ ≤ 5000 by omega) (by decide)
    refine ⟨show 1 ≤ 1000 by decide, a, rfl, ha, ?_⟩
    refine ⟨_, rfl, _, rfl, a, C, rfl, T.oex, hl, .inl ⟨ha, fun d hd hda => ?_⟩⟩
    refine ⟨_, rfl, _, rfl, a, C, rfl, T.oex, hr, .inr ⟨d, [("line", .int n)], upd_same, by rw [upd_ne hda, upd_same], (show 1 ≤ 900 by decide), ?_⟩⟩
    have hd2 : d ≠ a := hda
    refine k d _ hd (by rw [upd_ne (Ne.symm hd2), upd_same]) upd_same fun b hb hbd => ?_
    rw [upd_ne hbd, upd_ne hb, upd_ne hbd]
end
theorem kit_ve {K : PySem.W.Frag} {C : Addr} (h : PySem.W.subIn K (.ref C) (.type "ValueError") = some true) : PySem.W.kitOne K (.ref C) (.type "ValueError") = some true := by
  unfold PySem.W.kitOne PySem.W.kitCls
  rw [if_neg (fun e => by cases (beq_iff_eq.mp e))]
  show (if PySem.W.kitMeta "ValueError" = true then _ else _) = _
  rw [if_pos (by decide +kernel)]
  exact h
def rIsV (K : PySem.W.Frag) (C a : Addr) (cls : Value) (d : Option Addr) : List V → Hp → VK → Prop := fun xs H Q => cls = .ref C ∧ ∃ dd, d = some dd ∧ rIsD K C a dd xs H Q
theorem call_isV {X : Cx} {a C : Addr} {oe : Obj} {cls : Value} {d : Option Addr} {pn : List (Addr × Obj)} (T : ExcC X.K C) (hz : Zc cls d oe) (hf : ∃ vs, oe.data = .fields vs) : CallR (X.suite a ((a, oe) :: pn)) (.builtin "isinstance") (rIsV X.K C a cls d) := by
  intro pins s σ H xs us Q I r h
  obtain ⟨rfl, dd, rfl, q⟩ := h
  exact call_isD T hz hf pins s σ H xs us Q I r q
/-! ### from the top's facts -/
abbrev nfF (st : Stmt) (cc cda : Addr) : NF := ⟨"__init__", "Fault.__init__", defArgs st, defBody st, defScope st, [(("__class__" : Str), cc)], cda⟩
structure FaultK (P : Program) (K : PySem.W.Frag) (st : Stmt) (C B fI cc cda : Addr) : Prop where
  gC : PySem.W.nsIn K mainGlobals "Fault" = some (some (.ref C))
  gB : PySem.W.nsIn K mainGlobals "HoldError" = some (some (.ref B))
  sup : SupC P K C fI cc (nfF st cc cda)
  xf : XfC K C
  isc : ExcC K C
  line : PySem.W.findIn K (.ref C) "line" = some none
  reason : PySem.W.findIn K (.ref C) "reason" = some none
  exm : PySem.W.exmOne K (.ref C) (.ref B) = some true
  ini : PySem.W.findIn K (.ref C) "__init__" = some (some (.ref fI))
  ity : PySem.W.typeIn K (.ref fI) = some (.type "function")
def HasFault (P : Program) (K : PySem.W.Frag) (st : Stmt) : Prop := ∃ C B fI cc cda, FaultK P K st C B fI cc cda
section
variable {P : Program} {K : PySem.W.Frag} {st : Stmt} {C B fI cc cda : Addr} {nm q : Str} {N : Addr} {bs bm : List Value} {sn : List Str} {sub : List Value} {ab : Bool} {col : Option Bool} {dd : Option Addr} {k0 k1 k2 k3 k5 : Option Value}
  {oc : Value} {od : Option Addr} {doc pm ctv : Value} {osl : Array (Option Value)} {ccl : Value} {cdd : Option Addr} {vs : Array Value} {ccs : Array (Option Value)} {file : Str} {tf : Tok} {xcl : Value} {xld : Option Addr} {xsl : Array (Option Value)}
theorem HasFault.mk' (a1 : PySem.W.nsIn K mainGlobals "Fault" = some (some (.ref C))) (a2 : PySem.W.nsIn K mainGlobals "HoldError" = some (some (.ref B)))
    (a3 : K.lookup C = some (excClassObj nm q C N bs bm true sn sub ab col dd k0 k1 k2 k3 k5 "ValueError.__new__")) (a4 : PySem.HandSPX.refsVE bm = true)
    (a5 : PySem.W.findIn K (.ref C) "__setattr__" = some (some (.builtin "object.__setattr__"))) (a6 : PySem.W.subIn K (.ref C) (.type "BaseException") = some true) (a7 : PySem.W.typeIn K (.ref C) = some (.type "type")) (a8 : PySem.W.keepIn K (.ref C) = true)
    (b1 : PySem.W.findIn K (.ref C) "__init__" = some (some (.ref fI))) (b2 : PySem.W.typeIn K (.ref fI) = some (.type "function"))
    (b3 : K.lookup fI = some ⟨oc, od, .func ((nfF st cc cda).fd doc pm ctv), osl⟩) (b4 : PySem.W.codeIn K (.ref cda) "Fault.__init__" = true)
    (b5 : K.lookup cda = some ⟨ccl, cdd, .fields vs, ccs⟩) (b6 : vs[2]? = some (.str file tf)) (b7 : ((P.main.file : Str) == file) = true) (b8 : (P.main.scope.names.lookup ("super" : Str)).isSome = false)
    (c1 : K.lookup cc = some ⟨xcl, xld, .cell (some (.ref C)), xsl⟩) (c2 : PySem.W.mroIn K C (.ref C) = some true) (c3 : PySem.W.subIn K (.ref C) (.type "ValueError") = some true)
    (c4 : PySem.W.ks_superIn K C C "__init__" = some (some (.builtin "ValueError.__init__"))) (c5 : PySem.W.nsIn K cStatics "thirdparty.any" = some none) (c6 : PySem.W.nsIn K mainGlobals "super" = some none)
    (d1 : PySem.W.findIn K (.ref C) "__getattribute__" = some (some (.builtin "BaseException.__getattribute__"))) (d2 : PySem.W.findIn K (.ref C) "__getattr__" = some none) (d3 : PySem.W.hasDictIn K C = true)
    (d4 : PySem.W.findIn K (.ref C) "__class__" = some (some (.builtin "object.__class__"))) (d5 : PySem.W.specialIn K (.builtin "object.__class__") "__get__" = some (some (.builtin "getset_descriptor.__get__")))
    (d6 : PySem.W.takesIn K (.builtin "object.__class__") = some true) (d7 : PySem.W.mroIn K C (.type "object") = some true)
    (e1 : PySem.W.findIn K (.ref C) "line" = some none) (e2 : PySem.W.findIn K (.ref C) "reason" = some none) (e3 : PySem.W.subIn K (.ref B) (.type "BaseException") = some true) (e4 : PySem.W.hasDictIn K B = true) (e5 : PySem.W.typeIn K (.ref B) = some (.type "type")) (e6 : PySem.W.subIn K (.ref C) (.ref B) = some true) : HasFault P K st :=
  ⟨C, B, fI, cc, cda, a1, a2, ⟨⟨⟨nm, q, N, bs, bm, sn, sub, ab, col, dd, k0, k1, k2, k3, k5, a3, a4⟩, a5, a6, a7, a8⟩, ⟨oc, od, doc, pm, ctv, osl, b3⟩, rfl, b4, ⟨ccl, cdd, vs, ccs, file, tf, b5, b6, b7⟩, b8, ⟨xcl, xld, xsl, c1⟩, c2, c3, c4, c5, c6⟩,
    ⟨d1, d2, a6, d3⟩, ⟨d1, d2, a6, d3, d4, d5, d6, d7⟩, e1, e2, PySem.W.exm_ref e3 e4 e5 e6, b1, b2⟩
end
section
variable {P : Program} {w : World} {K : PySem.W.Frag} {mg : Str → Option Value} {base h : Heap} {st : Stmt} {p0 p1 pa pc pe q1 q2 q3 q4 q5 q6 q7 a1 a2 a3 a4 b1 b2 b3 b4 : Pos} {k1 k2 : Nat} {ar : Arg}
theorem mk_useF (f : HasFault P K st) (X : K.In h) (G : h.Ns mainGlobals mg)
    (S : NScope ["self", "line", "reason", "__class__"] ["self", "line", "reason"] ["__class__"] (defScope st))
    (hbd : defBody st = [.Expr (.Call (.Attribute (.Call (.Name "super" p0) [] [] p1) "__init__" pa) [.JoinedStr [.Constant (.str "line ") k1 q1, .FormattedValue (.Name "line" q2) (-1) none q3, .Constant (.str ": ") k2 q4, .FormattedValue (.Name "reason" q5) (-1) none q6] q7] [] pc) pe,
      .Assign [.Attribute (.Name "self" a1) "line" a2] (.Name "line" a3) a4, .Assign [.Attribute (.Name "self" b1) "reason" b2] (.Name "reason" b3) b4])
    (hpar : ((defArgs st).posonlyargs ++ (defArgs st).args).head? = some ar) (har : ar.arg = "self") (hks : (defScope st).names.lookup ("super" : Str) = some .globalImplicit)
    (hev : ∀ env : Env, ∃ pl : Sem Bool, eval (.Call (.Attribute (.Call (.Name "super" p0) [] [] p1) "__init__" pa) [.JoinedStr [.Constant (.str "line ") k1 q1, .FormattedValue (.Name "line" q2) (-1) none q3, .Constant (.str ": ") k2 q4, .FormattedValue (.Name "reason" q5) (-1) none q6] q7] [] pc) env = (do
      let ov ← attributeBase (.Call (.Name "super" p0) [] [] p1) "__init__" env (eval (.Call (.Name "super" p0) [] [] p1) env)
      standAt pa.atName
      let (f, first) ← holding [ov] (getMethod ov "__init__" pl)
      callWith pc f first (backTo pc (starEach [.JoinedStr [.Constant (.str "line ") k1 q1, .FormattedValue (.Name "line" q2) (-1) none q3, .Constant (.str ": ") k2 q4, .FormattedValue (.Name "reason" q5) (-1) none q6] q7] env)) []))
    (hb : ∀ (cc cda : Addr) (doc pm ctv : Value) (us : List Value), us.length = 3 → bindArgs ((nfF st cc cda).fd doc pm ctv) ⟨us, []⟩ = pure ((["self", "line", "reason"] : List Str).zip us)) :
    ∃ C B, UseF P w K mg base C B := by
  obtain ⟨C, B, fI, cc, cda, f⟩ := f
  obtain ⟨oc, od, doc, pm, ctv, osl, lk⟩ := f.sup.fn
  exact ⟨C, B, f.sup.oex, f.xf, f.isc, PySem.W.mg_of X G f.gC, PySem.W.mg_of X G f.gB, f.line, f.reason, f.exm, kit_ve f.sup.isB, fI, _, f.ini, f.ity, fault_ini f.sup f.line f.reason S hbd hpar har hks hev _ ⟨oc, od, osl, lk⟩, .all (hb cc cda doc pm ctv)⟩
end
end LK

set_option Elab.async false
set_option linter.all false
set_option maxRecDepth 100000
set_option maxHeartbeats 4000000
/-! Classes of one's own in the layer: fields, instances made, methods called. -/
namespace LK
open PySem PySem.Spec PyProof.Rows L2
/-- none of the names stands in the class -/
inductive NoAll (K : PySem.W.Frag) (C : Addr) : List Str → Prop
  | nil : NoAll K C []
  | cons {f : Str} {r : List Str} (h : PySem.W.findIn K (.ref C) f = some none) (t : NoAll K C r) : NoAll K C (f :: r)
theorem NoAll.at {K : PySem.W.Frag} {C : Addr} {f : Str} : ∀ {fs : List Str}, NoAll K C fs → fs.contains f = true → NoAttr K C f
  | _, .nil, h => by cases h
  | g :: r, .cons a t, h => by
    by_cases e : f = g
    · subst e; exact a
    · refine NoAll.at t ?_
      rw [List.contains_cons] at h
      rcases Bool.or_eq_true_iff.mp h with q | q
      · exact absurd (eq_of_beq q) e
      · exact q
/-- the class x as the top leaves it, at C, with the fields fs -/
structure ClsK (K : PySem.W.Frag) (x : Str) (fs : List Str) (C : Addr) : Prop where
  ns : PySem.W.nsIn K mainGlobals x = some (some (.ref C))
  cl : Cls K C
  mks : PySem.W.makesIn K C = true
  kp : PySem.W.keepIn K (.ref C) = true
  no : NoAll K C fs
theorem ClsK.mk' {K : PySem.W.Frag} {x : Str} {fs : List Str} {C : Addr} (a : PySem.W.nsIn K mainGlobals x = some (some (.ref C))) (pg : PySem.W.plainGet K C Str.empty = true) (hd : PySem.W.hasDictIn K C = true) (po : PySem.W.plainOver K C = true)
    (sa : PySem.W.findIn K (.ref C) "__setattr__" = some (some (.builtin "object.__setattr__"))) (mk : PySem.W.makesIn K C = true) (kp : PySem.W.keepIn K (.ref C) = true) (no : NoAll K C fs) : ClsK K x fs C := ⟨a, ⟨pg, hd, po, sa⟩, mk, kp, no⟩
structure UseC (K : PySem.W.Frag) (mg : Str → Option Value) (x : Str) (fs : List Str) (C : Addr) : Prop where
  cl : Cls K C
  no : NoAll K C fs
  mg : mg x = some (.ref C)
theorem ClsK.g {K : PySem.W.Frag} {mg : Str → Option Value} {h : Heap} {x : Str} {fs : List Str} {C : Addr} (k : ClsK K x fs C) (X : K.In h) (G : h.Ns mainGlobals mg) : UseC K mg x fs C := ⟨k.cl, k.no, PySem.W.mg_of X G k.ns⟩
/-- a method as the top leaves it -/
def HasMeth (K : PySem.W.Frag) (C : Addr) (m q : Str) (st : Stmt) : Prop := ∃ (f : Addr) (oc : Value) (od an : Option Addr) (kV doc pm cdv ct : Value) (osl : Array (Option Value)),
  PySem.W.findIn K (.ref C) m = some (some (.ref f)) ∧ PySem.W.isFn K (.ref f) = true ∧ PySem.W.keepIn K (.ref f) = true ∧
  K.lookup f = some ⟨oc, od, .func (PySem.W.fnOf m q (defArgs st) (defBody st) (defScope st) .none kV doc pm an cdv ct), osl⟩ ∧ PySem.W.codeIn K cdv q = true
theorem HasMeth.mk' {K : PySem.W.Frag} {C : Addr} {m q : Str} {st : Stmt} {f : Addr} {oc : Value} {od an : Option Addr} {kV doc pm cdv ct : Value} {osl : Array (Option Value)} (a : PySem.W.findIn K (.ref C) m = some (some (.ref f))) (i : PySem.W.isFn K (.ref f) = true)
    (k : PySem.W.keepIn K (.ref f) = true) (b : K.lookup f = some ⟨oc, od, .func (PySem.W.fnOf m q (defArgs st) (defBody st) (defScope st) .none kV doc pm an cdv ct), osl⟩) (c : PySem.W.codeIn K cdv q = true) : HasMeth K C m q st :=
  ⟨f, oc, od, an, kV, doc, pm, cdv, ct, osl, a, i, k, b, c⟩
/-- a method may be called -/
structure UseM (P : Program) (w : World) (K : PySem.W.Frag) (mg : Str → Option Value) (base : Heap) (CX : CXT) (C : Addr) (m : Str) (k : Nat) (ps : List Str) (sp : Sp) : Prop where
  ex : ∃ (f : Addr) (fd : FuncData), FnG P w K mg base CX k f fd ps sp ∧ Meth K C m f ∧ Binds K fd ps []
/-- an instance may be made -/
structure UseK (P : Program) (w : World) (K : PySem.W.Frag) (mg : Str → Option Value) (base : Heap) (x : Str) (C : Addr) (k : Nat) (ps : List Str) (sp : Sp) : Prop where
  ex : ∃ (f : Addr) (fd : FuncData), FnOk P w K mg base CX0 k f fd ps sp ∧ Mk K C f ∧ Binds K fd ps [] ∧ mg x = some (.ref C)
section
variable {P : Program} {w : World} {K : PySem.W.Frag} {mg : Str → Option Value} {base h : Heap} {CX : CXT} {C : Addr} {m q x : Str} {st : Stmt} {k : Nat} {ps fs : List Str} {sp : Sp}
theorem mk_useM (F : HasMeth K C m q st) (hb : ∀ (kV doc pm : Value) (an : Option Addr) (cdv ct : Value) (us : List Value), us.length = ps.length → bindArgs (PySem.W.fnOf m q (defArgs st) (defBody st) (defScope st) .none kV doc pm an cdv ct) ⟨us, []⟩ = pure (ps.zip us))
    (ok : ∀ (f : Addr) (fd : FuncData), Fun K m q st f fd → FnG P w K mg base CX k f fd ps sp) : UseM P w K mg base CX C m k ps sp := by
  obtain ⟨f, oc, od, an, kV, doc, pm, cdv, ct, osl, a, i, kp, b, c⟩ := F
  have Fn := fun_mk (st := st) b c kp
  exact ⟨f, _, ok f _ Fn, ⟨a, i, kp⟩, Fn.binds hb⟩
theorem mk_useK (k0 : ClsK K x fs C) (F : HasMeth K C "__init__" q st) (X : K.In h) (G : h.Ns mainGlobals mg) (hb : ∀ (kV doc pm : Value) (an : Option Addr) (cdv ct : Value) (us : List Value), us.length = ps.length → bindArgs (PySem.W.fnOf "__init__" q (defArgs st) (defBody st) (defScope st) .none kV doc pm an cdv ct) ⟨us, []⟩ = pure (ps.zip us))
    (ok : ∀ (f : Addr) (fd : FuncData), Fun K "__init__" q st f fd → FnOk P w K mg base CX0 k f fd ps sp) : UseK P w K mg base x C k ps sp := by
  obtain ⟨f, oc, od, an, kV, doc, pm, cdv, ct, osl, a, i, kp, b, c⟩ := F
  have Fn := fun_mk (st := st) b c kp
  exact ⟨f, _, ok f _ Fn, ⟨k0.mks, a, i, k0.kp⟩, Fn.binds hb, PySem.W.mg_of X G k0.ns⟩
theorem UseM.imp {sp' : Sp} (U : UseM P w K mg base CX C m k ps sp) (i : ∀ vs H Q E, sp' vs H Q E → sp vs H Q E) : UseM P w K mg base CX C m k ps sp' := by
  obtain ⟨f, fd, ok, r⟩ := U.ex
  exact ⟨f, fd, ok.imp i, r⟩
end
/-! ### readings -/
def tFd (C : Addr) (ta : TE) (f : Str) : TE := fun σ H Q => ta σ H fun x H1 => ∃ a dx gs v, x = .ref a ∧ H1 a = some (.ins C dx gs) ∧ gs.lookup f = some v ∧ Q v H1
def sFd (C : Addr) (ta tv : TE) (f : Str) : TS := fun D σ H => tv σ H fun y H1 => ta σ H1 fun x H2 => ∃ a dx gs, x = .ref a ∧ H2 a = some (.ins C dx gs) ∧ gs.length < 1000 ∧ D.nx σ (upd H2 a (.ins C dx (putF f y gs)))
def sFdAug (C : Addr) (ta tv : TE) (rd : V → V → Hp → VK → Prop) (f : Str) : TS := fun D σ H => ta σ H fun x H1 => ∃ a dx gs v, x = .ref a ∧ H1 a = some (.ins C dx gs) ∧ gs.lookup f = some v ∧
  tv σ H1 fun y H2 => rd v y H2 fun z H3 => ∃ dx' gs', H3 a = some (.ins C dx' gs') ∧ gs'.length < 1000 ∧ D.nx σ (upd H3 a (.ins C dx' (putF f z gs')))
def tMc (C : Addr) (m : Str) (sp : Sp) (E : XK) (ta : TE) (t : TA) : TE := fun σ H Q => ta σ H fun x H1 => ∃ a dx gs, x = .ref a ∧ H1 a = some (.ins C dx gs) ∧ gs.lookup m = none ∧ t σ H1 fun vs H2 => sp (.ref a :: vs) H2 Q E
def tMk (C : Addr) (sp : Sp) (t : TA) : TE := fun σ H Q => t σ H fun vs H1 => ∀ x dx, H1 x = none → H1 dx = none → dx ≠ x → sp (.ref x :: vs) (upd (upd H1 dx (.own x)) x (.ins C dx [])) (fun v H2 => v = .non ∧ Q (.ref x) H2) E0
section
variable {X : Cx} {CX : CXT} {C : Addr} {x m f : Str} {fs ps : List Str} {k : Nat} {sp : Sp} {o e value : Expr} {es : List Expr} {p pos pos' tpos apos : Pos} {ta tv : TE} {t : TA}
theorem pe_fd (U : UseC X.K X.mg x fs C) (hf : fs.contains f = true) (he : PE X e ta) (hb : attributeBase e f X.env (eval e X.env) = eval e X.env := by rfl) : PE X (.Attribute e f pos) (tFd C ta f) := by
  refine ⟨fun pins s σ H Q I h => ?_⟩
  refine attr_of hb (thn (he.run pins s σ H _ I h) fun u s1 ⟨x, H1, I1, rx, a, dx, fs, v, ex, ea, l, q⟩ => ?_)
  subst ex
  obtain rfl : u = Value.ref a := rx
  exact getattr_ok I1 ea U.cl (U.no.at hf) l fun u' s2 I2 ru => ⟨v, H1, I2, ru, q⟩
theorem ps_fd (U : UseC X.K X.mg x fs C) (hf : fs.contains f = true) (ha : PE X o ta) (hv : PE X value tv) (hs : swapsWith value (some (.Attribute o f pos')) pos.line X.env = pure false := by rfl) : PS X (.Assign [.Attribute o f pos'] value pos) (sFd C ta tv f) := by
  refine ⟨fun pins s σ H D I h => ?_⟩
  refine plainObj_wpAny_Assign_Attribute (thn (hv.run pins s σ H _ I h) fun u s1 ⟨y, H1, I1, ry, q⟩ => thn (ha.run pins s1 σ H1 _ I1 q) fun ov s2 ⟨x, H2, I2, rx, a, dx, fs, ex, ea, l, q2⟩ => ?_) hs
  subst ex
  obtain rfl : ov = Value.ref a := rx
  exact setattr_ok I2 ea U.cl (U.no.at hf) l ry fun s3 I3 => ⟨σ, _, I3, q2⟩
theorem ps_fdaug (U : UseC X.K X.mg x fs C) (hf : fs.contains f = true) {op : Operator} {rd : V → V → Hp → VK → Prop} (ha : PE X o ta) (hv : PE X value tv) (hop : InOp X op rd) : PS X (.AugAssign (.Attribute o f tpos) op value pos) (sFdAug C ta tv rd f) := by
  refine ⟨fun pins s σ H D I h => ?_⟩
  refine wpAny_AugAssign_AttributeAny (thn (ha.run pins s σ H _ I h) fun ov s1 ⟨x, H1, I1, rx, a, dx, fs, v, ex, ea, l, q⟩ => ?_)
  subst ex
  obtain rfl : ov = Value.ref a := rx
  refine getattr_ok I1 ea U.cl (U.no.at hf) l fun u s2 I2 ru => thn (hv.run pins s2 σ H1 _ I2 q) fun w3 s3 ⟨y, H2, I3, ry, q3⟩ => thn (hop pins s3 σ H2 v y u w3 _ I3 ru ry q3) fun w4 s4 ⟨z, H3, I4, rz, dx', fs', ea', l', q4⟩ => ?_
  exact setattr_ok I4 ea' U.cl (U.no.at hf) l' rz fun s5 I5 => ⟨σ, _, I5, q4⟩
/-- o.m(e, ..) -/
theorem pe_mc {E : XK} {pl : Sem Bool} (U : UseC X.K X.mg x fs C) (M : UseM X.prog X.w X.K X.mg X.base CX C m k ps sp) (hx : Passes CX X E) (hr : Room k X.A) (gd : X.A.guards = some []) (he : PE X o ta) (ha : PA X (e :: es) t)
    (hst : starEach (e :: es) X.env = (false, eval e X.env) :: starEach es X.env := by rfl) (hpl : (backTo pos (starEach es X.env)).any (·.1) = false := by rfl)
    (ht : eval (.Call (.Attribute o m apos) (e :: es) [] pos) X.env = (do
      let ov ← eval o X.env
      standAt apos.atName
      let (f, first) ← holding [ov] (getMethod ov m pl)
      callWith pos f first (backTo pos (starEach (e :: es) X.env)) (backToKw pos (keywordEach [] X.env))) := by rfl) :
    PE X (.Call (.Attribute o m apos) (e :: es) [] pos) (tMc C m sp E ta t) := by
  obtain ⟨f, fd, F, hm, hb⟩ := M.ex
  refine ⟨fun pins s σ H Q I h => ?_⟩
  refine PySem.W.methodCall_KW (pl := pl) (thn (he.run pins s σ H _ I h) fun u s1 ⟨x, H1, I1, rx, a, dx, fs, ex, ea, l, q⟩ => ?_) ht
  subst ex
  obtain rfl : u = Value.ref a := rx
  refine getmeth_ok I1 ea U.cl hm l ?_
  refine PySem.W.callWith_K (first := [.ref a]) (h₀ := X.base) I.ok.mod.kin hm.kp (thn (ha.run pos pins s1 σ H1 _ I1 q) fun us s2 ⟨vs, H2, I2, r, q2⟩ => ⟨I2.kIn, ?_⟩) hst hpl
  exact run_fnG (us := .ref a :: us) (vs := .ref a :: vs) F hr gd hb hx I2 (.cons rfl r) q2
/-- o.m() -/
theorem pe_mc0 {E : XK} {pl : Sem Bool} (U : UseC X.K X.mg x fs C) (M : UseM X.prog X.w X.K X.mg X.base CX C m k ps sp) (hx : Passes CX X E) (hr : Room k X.A) (gd : X.A.guards = some []) (he : PE X o ta)
    (ht : eval (.Call (.Attribute o m apos) [] [] pos) X.env = (do
      let ov ← eval o X.env
      standAt apos.atName
      let (f, first) ← holding [ov] (getMethod ov m pl)
      callWith pos f first (backTo pos (starEach [] X.env)) (backToKw pos (keywordEach [] X.env))) := by rfl) :
    PE X (.Call (.Attribute o m apos) [] [] pos) (tMc C m sp E ta tNil) := by
  obtain ⟨f, fd, F, hm, hb⟩ := M.ex
  refine ⟨fun pins s σ H Q I h => ?_⟩
  refine PySem.W.methodCall_KW (pl := pl) (thn (he.run pins s σ H _ I h) fun u s1 ⟨x, H1, I1, rx, a, dx, fs, ex, ea, l, q⟩ => ?_) ht
  subst ex
  obtain rfl : u = Value.ref a := rx
  refine getmeth_ok I1 ea U.cl hm l ?_
  exact PySem.W.callWith_K0 (first := [.ref a]) I1.kIn hm.kp (run_fnG (us := [.ref a]) (vs := [.ref a]) F hr gd hb hx I1 (.cons rfl .nil) q)
/-- C(e, ..) -/
theorem pe_mk (M : UseK X.prog X.w X.K X.mg X.base x C k ps sp) (hr : Room (k + 1) X.A) (hg : Gl X x) (ha : PA X (e :: es) t) (hdb : (x == ("__debug__" : Str)) = false := by decide) (he : starEach (e :: es) X.env = (false, eval e X.env) :: starEach es X.env := by rfl)
    (hpl : (backTo pos (starEach es X.env)).any (·.1) = false := by rfl) : PE X (.Call (.Name x p) (e :: es) [] pos) (tMk C sp t) := by
  obtain ⟨f, fd, F, mk, hb, hm⟩ := M.ex
  have R := pe_make (p := p) (pos := pos) mk F hr hg hm hb .nil pass0 ha hdb he hpl
  refine ⟨fun pins s σ H Q I h => R.run pins s σ H Q I ?_⟩
  have e0 : (tMake C sp [] E0 t : TE) = tMk C sp t := by
    funext σ H Q
    unfold tMake tMk
    simp only [List.append_nil]
  rw [e0]; exact h
end
end LK

set_option Elab.async false
set_option linter.all false
set_option maxRecDepth 100000
set_option maxHeartbeats 4000000
/-! Calls with keyword-only arguments. -/
namespace LK
open PySem PySem.Spec PyProof.Rows L2
structure UseN (P : Program) (w : World) (K : PySem.W.Frag) (mg : Str → Option Value) (base : Heap) (CX : CXT) (x : Str) (k : Nat) (ps : List Str) (n : Nat) (ks : List Str) (sp : Sp) : Prop where
  ex : ∃ (f : Addr) (fd : FuncData), FnG P w K mg base CX k f fd ps sp ∧ mg x = some (.ref f) ∧ PySem.W.keepIn K (.ref f) = true ∧ KBn K fd ps n ks (fun a b => a ++ b) (fun a b => a ++ b)
section
variable {P : Program} {w : World} {K : PySem.W.Frag} {mg : Str → Option Value} {base h : Heap} {CX : CXT}
theorem mk_useN {x : Str} {st : Stmt} {k n : Nat} {ps ks : List Str} {sp : Sp} (F : HasFn K x st) (X : K.In h) (G : h.Ns mainGlobals mg)
    (hb : ∀ (kV doc pm : Value) (an : Option Addr) (cdv ct : Value) (us ws : List Value), us.length = n → ws.length = ks.length → bindArgs (PySem.W.fnOf x x (defArgs st) (defBody st) (defScope st) .none kV doc pm an cdv ct) ⟨us, ks.zip ws⟩ = pure (ps.zip (us ++ ws)))
    (ok : ∀ (f : Addr) (fd : FuncData), Fun K x x st f fd → FnG P w K mg base CX k f fd ps sp) : UseN P w K mg base CX x k ps n ks sp := by
  obtain ⟨f, oc, od, an, kV, doc, pm, cdv, ct, osl, e, l, c, kp⟩ := F
  have Fn := fun_mk (st := st) l c kp
  exact ⟨f, _, ok f _ Fn, PySem.W.mg_of X G e, kp, ⟨fun s us ws _ l1 l2 => .of_eq (hb _ _ _ _ _ _ _ _ l1 l2), fun a b => a.append b⟩⟩
end
section
variable {X : Cx} {CX : CXT} {E : XK} {k n : Nat} {x : Str} {ps ks : List Str} {sp : Sp} {p pos : Pos} {e : Expr} {es : List Expr} {kws : List Keyword} {t tk : TA}
theorem pe_useN (U : UseN X.prog X.w X.K X.mg X.base CX0 x k ps n ks sp) (hr : Room k X.A) (gd : X.A.guards = some []) (hg : Gl X x) (ha : PA X (e :: es) t) (hkw : PK X kws tk)
    (hall : (backToKw pos (keywordEach kws X.env)).all (·.1.isSome) = true := by rfl) (hks : (backToKw pos (keywordEach kws X.env)).filterMap (·.1) = ks := by rfl)
    (hdb : (x == ("__debug__" : Str)) = false := by decide) (he : starEach (e :: es) X.env = (false, eval e X.env) :: starEach es X.env := by rfl)
    (hpl : ((backTo pos (starEach (e :: es) X.env)).any (·.1) || (backToKw pos (keywordEach kws X.env)).any (·.1.isNone)) = false := by rfl) :
    PE X (.Call (.Name x p) (e :: es) kws pos) (tCallN n ks.length sp (fun a b => a ++ b) E0 t tk) := by
  obtain ⟨f, fd, F, hm, hk, hb⟩ := U.ex
  refine ⟨fun pins s σ H Q I h => ?_⟩
  refine wpAny_Call_Name_kw (ld_glob I hg hm ?_ hdb)
  refine PySem.W.callWith_KW (h₀ := X.base) I.ok.mod.kin hk hall (thn (ha.run pos pins s σ H _ I h) fun us s1 ⟨vs, H1, I1, r, q⟩ => ?_) hpl he
  refine thn (hkw.run pos pins s1 σ H1 _ I1 q) fun ws s2 ⟨zs, H2, I2, rz, l1, l2, q2⟩ => ⟨I2.kIn, ?_⟩
  rw [hks]
  have r2 := hb.rel r rz
  refine wpAny_call (codeAny_mono (F.run X.A X.stack s2 H2 ⟨us, ks.zip ws⟩ (us ++ ws) (vs ++ zs) Q _ hr gd I2.env0 (hb.to s2 us ws I2.kIn (r.length.symm.trans l1) (rz.length.symm.trans l2)) r2 q2) fun res s' hq => ?_)
  match res, hq with
  | .error e, hq => exact pass0 pins σ H2 s2 e s' I2 hq
  | .ok (.ret u), hq => exact I2.after hq
  | .ok .next, hq => exact hq.elim
  | .ok .brk, hq => exact hq.elim
  | .ok .cont, hq => exact hq.elim
end
end LK

set_option Elab.async false
set_option linter.all false
set_option maxRecDepth 100000
set_option maxHeartbeats 4000000
/-! list(reversed(x)) of a tuple -/
namespace LK
open PySem PySem.Spec PyProof.Rows L2 SX
theorem nolen_rt : typeLookup (.type "reversed") "__len__" = pure none := by rw [typeLookup_type, builtinLookup_eq_fast]; kernel_rfl
theorem slot_rt_hint : Slot "reversed" "__length_hint__" "reversed.__length_hint__" :=
  .of (owner := "reversed") (n := "__length_hint__") (by rw [typeLookup_type, builtinLookup_eq_fast]; kernel_rfl) (by decide +kernel) (by decide +kernel) (by decide +kernel)
    (by first | exact .inl (by decide +kernel) | exact .inr (by decide +kernel)) (by rw [isSubtype_type]; kernel_rfl)
theorem entry_rt_hint : entryFor table "reversed.__length_hint__" = some Builtin.«reversed.__length_hint__» := entryFor_of_tree (by kernel_rfl)
theorem args_rt_hint (a : Value) : argsOk "reversed.__length_hint__" ⟨[a], []⟩ := by
  unfold argsOk; rw [signature?_of (id := "reversed.__length_hint__") (n := ['_', '_', 't', 'n', 'i', 'h', '_', 'h', 't', 'g', 'n', 'e', 'l', '_', '_']) (o := ['d', 'e', 's', 'r', 'e', 'v', 'e', 'r']) (by kernel_rfl) RT.owner_rt]; kernel_rfl
section
variable {prog : Program} {w : World} {A : Around} {E : Value → Shared → Prop} {s : Shared}
theorem hint_rt {it t : Addr} {items : Array Value} {Q : Bool → Shared → Prop} (hit : RT.IsRt s.heap it t ((items.size : Int) - 1)) (ht : IsTup s.heap t items) (hn : items.size ≤ sizeLine)
    (hQ : ∀ b tk, Q b { s with toks := tk }) : wpAny (model prog w) A (Builtin.List.listLengthHint (.ref it)) Q E s := by
  have hT : s.TypeIs (.ref it) "reversed" := hit.typeIs
  obtain ⟨o, ho, hc, hd⟩ := id hit
  unfold Builtin.List.listLengthHint
  refine wpAny_bind (wpAny_specialOf hT nolen_rt ?_)
  show wpAny _ _ (specialOf (Value.ref it) (Str.ofString "__length_hint__") >>= _) _ _ _
  refine wpAny_bind (wpAny_specialOf hT slot_rt_hint.lookup ?_)
  generalize hid : ("reversed.__length_hint__" : String) = id0
  wp_delta
  rw [show splitId id0 = some ("reversed", "__length_hint__") from by subst hid; decide +kernel]
  subst hid
  refine wpAny_bind (wpAny_isInstance (b := true) hT (by rw [isSubtype_type]; kernel_rfl) ?_)
  rw [if_neg (by decide)]
  rw [if_neg (by decide +kernel)]
  refine wpAny_bind (wpAny_rule ?_)
  refine wpAny_bind (wpAny_of_eq (slot_rt_hint.bind (.ref it)) ?_)
  refine wpAny_bind (wpAny_attempt (wpAny_call_entry slot_rt_hint hT entry_rt_hint ?_ (args_rt_hint _)))
  unfold Builtin.«reversed.__length_hint__»
  refine wpAny_bind (wpAny_of_eq (a := Value.ref it) rfl ?_)
  refine wpAny_bind (wpAny_field ho hd (x := .ref t) rfl ?_)
  rw [if_neg (show ¬ ((Value.ref t == Value.none) = true) from Bool.false_ne_true)]
  refine wpAny_bind (len_tuple ht (by rw [sizeLine_eq] at hn; omega) ?_)
  refine wpAny_bind (wpAny_of_eq (a := some ((items.size : Nat) : Int)) rfl ?_)
  refine wpAny_bind (wpAny_field (s := { s with toks := s.toks + 1 + 1 }) ho hd (x := rawInt ((items.size : Int) - 1)) rfl ?_)
  show wpAny _ _ (if ((items.size : Nat) : Int) < (items.size : Int) - 1 + 1 then _ else _) _ _ _
  rw [if_neg (by omega)]
  have e1 : (items.size : Int) - 1 + 1 = ((items.size : Nat) : Int) := by omega
  rw [e1]
  have hz := hn
  rw [sizeLine_eq] at hz
  unfold retInt
  refine wpAny_bind (wpAny_mkInt ?_)
  refine wpAny_pure ⟨_, rfl, ?_⟩
  dsimp only
  have f0 : ¬ (((items.size : Nat) : Int) < 0) := Int.not_lt.mpr (Int.natCast_nonneg _)
  have f1 : Builtin.List.listFitsIndex ((items.size : Nat) : Int) = true := by
    unfold Builtin.List.listFitsIndex
    rw [Bool.and_eq_true]
    exact ⟨decide_eq_true (by omega), decide_eq_true (by omega)⟩
  have f2 : Builtin.List.listTooLong ((items.size : Nat) : Int).toNat = false := by
    unfold Builtin.List.listTooLong
    rw [Int.toNat_natCast]
    exact decide_eq_false (Nat.not_lt.mpr hn)
  have f3 : ∀ tk, asInt? (Value.int ((items.size : Nat) : Int) tk) = pure (some ((items.size : Nat) : Int)) := fun _ => rfl
  generalize ((items.size : Nat) : Int) = N at f0 f1 f2 f3 ⊢
  rw [f3]
  refine wpAny_bind (wpAny_pure ?_)
  dsimp only
  rw [f1, if_neg (show ¬ ((!true) = true) by decide), if_neg f0, f2, if_neg Bool.false_ne_true]
  exact wpAny_pure (hQ _ _)
theorem walks_rt {t it : Addr} {items : Array Value} (hh : A.handled = none) (hne : t ≠ it) (hn : items.size ≤ sizeLine) :
    Walks prog w A it [it, t] [it] items.size (fun i v => items[items.size - 1 - i]? = some v) (fun i h => i ≤ items.size ∧ RT.IsRt h it t ((items.size : Int) - 1 - (i : Nat)) ∧ IsTup h t items) where
  sub := fun b hb => by rw [List.mem_singleton.mp hb]; simp
  frame := fun i h h' st hk => ⟨st.1, st.2.1.at fun o e => hk it (by simp) o e, let ⟨o, ho, r⟩ := st.2.2; ⟨o, hk t (by simp) o ho, r⟩⟩
  item := fun i s Q E hi st hQ => by
    have e1 : (items.size : Int) - 1 - ((i : Nat) : Int) = ((items.size - 1 - i : Nat) : Int) := by omega
    have st2 := st.2.1
    rw [e1] at st2
    have hx : items[items.size - 1 - i]? = some (items[items.size - 1 - i]'(by omega)) := Array.getElem?_eq_getElem (by omega)
    refine RT.next_rt_item st2 st.2.2 hx hn fun h' hit' sb => ?_
    have e2 : ((items.size - 1 - i : Nat) : Int) - 1 = (items.size : Int) - 1 - ((i + 1 : Nat) : Int) := by omega
    rw [e2] at hit'
    exact hQ _ h' _ hx ⟨hi, hit', let ⟨o, ho, r⟩ := st.2.2; ⟨o, (sb.2 t hne).trans ho, r⟩⟩ fun b o hb e => (sb.2 b (fun h => hb (by simp [h]))).trans e
  done := fun s Q E st hQ => by
    have st2 := st.2.1
    rw [show (items.size : Int) - 1 - ((items.size : Nat) : Int) = -1 by omega] at st2
    exact RT.next_rt_end hh st2 fun h' he => hQ h' s.toks fun b o hb e => he b o (fun h => hb (by simp [h])) e
  self := fun i s Q E st h => RT.iter_rt st.2.1 h
theorem extend_rt {R : Result → Shared → Prop} {it t S : Addr} {items : Array Value} (res : Value) (c₀ : Nat) (hh : A.handled = none) (hit : RT.IsRt s.heap it t ((items.size : Int) - 1)) (ht : IsTup s.heap t items) (hne : t ≠ it) (hn : items.size ≤ sizeLine) (hSi : S ≠ it) (hSt : S ≠ t)
    (hS : s.heap.get? S = some { cls := .type "list", data := .seq #[] c₀ })
    (hR : ∀ h' tk acc' c', (∀ b o, b ≠ S → b ≠ it → s.heap.get? b = some o → h'.get? b = some o) → h'.get? S = some { cls := .type "list", dict := none, data := .seq acc' c', slots := #[] } → ItemsOf (fun i v => items[items.size - 1 - i]? = some v) acc' items.size → R (.ok (.ret res)) { s with heap := h', toks := tk }) :
    wpAny (model prog w) A.in1 (Builtin.List.listExtendWith (.ref S) (.ref it) res)
      (fun fin s' => match fin with | .done f => R (.ok f) s' | .again c' => c'.quiet = true ∧ codeAny (model prog w) A c' R s') (fun e s' => R (.error e) s') s := by
  have W := walks_rt (prog := prog) (w := w) (A := A.in1) (items := items) hh hne hn
  have hSf : S ∉ [it, t] := by simp only [List.mem_cons, List.not_mem_nil, or_false, not_or]; exact ⟨hSi, hSt⟩
  have key : ∀ (h : Heap) (c₁ tk : Nat), (∀ b o, b ≠ S → s.heap.get? b = some o → h.get? b = some o) →
      h.get? S = some { cls := .type "list", data := .seq #[] c₁ } → codeAny (model prog w) A (.builtin "list.extend.loop" ⟨[.ref S, .ref it, res], []⟩) R { s with heap := h, toks := tk } := by
    intro h c₁ tk hk hS₁
    have hst : (fun (i : Nat) (h : Heap) => i ≤ items.size ∧ RT.IsRt h it t ((items.size : Int) - 1 - (i : Nat)) ∧ IsTup h t items) 0 h :=
      ⟨Nat.zero_le _, by rw [show (items.size : Int) - 1 - ((0 : Nat) : Int) = (items.size : Int) - 1 by omega]; exact hit.at fun o e => hk it o (Ne.symm hSi) e, let ⟨o, ho, r⟩ := ht; ⟨o, hk t o (Ne.symm hSt) ho, r⟩⟩
    refine codeAny_extend_loopS W.toS hn S hSf res items.size 0 _ #[] c₁ rfl (Nat.zero_le _) hst hS₁ (ItemsOf.nil _) fun s' acc' c' hm hS' hacc => ?_
    rw [Moved.eq_with hm]
    refine hR s'.heap s'.toks acc' c' (fun b o hb hb2 e => hm.heap b o (fun hmem => ?_) (hk b o hb e)) hS' hacc
    rcases List.mem_cons.mp hmem with e' | hmem
    · exact hb e'
    · exact hb2 (List.mem_singleton.mp hmem)
  have hT : s.TypeIs (.ref it) "reversed" := hit.typeIs
  have h1 : Builtin.List.listSameRef (.ref S) (.ref it) = false := by simp [Builtin.List.listSameRef, hSi]
  unfold Builtin.List.listExtendWith
  refine wpAny_bind (wpAny_typeOf hT ?_)
  rw [if_neg (by rw [h1]; decide)]
  refine wpAny_bind (RT.iter_rt hit ?_)
  refine wpAny_bind (wpAny_holding (hint_rt hit ht hn fun b tk => ?_))
  refine wpAny_ite_split (fun _ => ?_) (fun _ => wpAny_pure ⟨plainId_quiet PySem.F.plain_extend_loop _, key _ c₀ _ (fun b o _ e => e) hS⟩)
  refine wpAny_bind (wpAny_rule ?_)
  refine wpAny_bind ?_
  show wpAny _ _ (updateSeq S (·.push .none) >>= fun _ => updateSeq S (·.pop)) _ _ _
  refine wpAny_bind (wpAny_updateSeq (s := { s with toks := tk }) hS rfl ?_)
  have hS₂ := Heap.get?_update_self (Obj.mapSeq (·.push Value.none)) hS rfl
  refine wpAny_updateSeq (hz := by seq_fits) hS₂ rfl ?_
  have hS₃ := Heap.get?_update_self (Obj.mapSeq (·.pop)) hS₂ rfl
  refine wpAny_pure ⟨plainId_quiet PySem.F.plain_extend_loop _, key _ _ _ (fun b o hb e => ?_) hS₃⟩
  exact (Heap.get?_update_other _ _ (Ne.symm hb)).trans ((Heap.get?_update_other _ _ (Ne.symm hb)).trans e)
theorem call_listRt {it t : Addr} {items : Array Value} {Q : Value → Shared → Prop} (hh : A.handled = none) (hit : RT.IsRt s.heap it t ((items.size : Int) - 1)) (ht : IsTup s.heap t items) (hne : t ≠ it) (hn : items.size ≤ sizeLine)
    (hQ : ∀ h' tk acc' c', (∀ b o, b ≠ it → s.heap.get? b = some o → h'.get? b = some o) → h'.get? s.heap.objs.size = some { cls := .type "list", dict := none, data := .seq acc' c', slots := #[] } → ItemsOf (fun i v => items[items.size - 1 - i]? = some v) acc' items.size → Q (.ref s.heap.objs.size) { s with heap := h', toks := tk }) :
    wpAny (model prog w) A (call (.type "list") [.ref it]) Q E s := by
  refine callType_codes (Q₁ := fun obj s₁ => obj = .ref s.heap.objs.size ∧ s₁ = { s with heap := s.heap.push { cls := .type "list", data := .seq #[] } }) PySem.F.called_list (PySem.F.typeCall_list_1 _) PySem.F.entry_list_init
    (code_list_new _ ⟨rfl, rfl⟩) fun obj s₁ h₁ => ?_
  obtain ⟨rfl, rfl⟩ := h₁
  have hS : (s.heap.push { cls := .type "list", data := .seq #[] }).get? s.heap.objs.size = some { cls := .type "list", data := .seq #[] } := Heap.get?_push_size _ rfl
  have li : it < s.heap.objs.size := let ⟨_, e, _⟩ := hit; Heap.lt_size e
  have lt : t < s.heap.objs.size := let ⟨_, e, _⟩ := ht; Heap.lt_size e
  refine ⟨⟨_, hS, rfl⟩, PySem.F.args_list_init_2 _ _, ?_⟩
  show wpAny _ _ (do let old ← Builtin.List.listItems (.ref s.heap.objs.size); Builtin.List.listUpdate (.ref s.heap.objs.size) (fun _ => #[]); letGo old.toList.reverse; Builtin.List.listExtendWith (.ref s.heap.objs.size) (.ref it) .none) _ _ _
  refine wpAny_bind ?_
  unfold Builtin.List.listItems
  refine wpAny_bind (wpAny_seqItems hS rfl (wpAny_pure ?_))
  show wpAny _ _ (updateSeq s.heap.objs.size (fun _ => #[]) >>= fun _ => letGo (#[] : Array Value).toList.reverse >>= fun _ => Builtin.List.listExtendWith (.ref s.heap.objs.size) (.ref it) .none) _ _ _
  refine wpAny_bind (wpAny_updateSeq hS rfl ?_)
  have hS₂ := Heap.get?_update_self (Obj.mapSeq (fun _ => (#[] : Array Value))) hS rfl
  have oth : ∀ b o, b ≠ s.heap.objs.size → s.heap.get? b = some o → ((s.heap.push { cls := .type "list", data := .seq #[] }).update s.heap.objs.size (Obj.mapSeq (fun _ => (#[] : Array Value)))).get? b = some o :=
    fun b o hb e => (Heap.get?_update_other _ _ (Ne.symm hb)).trans (Heap.get?_push_of_some _ e)
  refine wpAny_bind (wpAny_letGo ?_)
  refine extend_rt (A := A.in1) .none _ hh (hit.at fun o e => oth it o (Nat.ne_of_lt li) e) (let ⟨o, ho, r⟩ := ht; ⟨o, oth t o (Nat.ne_of_lt lt) ho, r⟩) hne hn (Nat.ne_of_gt li) (Nat.ne_of_gt lt) hS₂ fun h' tk acc' c' hk hS' hacc => ?_
  exact ⟨rfl, hQ h' tk acc' c' (fun b o hb e => hk b o (Nat.ne_of_lt (Heap.lt_size e)) hb (oth b o (Nat.ne_of_lt (Heap.lt_size e)) e)) hS' hacc⟩
end
def tListRev (K : PySem.W.Frag) (te : TE) : TE := fun σ H Q => te σ H fun v H1 => ∃ (a : Addr) (xs : List V), v = .ref a ∧ SqT K H1 a xs ∧ ∀ q, H1 q = none → Q (.ref q) (L2.upd H1 q (.lst xs.reverse))
theorem pe_listRevT {X : Cx} {e : Expr} {te : TE} {p p2 pos pos2 : Pos} (hc : X.calm = true) (hg : Gl X "list") (hm : X.mg "list" = none) (hg2 : Gl X "reversed") (hm2 : X.mg "reversed" = none) (he : PE X e te)
    (hs : starEach [e] X.env = (false, eval e X.env) :: starEach [] X.env := by rfl)
    (hs2 : starEach [.Call (.Name "reversed" p2) [e] [] pos2] X.env = (false, eval (.Call (.Name "reversed" p2) [e] [] pos2) X.env) :: starEach [] X.env := by rfl) :
    PE X (.Call (.Name "list" p) [.Call (.Name "reversed" p2) [e] [] pos2] [] pos) (tListRev X.K te) := by
  refine ⟨fun pins s σ H Q I h => ?_⟩
  refine Call_ (ld_blt I hg hm PyProof.Rows.boot_list (PyProof.Rows.callWith_type1 (args_cons (Call_ (ld_blt I hg2 hm2 PyProof.Rows.boot_reversed (PyProof.Rows.callWith_type1 (args_cons (thn (he.run pins s σ H _ I h) fun u s1 ⟨v, H1, I1, r1, q1⟩ => args_nil ?_) hs) hs rfl))) hs2) hs2 rfl))
  obtain ⟨a, xs, ev, hq, q⟩ := q1
  subst ev
  obtain rfl : u = Value.ref a := r1
  obtain ⟨its, rv, p', hz⟩ := I1.tuple hq
  have hn : its.toArray.size ≤ sizeLine := by rw [List.size_toArray, ← rv.length]; exact hz
  refine RT.call_reversed_tup p' (fun A E Q k => len_tuple p' (by rw [sizeLine_eq] at hn; omega) k) (args_nil ?_)
  have k0 : ∀ b o, s1.heap.get? b = some o → (s1.heap.push (RT.rtObj a ((its.toArray.size : Int) - 1))).get? b = some o := fun b o e => Heap.get?_push_of_some _ e
  have I2 : Inv X pins σ H1 { s1 with heap := s1.heap.push (RT.rtObj a ((its.toArray.size : Int) - 1)), toks := s1.toks + 1 + 1 } := I1.kept (t' := s1.toks + 1 + 1) k0
  obtain ⟨f0, f1, f2, f3, f4, f5⟩ := I1.fpOk (H' := H1) (b := s1.heap.objs.size) (Nat.le_refl _) (I1.hok.fresh (Nat.le_refl _))
  obtain ⟨oa, hoa, _⟩ := id p'
  have hne : a ≠ s1.heap.objs.size := Nat.ne_of_lt (Heap.lt_size hoa)
  refine call_listRt (s := { s1 with heap := s1.heap.push (RT.rtObj a ((its.toArray.size : Int) - 1)), toks := s1.toks + 1 + 1 }) (I1.ok.hd hc) ⟨_, Heap.get?_push_size _ rfl, rfl, rfl⟩ (p'.keeps k0) hne hn fun h' tk acc c hk hS' hi => ?_
  have szp : (s1.heap.push (RT.rtObj a ((its.toArray.size : Int) - 1))).objs.size = s1.heap.objs.size + 1 := Heap.size_push ..
  have kk : ∀ b o, s1.heap.get? b = some o → h'.get? b = some o := fun b o e => hk b o (Nat.ne_of_lt (Heap.lt_size e)) (k0 b o e)
  have le : s1.heap.objs.size ≤ (s1.heap.push (RT.rtObj a ((its.toArray.size : Int) - 1))).objs.size := by rw [szp]; exact Nat.le_succ _
  refine ⟨.ref (s1.heap.push (RT.rtObj a ((its.toArray.size : Int) - 1))).objs.size, L2.upd H1 _ (.lst xs.reverse), I1.laid (t' := tk) kk le (show ObjOk X.prog X.w _ _ _ (.lst xs.reverse) from ⟨by rw [List.length_reverse]; exact hz, acc.toList, c, RT.vals_rev rv hi, ?_⟩), rfl, q _ (I1.hok.fresh le)⟩
  rw [Array.toArray_toList]
  exact hS'
end LK

set_option Elab.async false
set_option linter.all false
set_option maxRecDepth 100000
set_option maxHeartbeats 4000000
/-! defs that call themselves: a promise by depth, each depth from the one before -/
namespace LK
open PySem PySem.Spec PyProof.Rows L2 SX
section
variable {P : Program} {w : World} {K : PySem.W.Frag} {mg : Str → Option Value} {base h : Heap} {CX : CXT}
/-- sp 0 asks for nothing that can be (it is false); depth n + 1 may use depth n -/
theorem mk_useR {x : Str} {st : Stmt} {ps : List Str} (sp : Nat → Sp) (k0 : Nat) (F : HasFn K x st) (X : K.In h) (G : h.Ns mainGlobals mg)
    (hb : ∀ (kV doc pm : Value) (an : Option Addr) (cdv ct : Value) (us : List Value), us.length = ps.length → bindArgs (PySem.W.fnOf x x (defArgs st) (defBody st) (defScope st) .none kV doc pm an cdv ct) ⟨us, []⟩ = pure (ps.zip us))
    (h0 : ∀ vs H Q E, ¬ sp 0 vs H Q E)
    (ok : ∀ (n : Nat), Use P w K mg base CX x (k0 + n) ps (sp n) → ∀ (f : Addr) (fd : FuncData), Fun K x x st f fd → FnG P w K mg base CX (k0 + n + 1) f fd ps (sp (n + 1))) : ∀ n, Use P w K mg base CX x (k0 + n) ps (sp n)
  | 0 => by
    obtain ⟨f, oc, od, an, kV, doc, pm, cdv, ct, osl, e, l, c, kp⟩ := F
    have Fn := fun_mk (st := st) l c kp
    exact ⟨f, _, ⟨fun vs H Q E s => absurd s (h0 vs H Q E), fun _ _ _ _ _ _ vs Q E _ _ _ _ _ s => absurd s (h0 _ _ _ _)⟩, PySem.W.mg_of X G e, kp, Fn.binds hb⟩
  | n + 1 => mk_use F X G hb (ok n (mk_useR sp k0 F X G hb h0 ok n))
end
end LK

set_option Elab.async false
set_option linter.all false
set_option maxRecDepth 100000
set_option maxHeartbeats 4000000
/-! The own exception with one field (place) in the layer: raise, its init, what an except asks of it; defs called while an exception is held. -/
namespace LK
open PySem PySem.Spec PyProof.Rows L2 NdefX SupX
/-! ### a def called in the suite of an except -/
structure FnP (P : Program) (w : World) (K : PySem.W.Frag) (mg : Str → Option Value) (base : Heap) (k : Nat) (f : Addr) (fd : FuncData) (ps : List Str) (sp : Sp) : Prop where
  len : ∀ vs H Q E, sp vs H Q E → vs.length = ps.length
  go : ∀ (A : Around) (outer : List Env) (s : Shared) (H : Hp) (args : Args) (us : List Value) (vs : List V) (Q : VK) (E : XK) (p : Addr × Obj), L2H.RoomH k A → L2H.PinOk outer H s p → Env0 P w K mg base A outer s H → BindsTo s fd args (ps.zip us) →
    Vals vs us → sp vs H Q E → codeAny (model P w) A (.call (.ref f) args) (CR CX0 outer P w H s Q E) s
section
variable {P : Program} {w : World} {K : PySem.W.Frag} {mg : Str → Option Value} {base h : Heap}
theorem okP {x qual : Str} {st : Stmt} {f : Addr} {fd : FuncData} {N ps : List Str} {k : Nat} {sp : Sp} (F : Fun K x qual st f fd) (S : FnScope N ps (defScope st)) (len : ∀ vs H Q E, sp vs H Q E → vs.length = ps.length)
    (body : ∀ (cdv : Value) (A : Around) (outer : List Env) (s : Shared) (H : Hp) (vs : List V) (Q : VK) (E : XK) (p : Addr × Obj), L2H.RoomH k (A.deeper (envOfC qual (defScope st) s.heap.objs.size f cdv)) → sp vs H Q E →
      ∃ t, PSs (L2H.cxH CX0 P w K mg base N qual (defScope st) f cdv A outer s H E p) (defBody st) t ∧ t { nx := fun _ H' => Q .non H', rt := Q } (start N vs) H) : FnP P w K mg base (k + 1) f fd ps sp := by
  obtain ⟨oc, od, kV, doc, pm, an, cdv, ct, osl, rfl, lk, hcd⟩ := F.ex
  refine ⟨len, fun A outer s H args us vs Q E p hr pin e0 hb r hsp => ?_⟩
  have inn : K.In s.heap := e0.mod.kin.keeps fun b o e => (e0.bs b o e).1
  refine codeAny_call_function hr.depth (inn _ _ lk) rfl S.co S.gen rfl (PySem.W.codeRec_of inn hcd) (hb _ _ _ _ ?_)
  refine wpAny_newFunctionEnv_cells S.kind (fun y hy => ?_) fun env he s1 made => ?_
  · obtain ⟨n, v⟩ := y
    exact (S.par n (List.of_mem_zip hy).1).elim .inl fun q => .inr ⟨q, PySem.W.cellsFrom_some _ _ _ (.inl q)⟩
  · subst he
    have lim : s.heap.NoLimit := e0.mod.nolimit.keeps fun b o e => (e0.bs b o e).1
    refine ⟨lim.keeps made.toInCall.keep, codeAny_func ?_⟩
    obtain ⟨t, ht, hq⟩ := body cdv A outer s H vs Q E p (hr.deeper _) hsp
    refine wpAny_mono (ht.run [] s1 (start N vs) H _ (L2H.inv_startH S pin e0 (len _ _ _ _ hsp) r made) hq) (fun fl s2 hs => ?_) fun e s2 hs => hs
    cases fl with
    | ret u => exact let ⟨v, _, H2, J, rv, q⟩ := hs; ⟨v, H2, J.os, J.bare, J.base, J.hok, rv, q⟩
    | next => exact let ⟨_, H2, J, q⟩ := hs; ⟨V.non, H2, J.os, J.bare, J.base, J.hok, rfl, q⟩
    | brk => exact let ⟨_, _, _, q⟩ := hs; q.elim
    | cont => exact let ⟨_, _, _, q⟩ := hs; q.elim
structure UseP (P : Program) (w : World) (K : PySem.W.Frag) (mg : Str → Option Value) (base : Heap) (x : Str) (k : Nat) (ps : List Str) (sp : Sp) : Prop where
  ex : ∃ (f : Addr) (fd : FuncData), FnP P w K mg base k f fd ps sp ∧ mg x = some (.ref f) ∧ PySem.W.keepIn K (.ref f) = true ∧ Binds K fd ps []
theorem mk_useP {x : Str} {st : Stmt} {k : Nat} {ps : List Str} {sp : Sp} (F : HasFn K x st) (X : K.In h) (G : h.Ns mainGlobals mg)
    (hb : ∀ (kV doc pm : Value) (an : Option Addr) (cdv ct : Value) (us : List Value), us.length = ps.length → bindArgs (PySem.W.fnOf x x (defArgs st) (defBody st) (defScope st) .none kV doc pm an cdv ct) ⟨us, []⟩ = pure (ps.zip us))
    (ok : ∀ (f : Addr) (fd : FuncData), Fun K x x st f fd → FnP P w K mg base k f fd ps sp) : UseP P w K mg base x k ps sp := by
  obtain ⟨f, oc, od, an, kV, doc, pm, cdv, ct, osl, e, l, c, kp⟩ := F
  have Fn := fun_mk (st := st) l c kp
  exact ⟨f, _, ok f _ Fn, PySem.W.mg_of X G e, kp, Fn.binds hb⟩
end
section
variable {X : Cx} {k : Nat} {x : Str} {ps : List Str} {sp : Sp} {p pos : Pos} {e : Expr} {es : List Expr} {t : TA}
theorem pe_useP (U : UseP X.prog X.w X.K X.mg X.base x k ps sp) (hr : L2H.RoomH k X.A) (hp : ∃ q, q ∈ X.pn) (hg : Gl X x) (ha : PA X (e :: es) t) (hdb : (x == ("__debug__" : Str)) = false := by decide)
    (he : starEach (e :: es) X.env = (false, eval e X.env) :: starEach es X.env := by rfl) (hpl : (backTo pos (starEach es X.env)).any (·.1) = false := by rfl) : PE X (.Call (.Name x p) (e :: es) [] pos) (tUse sp E0 t) := by
  obtain ⟨f, fd, F, hm, kp, hb⟩ := U.ex
  obtain ⟨q0, hq0⟩ := hp
  refine ⟨fun pins s σ H Q I h => wpAny_Call_Name_kw (ld_glob I hg hm ?_ hdb)⟩
  refine PySem.W.callWith_K (h₀ := X.base) I.ok.mod.kin kp (thn (ha.run pos pins s σ H _ I h) fun us s1 ⟨vs, H1, I1, r, q⟩ => ⟨I1.kIn, ?_⟩) he hpl
  have hl : (us ++ []).length = ps.length := by rw [List.append_nil, ← r.length, F.len _ _ _ _ q]
  have hbs := hb s1 us I1.kIn hl
  rw [List.append_nil] at hbs
  have P1 := I1.pin q0 (List.mem_append_left _ hq0)
  have pin : L2H.PinOk X.stack H1 s1 q0 := ⟨P1.1, P1.2.1, fun hm => (List.mem_cons.mp (I1.stkSub q0.1 hm)).elim P1.2.2.1 P1.2.2.2.1, P1.2.2.2.2⟩
  refine wpAny_call (codeAny_mono (F.go X.A X.stack s1 H1 ⟨us, []⟩ us vs Q E0 q0 hr pin I1.env0 hbs r q) fun res s2 hq => ?_)
  match res, hq with
  | .error e, hq => exact hq.elim
  | .ok (.ret u), hq => exact I1.after hq
  | .ok .next, hq => exact hq.elim
  | .ok .brk, hq => exact hq.elim
  | .ok .cont, hq => exact hq.elim
end
/-! ### the class with the field place -/
def badD (n : Int) : HO := .xd [("place", .int n)]
/-- what its init leaves -/
def spBad (K : PySem.W.Frag) (C : Addr) : Sp := fun vs H Q _ => ∃ (a : Addr) (n : Int), vs = [.ref a, .int n] ∧ H a = some (exo a C none) ∧ n.natAbs < 2 ^ 100 ∧
  ∀ d H', H d = none → H' a = some (exo a C (some d)) → H' d = some (exd d [("place", .int n)]) → (∀ b, b ≠ a → b ≠ d → H' b = H b) → Q .non H'
structure UseB (P : Program) (w : World) (K : PySem.W.Frag) (mg : Str → Option Value) (base : Heap) (C B : Addr) : Prop where
  oex : OexC K C
  xf : XfC K C
  isc : ExcC K C
  mC : mg "BadNumbers" = some (.ref C)
  mB : mg "HoldError" = some (.ref B)
  place : PySem.W.findIn K (.ref C) "place" = some none
  exm : PySem.W.exmOne K (.ref C) (.ref B) = some true
  ini : ∃ (fI : Addr) (fd : FuncData), PySem.W.findIn K (.ref C) "__init__" = some (some (.ref fI)) ∧ PySem.W.typeIn K (.ref fI) = some (.type "function") ∧ FnOk P w K mg base CX0 1 fI fd ["self", "place"] (spBad K C) ∧ Binds K fd ["self", "place"] []
/-- raise BadNumbers(place) -/
def tRaiseB (C : Addr) (ta : TA) (W : WX) : TS := fun _ σ H => ta σ H fun vs H1 => ∃ (n : Int), vs = [.int n] ∧ n.natAbs < 2 ^ 100 ∧ ∀ d, H1 d = none → W (.ref C) (some d) σ (upd H1 d (badD n))
section
variable {X : Cx} {C B : Addr} {W : WX} {e1 : Expr} {es : List Expr} {ta : TA} {p pos pos2 : Pos}
theorem ps_raiseB (U : UseB X.prog X.w X.K X.mg X.base C B) (hc : X.calm = true) (tk : Takes X W) (hr : Room 2 X.A) (hg : Gl X "BadNumbers") (ha : PA X (e1 :: es) ta)
    (he : starEach (e1 :: es) X.env = (false, eval e1 X.env) :: starEach es X.env := by rfl) (hpl : (backTo pos (starEach es X.env)).any (·.1) = false := by rfl) :
    PS X (.Raise (some (.Call (.Name "BadNumbers" p) (e1 :: es) [] pos)) none pos2) (tRaiseB C ta W) := by
  obtain ⟨fI, fd, i1, i2, ok, hb⟩ := U.ini
  have R := ps_raise (pos := pos2) hc tk (pmk_oex (p := p) (pos := pos) U.oex i1 i2 ok hr hb .nil pass0 hg U.mC (pa_up ha) (by decide) he hpl)
  refine ⟨fun pins s σ H D I h => R.run pins s σ H D I ⟨_, h, ?_⟩⟩
  rintro vs H1 ⟨n, rfl, hn, k⟩
  refine ⟨show 1 ≤ 1000 by decide, fun a ha1 => ⟨a, n, rfl, upd_same, hn, fun d H2 hd ha2 hd2 keep => ?_⟩⟩
  have hda : d ≠ a := fun e => by
    subst e
    rw [upd_same] at hd
    cases hd
  rw [upd_ne hda] at hd
  refine ⟨rfl, d, _, ha2, hd2, hd, ?_⟩
  have e : upd (del H2 a) d (.xd [("place", .int n)]) = upd H1 d (badD n) := by
    funext b
    by_cases hb : b = d
    · subst hb
      rw [upd_same, upd_same]; rfl
    · rw [upd_ne hb, upd_ne hb]
      by_cases hba : b = a
      · subst hba
        rw [del_same, ha1]
      · rw [del_ne hba, keep b hba hb, upd_ne hba]
  rw [e]
  exact k d hd
end
section
variable {P : Program} {w : World} {K : PySem.W.Frag} {mg : Str → Option Value} {base : Heap} {F : NF} {fI C cc : Addr} {p0 p1 pa pc pe q1 q2 q3 q4 a1 a2 a3 a4 : Pos} {k1 : Nat} {ar : Arg}
theorem bad_ini (T : SupC P K C fI cc F) (hl : PySem.W.findIn K (.ref C) "place" = some none)
    (S : NScope ["self", "place", "__class__"] ["self", "place"] ["__class__"] F.scope)
    (hbd : F.body = [.Expr (.Call (.Attribute (.Call (.Name "super" p0) [] [] p1) "__init__" pa) [.JoinedStr [.Constant (.str "place ") k1 q1, .FormattedValue (.Name "place" q2) (-1) none q3] q4] [] pc) pe,
      .Assign [.Attribute (.Name "self" a1) "place" a2] (.Name "place" a3) a4])
    (hpar : (F.params.posonlyargs ++ F.params.args).head? = some ar) (har : ar.arg = "self") (hks : F.scope.names.lookup ("super" : Str) = some .globalImplicit)
    (hev : ∀ env : Env, ∃ pl : Sem Bool, eval (.Call (.Attribute (.Call (.Name "super" p0) [] [] p1) "__init__" pa) [.JoinedStr [.Constant (.str "place ") k1 q1, .FormattedValue (.Name "place" q2) (-1) none q3] q4] [] pc) env = (do
      let ov ← attributeBase (.Call (.Name "super" p0) [] [] p1) "__init__" env (eval (.Call (.Name "super" p0) [] [] p1) env)
      standAt pa.atName
      let (f, first) ← holding [ov] (getMethod ov "__init__" pl)
      callWith pc f first (backTo pc (starEach [.JoinedStr [.Constant (.str "place ") k1 q1, .FormattedValue (.Name "place" q2) (-1) none q3] q4] env)) [])) :
    ∀ fd, (∃ oc od osl, K.lookup fI = some ⟨oc, od, .func fd, osl⟩) → FnOk P w K mg base CX0 1 fI fd ["self", "place"] (spBad K C) := by
  have v0 : F.scope.names.lookup ("self" : Str) = some .local := S.par _ (by simp)
  have v1 : F.scope.names.lookup ("place" : Str) = some .local := S.par _ (by simp)
  refine sup_ok (k := 0) T S (fun vs H Q E h => ?_) (fun vs H Q E h => ?_) hbd hpar har hks (S.frk _ (by simp)) v0 (fun _ => rfl) (fun _ => rfl) hev fun A outer s H vs Q E hroom h => ?_
  · obtain ⟨a, n, rfl, _⟩ := h
    rfl
  · obtain ⟨a, n, rfl, ha, _⟩ := h
    exact ⟨a, _, rfl, ha⟩
  · obtain ⟨a, n, rfl, ha, hn, k⟩ := h
    refine ⟨_, _, pa_cons (pe_joined (.cons pe_str (.cons (pe_fmt (pe_var (i := 1) rfl (.inl v1))) .nil))) pa_nil,
      pss_one (ps_ost (pe_var (i := 0) rfl (.inl v0)) (pe_var (i := 1) rfl (.inl v1))), ?_⟩
    have hln : (Str.ofString (toString n)).length ≤ 2000 := by
      have hl : n.natAbs.log2 < 1900 := Nat.lt_of_lt_of_le (PySem.Flt.log2_lt_of (k := 100) (by decide) hn) (by decide)
      have e := int_text_length_le (k := 1900) (by decide) hl
      rw [PySem.ofString_length]; omega
    have l1 : (Str.empty ++ ("place " : Str)).length = 6 := by decide +kernel
    refine ⟨_, rfl, by rw [l1]; decide, ?_⟩
    refine ⟨_, rfl, .inr ⟨n, rfl, Nat.lt_of_lt_of_le (PySem.Flt.log2_lt_of (k := 100) (by decide) hn) (by decide), _, rfl, ?_, ?_⟩⟩
    · rw [strLen_append, l1]
      exact Nat.le_trans (show 6 + _ ≤ 3000 by omega) (by decide)
    refine ⟨show 1 ≤ 1000 by decide, a, rfl, ha, ?_⟩
    refine ⟨_, rfl, _, rfl, a, C, rfl, T.oex, hl, .inl ⟨ha, fun d hd hda => ?_⟩⟩
    refine k d _ hd upd_same (by rw [upd_ne hda, upd_same]) fun b hb hbd => ?_
    rw [upd_ne hb, upd_ne hbd]
end
/-! ### from the top's facts -/
abbrev nfB (st : Stmt) (cc cda : Addr) : NF := ⟨"__init__", "BadNumbers.__init__", defArgs st, defBody st, defScope st, [(("__class__" : Str), cc)], cda⟩
structure BadK (P : Program) (K : PySem.W.Frag) (st : Stmt) (C B fI cc cda : Addr) : Prop where
  gC : PySem.W.nsIn K mainGlobals "BadNumbers" = some (some (.ref C))
  gB : PySem.W.nsIn K mainGlobals "HoldError" = some (some (.ref B))
  sup : SupC P K C fI cc (nfB st cc cda)
  xf : XfC K C
  isc : ExcC K C
  place : PySem.W.findIn K (.ref C) "place" = some none
  exm : PySem.W.exmOne K (.ref C) (.ref B) = some true
  ini : PySem.W.findIn K (.ref C) "__init__" = some (some (.ref fI))
  ity : PySem.W.typeIn K (.ref fI) = some (.type "function")
def HasBad (P : Program) (K : PySem.W.Frag) (st : Stmt) (C : Addr) : Prop := ∃ B fI cc cda, BadK P K st C B fI cc cda
section
variable {P : Program} {K : PySem.W.Frag} {st : Stmt} {C B fI cc cda : Addr} {nm q : Str} {N : Addr} {bs bm : List Value} {sn : List Str} {sub : List Value} {ab : Bool} {col : Option Bool} {dd : Option Addr} {k0 k1 k2 k3 k5 : Option Value}
  {oc : Value} {od : Option Addr} {doc pm ctv : Value} {osl : Array (Option Value)} {ccl : Value} {cdd : Option Addr} {vs : Array Value} {ccs : Array (Option Value)} {file : Str} {tf : Tok} {xcl : Value} {xld : Option Addr} {xsl : Array (Option Value)}
theorem HasBad.mk' (a1 : PySem.W.nsIn K mainGlobals "BadNumbers" = some (some (.ref C))) (a2 : PySem.W.nsIn K mainGlobals "HoldError" = some (some (.ref B)))
    (a3 : K.lookup C = some (excClassObj nm q C N bs bm true sn sub ab col dd k0 k1 k2 k3 k5 "ValueError.__new__")) (a4 : PySem.HandSPX.refsVE bm = true)
    (a5 : PySem.W.findIn K (.ref C) "__setattr__" = some (some (.builtin "object.__setattr__"))) (a6 : PySem.W.subIn K (.ref C) (.type "BaseException") = some true) (a7 : PySem.W.typeIn K (.ref C) = some (.type "type")) (a8 : PySem.W.keepIn K (.ref C) = true)
    (b1 : PySem.W.findIn K (.ref C) "__init__" = some (some (.ref fI))) (b2 : PySem.W.typeIn K (.ref fI) = some (.type "function"))
    (b3 : K.lookup fI = some ⟨oc, od, .func ((nfB st cc cda).fd doc pm ctv), osl⟩) (b4 : PySem.W.codeIn K (.ref cda) "BadNumbers.__init__" = true)
    (b5 : K.lookup cda = some ⟨ccl, cdd, .fields vs, ccs⟩) (b6 : vs[2]? = some (.str file tf)) (b7 : ((P.main.file : Str) == file) = true) (b8 : (P.main.scope.names.lookup ("super" : Str)).isSome = false)
    (c1 : K.lookup cc = some ⟨xcl, xld, .cell (some (.ref C)), xsl⟩) (c2 : PySem.W.mroIn K C (.ref C) = some true) (c3 : PySem.W.subIn K (.ref C) (.type "ValueError") = some true)
    (c4 : PySem.W.ks_superIn K C C "__init__" = some (some (.builtin "ValueError.__init__"))) (c5 : PySem.W.nsIn K cStatics "thirdparty.any" = some none) (c6 : PySem.W.nsIn K mainGlobals "super" = some none)
    (d1 : PySem.W.findIn K (.ref C) "__getattribute__" = some (some (.builtin "BaseException.__getattribute__"))) (d2 : PySem.W.findIn K (.ref C) "__getattr__" = some none) (d3 : PySem.W.hasDictIn K C = true)
    (d4 : PySem.W.findIn K (.ref C) "__class__" = some (some (.builtin "object.__class__"))) (d5 : PySem.W.specialIn K (.builtin "object.__class__") "__get__" = some (some (.builtin "getset_descriptor.__get__")))
    (d6 : PySem.W.takesIn K (.builtin "object.__class__") = some true) (d7 : PySem.W.mroIn K C (.type "object") = some true)
    (e1 : PySem.W.findIn K (.ref C) "place" = some none) (e3 : PySem.W.subIn K (.ref B) (.type "BaseException") = some true) (e4 : PySem.W.hasDictIn K B = true) (e5 : PySem.W.typeIn K (.ref B) = some (.type "type")) (e6 : PySem.W.subIn K (.ref C) (.ref B) = some true) : HasBad P K st C :=
  ⟨B, fI, cc, cda, a1, a2, ⟨⟨⟨nm, q, N, bs, bm, sn, sub, ab, col, dd, k0, k1, k2, k3, k5, a3, a4⟩, a5, a6, a7, a8⟩, ⟨oc, od, doc, pm, ctv, osl, b3⟩, rfl, b4, ⟨ccl, cdd, vs, ccs, file, tf, b5, b6, b7⟩, b8, ⟨xcl, xld, xsl, c1⟩, c2, c3, c4, c5, c6⟩,
    ⟨d1, d2, a6, d3⟩, ⟨d1, d2, a6, d3, d4, d5, d6, d7⟩, e1, PySem.W.exm_ref e3 e4 e5 e6, b1, b2⟩
end
section
variable {P : Program} {w : World} {K : PySem.W.Frag} {mg : Str → Option Value} {base h : Heap} {st : Stmt} {p0 p1 pa pc pe q1 q2 q3 q4 a1 a2 a3 a4 : Pos} {k1 : Nat} {ar : Arg} {C : Addr}
theorem mk_useB (f : HasBad P K st C) (X : K.In h) (G : h.Ns mainGlobals mg)
    (S : NScope ["self", "place", "__class__"] ["self", "place"] ["__class__"] (defScope st))
    (hbd : defBody st = [.Expr (.Call (.Attribute (.Call (.Name "super" p0) [] [] p1) "__init__" pa) [.JoinedStr [.Constant (.str "place ") k1 q1, .FormattedValue (.Name "place" q2) (-1) none q3] q4] [] pc) pe,
      .Assign [.Attribute (.Name "self" a1) "place" a2] (.Name "place" a3) a4])
    (hpar : ((defArgs st).posonlyargs ++ (defArgs st).args).head? = some ar) (har : ar.arg = "self") (hks : (defScope st).names.lookup ("super" : Str) = some .globalImplicit)
    (hev : ∀ env : Env, ∃ pl : Sem Bool, eval (.Call (.Attribute (.Call (.Name "super" p0) [] [] p1) "__init__" pa) [.JoinedStr [.Constant (.str "place ") k1 q1, .FormattedValue (.Name "place" q2) (-1) none q3] q4] [] pc) env = (do
      let ov ← attributeBase (.Call (.Name "super" p0) [] [] p1) "__init__" env (eval (.Call (.Name "super" p0) [] [] p1) env)
      standAt pa.atName
      let (f, first) ← holding [ov] (getMethod ov "__init__" pl)
      callWith pc f first (backTo pc (starEach [.JoinedStr [.Constant (.str "place ") k1 q1, .FormattedValue (.Name "place" q2) (-1) none q3] q4] env)) []))
    (hb : ∀ (cc cda : Addr) (doc pm ctv : Value) (us : List Value), us.length = 2 → bindArgs ((nfB st cc cda).fd doc pm ctv) ⟨us, []⟩ = pure ((["self", "place"] : List Str).zip us)) :
    ∃ B, UseB P w K mg base C B := by
  obtain ⟨B, fI, cc, cda, f⟩ := f
  obtain ⟨oc, od, doc, pm, ctv, osl, lk⟩ := f.sup.fn
  exact ⟨B, f.sup.oex, f.xf, f.isc, PySem.W.mg_of X G f.gC, PySem.W.mg_of X G f.gB, f.place, f.exm, fI, _, f.ini, f.ity, bad_ini f.sup f.place S hbd hpar har hks hev _ ⟨oc, od, osl, lk⟩, .all (hb cc cda doc pm ctv)⟩
end
/-! ### another class of the top, of which the caught one is none -/
def HasKin (K : PySem.W.Frag) (x : Str) (C : Addr) (b : Bool) : Prop := ∃ D, PySem.W.nsIn K mainGlobals x = some (some (.ref D)) ∧ PySem.W.kitOne K (.ref C) (.ref D) = some b
theorem HasKin.mk' {K : PySem.W.Frag} {x : Str} {C D : Addr} {b : Bool} (h1 : PySem.W.nsIn K mainGlobals x = some (some (.ref D))) (h0 : (Value.ref C == Value.ref D) = false) (h2 : PySem.W.hasDictIn K D = true)
    (h3 : PySem.W.typeIn K (.ref D) = some (.type "type")) (h4 : PySem.W.subIn K (.ref C) (.ref D) = some b) : HasKin K x C b := ⟨D, h1, by
  obtain ⟨cd, hc, _⟩ := PySem.W.any_some h2
  unfold PySem.W.kitOne
  rw [h0, if_neg Bool.false_ne_true]
  show (if ((PySem.W.clsIn K D).isSome && PySem.W.typeIn K (.ref D) == some (.type "type")) = true then PySem.W.subIn K (.ref C) (.ref D) else none) = _
  rw [hc, h3, h4]
  rfl⟩
structure UseKin (K : PySem.W.Frag) (mg : Str → Option Value) (x : Str) (C : Addr) (b : Bool) : Prop where
  ex : ∃ D, mg x = some (.ref D) ∧ PySem.W.kitOne K (.ref C) (.ref D) = some b
theorem HasKin.g {K : PySem.W.Frag} {mg : Str → Option Value} {h : Heap} {x : Str} {C : Addr} {b : Bool} (k : HasKin K x C b) (X : K.In h) (G : h.Ns mainGlobals mg) : UseKin K mg x C b := by
  obtain ⟨D, h1, h2⟩ := k
  exact ⟨D, PySem.W.mg_of X G h1, h2⟩
section
variable {P : Program} {w : World} {K : PySem.W.Frag} {mg : Str → Option Value} {base : Heap}
theorem FnG.calm {k : Nat} {f : Addr} {fd : FuncData} {ps : List Str} {sp : Sp} (F : FnG P w K mg base (L2.CX P w) k f fd ps sp) (hE : ∀ vs H Q E E', sp vs H Q E → sp vs H Q E') : FnG P w K mg base CX0 k f fd ps sp :=
  ⟨F.len, fun A outer s H args us vs Q E hr hg he hb hv hs => PySem.codeAny_mono (F.run A outer s H args us vs Q E0 hr hg he hb hv (hE _ _ _ _ _ hs)) fun r s' h => by
    cases r with
    | ok fl => cases fl <;> exact h
    | error e =>
      obtain ⟨a, B, H', cls, d, _, _, _, _, _, _, _, hh⟩ := h
      exact hh.elim⟩
end
end LK

set_option Elab.async false
set_option linter.all false
set_option maxRecDepth 100000
set_option maxHeartbeats 4000000
/-! x.split(): the words of a text -/
namespace LK
open PySem PySem.Spec PyProof.Rows L2
theorem mt_split0 {X : Cx} : MtR X "str.split" (fun x xs H Q => ∃ z, x = .str z ∧ xs = [] ∧ z.length + 2 ≤ sizeLine ∧ rNewStrs (Txt.words z) H Q) := by
  intro pins s σ H x xs v us Q I ex es hyp
  obtain ⟨z, rfl, rfl, lim, next⟩ := hyp
  obtain ⟨tok, rfl⟩ := ex
  cases es
  have few : (Txt.words z).length ≤ sizeLine := Nat.le_trans (words_le z) (by omega)
  have few2 : (Builtin.Str.spaceWords z (z.length + 1)).length ≤ sizeLine := by
    have w1 := (StrLaws.sw_weight z).1
    have w2 := StrLaws.len_le_wsum (Builtin.Str.spaceWords z (z.length + 1))
    omega
  refine call_meets F.slot_str_split (typeIs_str _ _ _) F.entry_str_split (F.args_str_split_1 _) (meets_str_split_space z tok (by omega) few2) ?_
  cases hb : Builtin.Str.spaceWords z (z.length + 1) == [(0, z.length)]
  · simp only [Bool.false_eq_true, if_false]
    rw [strsFrom_eq]
    exact laid_strs (ys := Txt.words z) I ((numbered_texts _ _).trans (if_neg (ne_true_of_eq_false hb)).symm) few next
  · simp only [if_true]
    exact laid_strs (l := [(z, tok)]) (ys := Txt.words z) (k := s.toks) I (if_pos hb).symm few next
end LK

set_option Elab.async false
set_option linter.all false
set_option maxRecDepth 100000
set_option maxHeartbeats 4000000
/-! zip of a text and a tuple -/
namespace LK
open PySem PySem.Spec PyProof.Rows L2 SX
/-- the signs of x beside the items of the tuple at b, in new pairs -/
def ItzST (K : PySem.W.Frag) (x : Str) (b : Addr) : It where
  go := fun i H => ∃ (ys : List V) (c : Nat) (y : V), SqT K H b ys ∧ x.cps[i]? = some c ∧ ys[i]? = some y
  yld := fun i H v H' => ∃ T c y, v = .ref T ∧ H T = none ∧ H' = upd H T (.tup [.str ⟨#[c]⟩, y]) ∧ x.cps[i]? = some c ∧ ∀ ys, SqT K H b ys → ys[i]? = some y
  stop := fun i H => ∃ ys : List V, SqT K H b ys ∧ i ≤ x.cps.size ∧ i ≤ ys.length ∧ (i = x.cps.size ∨ i = ys.length)
theorem sep_of {z TI TO i1 i2 b : Addr} (D : ZipApart z TI TO i1 i2 b b) : ZipSep2 z TI TO i1 i2 [i1] [i2, b] :=
  ⟨D.TIz, D.TOz, D.TITO, D.TIi1, by simp, by simpa using D.i1z.symm, by simpa using D.TOi1, D.TIi2, by simp, by simp [D.i2z.symm, D.l1z.symm], by simp [D.TOi2, D.l1TO.symm], by simp [D.i12, D.l1i1.symm], by simpa using D.i12.symm⟩
theorem turn_zipST {P : Program} {w : World} {K : PySem.W.Frag} {elts : List Expr} {kk : Nat} {tpos : Pos} {x : Str} {t : Tok} {b z TI TO i1 i2 : Addr} (D : ZipApart z TI TO i1 i2 b b) :
    Turn P w K (.Tuple elts kk tpos) (ItzST K x b) [z, TI, TO, i1, i2] z (fun i h => IsZip h z TI TO .none ∧ IsTupOf2 h TI (.ref i1) (.ref i2) ∧ (∃ u v, IsTupOf2 h TO u v) ∧ h.IsStrIter i1 (strIterType x) x t i ∧ h.IsTupleIter i2 b i) where
  mem := List.mem_cons_self
  obj := fun i h ⟨a1, a2, ⟨u, v, a3⟩, ⟨o1, e1, _, d1⟩, ⟨o2, e2, _, d2⟩⟩ c hc => by
    simp only [List.mem_cons, List.not_mem_nil, or_false] at hc
    rcases hc with rfl | rfl | rfl | rfl | rfl
    · exact ⟨_, a1, fun v q => nomatch q⟩
    · exact ⟨_, a2, fun v q => nomatch q⟩
    · exact ⟨_, a3, fun v q => nomatch q⟩
    · exact ⟨o1, e1, fun v q => by rw [d1] at q; cases q⟩
    · exact ⟨o2, e2, fun v q => by rw [d2] at q; cases q⟩
  keep := fun i h h' ⟨a1, a2, ⟨u, v, a3⟩, a4, a5⟩ k =>
    ⟨k z (by simp) _ a1, k TI (by simp) _ a2, ⟨u, v, k TO (by simp) _ a3⟩, (let ⟨o, e, r⟩ := a4; ⟨o, k i1 (by simp) o e, r⟩), a5.at fun o q => k i2 (by simp) o q⟩
  item := by
    intro X hP hw hK hc i pins s σ H E I hf st hg
    subst hP hw hK
    obtain ⟨a1, a2, ⟨u0, v0, a3⟩, a4, a5⟩ := st
    obtain ⟨ys, c, y, hq, hx, hy⟩ := hg
    obtain ⟨its, rv, p, _⟩ := I.tuple hq
    obtain ⟨u, hu, ru⟩ := rv.get hy
    have hzl : z < s.heap.objs.size := Heap.lt_size a1
    have D1 := Draws.text (prog := X.prog) (w := X.w) (A := X.A.in1) (I.ok.hd hc) i1 x t
    have D2 := Draws.tuple (prog := X.prog) (w := X.w) (A := X.A.in1) (I.ok.hd hc) i2 b D.l1i2 its.toArray
    have l1 : i < x.cps.size := (Array.getElem?_eq_some_iff.mp hx).1
    have l2 : i < its.toArray.size := by
      have := (List.getElem?_eq_some_iff.mp hu).1
      simpa using this
    refine wpAny_pyNext_zipD2_item (sep_of D) D1 D2 a1 a2 a3 a4 ⟨a5, p⟩ l1 l2 fun x1 x2 h' tk p1 p2 b1 b2 b3 b4 b5 b6 hk => ?_
    obtain ⟨c', tc, hc', rfl⟩ := p1
    obtain rfl : c' = c := Option.some.inj (hc'.symm.trans hx)
    obtain rfl : x2 = u := by
      have p2 : its.toArray[i]? = some x2 := p2
      rw [show its.toArray[i]? = some u by simpa using hu] at p2
      exact (Option.some.inj p2).symm
    refine ⟨_, rfl, wpAny_letOwnedTupleGo_zip (s := { s with heap := h', toks := tk }) b1 fun h'' z'' sb => ?_⟩
    have hT2 : h''.get? s.heap.objs.size = _ := (sb.2 _ (Nat.ne_of_gt hzl)).trans b5
    have new : ObjOk X.prog X.w (upd H s.heap.objs.size (.tup [.str ⟨#[c']⟩, y])) h'' s.heap.objs.size (.tup [.str ⟨#[c']⟩, y]) :=
      ⟨by show 2 ≤ sizeLine; decide, [.str ⟨#[c']⟩ tc, x2], .cons ⟨_, rfl⟩ (.cons ru .nil), ⟨_, hT2, rfl, _, rfl⟩⟩
    have I1 : Inv X pins σ (upd H s.heap.objs.size (.tup [.str ⟨#[c']⟩, y])) { s with heap := h'', toks := tk } :=
      I.turnedNew (t' := tk) (ch := [z, TI, TO, i1, i2]) (fun q o hb e => (sb.2 q (fun g => hb (by simp [g]))).trans (hk q o (fun g => hb (by simp [g])) (fun g => hb (by simp [g])) (fun g => hb (by simp [g])) (fun g => hb (by simp [g])) e)) hf (Nat.le_refl _) new
    refine ⟨.ref s.heap.objs.size, _, I1, rfl, ⟨_, c', y, rfl, I.hok.fresh (Nat.le_refl _), rfl, hx, fun l hl => by rw [I.tuple_inj hl hq]; exact hy⟩, ⟨z'', ?_, ⟨_, _, (sb.2 _ D.TOz).trans b2⟩, (let ⟨o, e, r⟩ := b3; ⟨o, (sb.2 _ D.i1z).trans e, r⟩), b4.1.at fun o q => (sb.2 _ D.i2z).trans q⟩, fun q hm => ?_⟩
    · exact (sb.2 _ D.TIz).trans (hk _ _ D.TIz D.TITO D.TIi1 D.TIi2 a2)
    · have hlt : q < s.heap.objs.size := by
        simp only [List.mem_cons, List.not_mem_nil, or_false] at hm
        rcases hm with rfl | rfl | rfl | rfl | rfl
        · exact hzl
        · exact Heap.lt_size a2
        · exact Heap.lt_size a3
        · obtain ⟨_, e, _⟩ := a4; exact Heap.lt_size e
        · obtain ⟨_, e, _⟩ := a5; exact Heap.lt_size e
      rw [upd_ne (Nat.ne_of_lt hlt)]
      exact (hf q hm).1
  done := by
    intro X hP hw hK hc i pins s σ H E I hf st hg
    subst hP hw hK
    obtain ⟨a1, a2, ⟨u0, v0, a3⟩, a4, a5⟩ := st
    obtain ⟨ys, hq, e1, e2, e3⟩ := hg
    obtain ⟨its, rv, p, _⟩ := I.tuple hq
    have hl := rv.length
    have D1 := Draws.text (prog := X.prog) (w := X.w) (A := X.A.in1) (I.ok.hd hc) i1 x t
    have D2 := Draws.tuple (prog := X.prog) (w := X.w) (A := X.A.in1) (I.ok.hd hc) i2 b D.l1i2 its.toArray
    have hz : its.toArray.size = ys.length := by simp; omega
    refine wpAny_pyNext_zipD2_end (sep_of D) D1 D2 a1 a2 a3 a4 ⟨a5, p⟩ e1 (by omega) (by omega) fun h' tk hk => ⟨rfl, ?_⟩
    exact I.turnedL (t' := tk) (ch := [z, TI, TO, i1, i2]) (fun q o hb e => hk q o (fun g => hb (by simp [g])) (fun g => hb (by simp [g])) (fun g => hb (by simp [g])) (fun g => hb (by simp [g])) e) hf
  self := fun A i s Q E st h => wpAny_pyIter_zip st.1 h
def iZipST (K : PySem.W.Frag) (ta : TA) : TI := fun σ H R => ta σ H fun vs H1 => ∃ z b ys, vs = [.str z, .ref b] ∧ SqT K H1 b ys ∧ R (ItzST K z b) H1
theorem pi_zipST {X : Cx} {e e2 : Expr} {ta : TA} {p pos tpos : Pos} {elts : List Expr} {kk : Nat} (hg : Gl X "zip") (hm : X.mg "zip" = none) (ha : PA X [e, e2] ta)
    (hs : starEach [e, e2] X.env = (false, eval e X.env) :: starEach [e2] X.env := by rfl) (hpl : (backTo pos (starEach [e2] X.env)).any (·.1) = false := by rfl) :
    PI X (.Tuple elts kk tpos) (.Call (.Name "zip" p) [e, e2] [] pos) (iZipST X.K ta) := by
  refine ⟨fun pins s σ H R I h => ?_⟩
  refine Call_ (ld_blt I hg hm PyProof.Rows.boot_zip (PyProof.Rows.callWith_type1 (thn (ha.run pos pins s σ H _ I h) fun us s1 ⟨vs, H1, I1, r1, q1⟩ => ?_) hs hpl))
  obtain ⟨z, b, ys, rfl, hq, q⟩ := q1
  obtain ⟨u1, u2, rfl, r1, r2⟩ := vals2 r1
  obtain ⟨t, rfl⟩ := r1
  cases r2
  obtain ⟨its, rv, pt, _⟩ := I1.tuple hq
  obtain ⟨o2, ho2, _⟩ := id pt
  refine zip_begins2 (begins_text z t) (begins_tuple b its.toArray) trivial pt fun h' hz hTI hTO h1 h2 hsz hk => wpAny_pyIter_zip hz ?_
  have hb : b < s1.heap.objs.size := Heap.lt_size ho2
  refine ⟨s1.heap.objs.size + 4, [s1.heap.objs.size + 4, s1.heap.objs.size + 2, s1.heap.objs.size + 3, s1.heap.objs.size, s1.heap.objs.size + 1], _, _, H1, rfl, I1.kept (t' := s1.toks) hk, turn_zipST (x := z) (t := t) (PySem.W.ktu_apart s1.heap.objs.size b b hb hb), ⟨hz, hTI, ⟨_, _, hTO⟩, ⟨_, h1, rfl, rfl⟩, ⟨_, h2, rfl, rfl⟩⟩, fun c hc => ?_, q⟩
  have hle : s1.heap.objs.size ≤ c := by
    simp only [List.mem_cons, List.not_mem_nil, or_false] at hc
    rcases hc with rfl | rfl | rfl | rfl | rfl
    · exact Nat.le_add_right _ _
    · exact Nat.le_add_right _ _
    · exact Nat.le_add_right _ _
    · exact Nat.le_refl _
    · exact Nat.le_add_right _ _
  exact I1.fpOk hle (I1.hok.fresh hle)
/-- walked over a text and a tuple of one length -/
theorem walk_zipST {K : PySem.W.Frag} {z : List Nat} {b : Addr} {ys : List V} (hl : z.length = ys.length) : Walk (ItzST K (S z) b) ys.length (fun H => SqT K H b ys) (YPair (fun i => (z[i]?).map fun c => V.str (S [c])) (fun i => ys[i]?)) := by
  have hz : (S z).cps.size = z.length := by simp [S]
  have hg : ∀ i : Nat, (S z).cps[i]? = z[i]? := fun i => by simp [S]
  refine ⟨fun i _ hi q => ⟨ys, z[i]'(by omega), ys[i], q, by rw [hg]; simp [hl, hi], by simp [hi]⟩, fun _ q => ⟨ys, q, by rw [hz, hl]; exact Nat.le_refl _, Nat.le_refl _, .inr rfl⟩, fun i H v H' _ q y => ?_⟩
  obtain ⟨T, c, y', h1, h2, h3, h4, h5⟩ := y
  exact ⟨T, .str (S [c]), y', h1, h2, h3, (by have hz4 := h4; rw [hg] at hz4; show (z[i]?).map (fun c => V.str (S [c])) = _; rw [hz4]; rfl), h5 ys q⟩
/-- a loop, by its turns -/
theorem walk_gen {J : It} {n : Nat} {G : Hp → Prop} {Y : Nat → Hp → V → Hp → Prop} (w : Walk J n G Y) {F : (Hp → Prop) → V → Hp → Prop} {H0 : Hp} {Qd : Hp → Prop} (Pv : Nat → Hp → Prop) (h0 : Pv 0 H0) (hG : ∀ i H, i ≤ n → Pv i H → G H)
    (hs : ∀ i x H H', i < n → Pv i H → Y i H x H' → F (Pv (i + 1)) x H') (hd : ∀ H, Pv n H → Qd H) :
    ∃ W : Nat → Nat → Hp → Prop, (∃ m, W 0 m H0) ∧ ∀ i m H, W i m H → (J.stop i H ∧ Qd H) ∨ (J.go i H ∧ ∃ Nx : Hp → Prop, (∀ H', Nx H' → ∃ m', m' < m ∧ W (i + 1) m' H') ∧ ∀ x H', J.yld i H x H' → F Nx x H') := by
  refine ⟨fun i m H => m = n - i ∧ i ≤ n ∧ Pv i H, ⟨n, by simp, Nat.zero_le _, h0⟩, ?_⟩
  rintro i m H ⟨rfl, hi, pv⟩
  rcases Nat.lt_or_ge i n with hlt | hge
  · exact .inr ⟨w.goes i H hlt (hG i H hi pv), Pv (i + 1), fun H' pv' => ⟨n - (i + 1), by omega, rfl, hlt, pv'⟩, fun x H' hy => hs i x H H' hlt pv (w.yields i H x H' hlt (hG i H hi pv) hy)⟩
  · have hin : i = n := by omega
    subst hin
    exact .inl ⟨w.stops H (hG i H hi pv), hd H pv⟩
end LK

set_option Elab.async false
set_option linter.all false
set_option maxRecDepth 100000
set_option maxHeartbeats 4000000
/-! rows: texts by their codes, tuples of data; cut, joined, their length -/
namespace LK
open PySem PySem.Spec PyProof.Rows L2 SX
inductive RowD where
  | txt (cs : List Nat)
  | tup (ds : List PyData)
namespace RowD
def d : RowD → PyData
  | txt cs => .str (S cs)
  | tup ds => .tuple ds
def len : RowD → Nat
  | txt cs => cs.length
  | tup ds => ds.length
end RowD
/-- xs[lo:hi] -/
def cutG {α : Type} (xs : List α) (lo hi : Option Int) : List α := (xs.drop (HT.sIx xs.length 0 lo)).take (HT.sIx xs.length xs.length hi - HT.sIx xs.length 0 lo)
def RowD.cut (r : RowD) (lo hi : Option Int) : RowD := match r with
  | .txt cs => .txt (cutG cs lo hi)
  | .tup ds => .tup (cutG ds lo hi)
theorem cutG_nat {α : Type} (xs : List α) {i j : Nat} (hi : i ≤ xs.length) (hj : j ≤ xs.length) : cutG xs (some (i : Int)) (some (j : Int)) = (xs.drop i).take (j - i) := by
  unfold cutG
  rw [HT.sIx_nat, HT.sIx_nat, Nat.min_eq_left hi, Nat.min_eq_left hj]
theorem cutG_to {α : Type} (xs : List α) {j : Nat} (hj : j ≤ xs.length) : cutG xs none (some (j : Int)) = xs.take j := by
  unfold cutG
  rw [HT.sIx_none, HT.sIx_nat, Nat.min_eq_left hj, List.drop_zero, Nat.sub_zero]
theorem cutG_from {α : Type} (xs : List α) {j : Nat} (hj : j ≤ xs.length) : cutG xs (some (j : Int)) none = xs.drop j := by
  unfold cutG
  rw [HT.sIx_none, HT.sIx_nat, Nat.min_eq_left hj]
  exact List.take_of_length_le (by rw [List.length_drop]; omega)
theorem DtAll.drop {K : PySem.W.Frag} {H : Hp} : ∀ {vs : List V} {ds : List PyData} (n : Nat), DtAll K H vs ds → DtAll K H (vs.drop n) (ds.drop n)
  | _, _, 0, h => h
  | _, _, _ + 1, .nil => .nil
  | _, _, n + 1, .cons _ t => t.drop n
theorem DtAll.takeN {K : PySem.W.Frag} {H : Hp} : ∀ {vs : List V} {ds : List PyData} (n : Nat), DtAll K H vs ds → DtAll K H (vs.take n) (ds.take n)
  | _, _, 0, _ => by rw [List.take_zero, List.take_zero]; exact .nil
  | _, _, _ + 1, .nil => .nil
  | _, _, n + 1, .cons h t => .cons h (t.takeN n)
theorem DtAll.cutG {K : PySem.W.Frag} {H : Hp} {vs : List V} {ds : List PyData} (h : DtAll K H vs ds) (lo hi : Option Int) : DtAll K H (cutV vs lo hi) (cutG ds lo hi) := by
  unfold cutV LK.cutG
  rw [h.length]
  exact DtAll.takeN _ (h.drop _)
theorem cutS_G (cs : List Nat) (lo hi : Option Int) : cutS (S cs) lo hi = S (cutG cs lo hi) := by
  unfold cutS cutG
  rw [S_len]
section
variable {X : Cx}
def rSlR (K : PySem.W.Frag) : V → Option Int → Option Int → Hp → VK → Prop := fun x lo hi H Q => ∃ r : RowD, Dt K H x r.d ∧ r.len ≤ 2000 ∧ ∀ v H', Same H H' → Dt K H' v (r.cut lo hi).d → Q v H'
theorem sl_row : SlR X (rSlR X.K) := by
  intro pins s σ H x v vl vu lo hi sl Q I rx hs pl pu h
  obtain ⟨r, dr, hn, q⟩ := h
  cases r with
  | txt cs =>
    cases dr.str_inv
    refine sl_str pins s σ H _ v vl vu _ _ sl Q I rx hs pl pu ⟨_, rfl, by rw [S_len]; exact Nat.le_trans hn (by decide), q _ _ (Same.refl _) ?_⟩
    rw [cutS_G]
    exact .str _
  | tup ds =>
    obtain ⟨p, xs, rfl, hq, ax⟩ := dr.tuple_inv
    have lx := ax.length
    refine sl_tupA pins s σ H _ v vl vu _ _ sl Q I rx hs pl pu ⟨p, xs, rfl, hq, fun hw => ?_, fun _ z hz => ?_⟩
    · refine q _ _ (Same.refl _) ?_
      rw [lx] at hw
      show Dt _ _ _ (PyData.tuple (cutG ds lo hi))
      unfold cutG
      rw [hw.1, hw.2, List.drop_zero, Nat.sub_zero, List.take_length]
      exact dr
    · exact q _ _ (Same.new hz) (Dt.made hz (ax.cutG lo hi))
/-- len(a), a row -/
def rLenR (K : PySem.W.Frag) : List V → Hp → VK → Prop := fun vs H Q => ∃ (v : V) (r : RowD), vs = [v] ∧ Dt K H v r.d ∧ r.len ≤ 2000 ∧ Q (.int (r.len : Int)) H
theorem call_lenR : CallR X (.builtin "len") (rLenR X.K) := by
  intro pins s σ H xs us Q I r h
  obtain ⟨v, rw', rfl, da, hn, q⟩ := h
  cases rw' with
  | txt cs =>
    cases da.str_inv
    exact call_len pins s σ H _ us Q I r ⟨_, cs.length, rfl, ⟨by rw [S_len]; exact Nat.le_trans hn (by decide), (S_len _).symm⟩, q⟩
  | tup ds =>
    obtain ⟨p, ys, rfl, hq, ax⟩ := da.tuple_inv
    exact call_len pins s σ H _ us Q I r ⟨_, ds.length, rfl, .inr ⟨_, hq, ax.length.symm⟩, q⟩
/-- x + y, tuples of data -/
def rCatTD (K : PySem.W.Frag) : R2 := fun x y H Q => ∃ ds es : List PyData, Dt K H x (.tuple ds) ∧ Dt K H y (.tuple es) ∧ ds.length + es.length ≤ 2000 ∧ ∀ v H', Same H H' → Dt K H' v (.tuple (ds ++ es)) → Q v H'
theorem op_catTD : OpR X (binaryOp .Add) (rCatTD X.K) := by
  intro pins s σ H x y v u Q I rx ry h
  obtain ⟨ds, es, dx, dy, hz, q⟩ := h
  obtain ⟨a, xs, rfl, ha, ax⟩ := dx.tuple_inv
  obtain ⟨b, ys, rfl, hb, ay⟩ := dy.tuple_inv
  have lx := ax.length
  have ly := ay.length
  refine op_catA pins s σ H _ _ v u Q I rx ry ⟨a, b, xs, ys, rfl, rfl, ha, hb, by rw [lx, ly]; exact Nat.le_trans hz (by decide), fun e => ?_, fun _ e => ?_, fun _ _ p hp => ?_⟩
  · subst e
    cases ax
    exact q _ _ (Same.refl _) dy
  · subst e
    cases ay
    rw [List.append_nil] at q
    exact q _ _ (Same.refl _) dx
  · exact q _ _ (Same.new hp) (Dt.made hp (DtAll.app ax ay))
end
end LK

set_option Elab.async false
set_option linter.all false
set_option maxRecDepth 100000
set_option maxHeartbeats 4000000
/-! Defs held by names and by dicts of the top: action = D[k]; action(x). The keys and the length of a dict of the top. -/
namespace LK
open PySem PySem.Spec PyProof.Rows L2
/-! ### a def that a local holds -/
def tCallV (X : Cx) (k : Nat) (i : Nat) (t : TA) : TE := fun σ H Q => ∃ (f : Addr) (fd : FuncData) (ps : List Str) (sp : Sp), σ[i]? = some (some (.ref f)) ∧ FnG X.prog X.w X.K X.mg X.base CX0 k f fd ps sp ∧ PySem.W.keepIn X.K (.ref f) = true ∧ Binds X.K fd ps [] ∧
  t σ H fun vs H1 => sp vs H1 Q E0
section
variable {X : Cx} {k i : Nat} {x : Str} {p pos : Pos} {e : Expr} {es : List Expr} {t : TA}
theorem pe_callV (hv : PE X (.Name x p) (tVar i)) (hr : Room k X.A) (gd : X.A.guards = some []) (ha : PA X (e :: es) t)
    (he : starEach (e :: es) X.env = (false, eval e X.env) :: starEach es X.env := by rfl) (hpl : (backTo pos (starEach es X.env)).any (·.1) = false := by rfl) : PE X (.Call (.Name x p) (e :: es) [] pos) (tCallV X k i t) := by
  refine ⟨fun pins s σ H Q I ⟨f, fd, ps, sp, eσ, F, kp, hb, h⟩ => ?_⟩
  refine wpAny_Call_Name_kw (thn (hv.run pins s σ H (fun v H' => v = V.ref f ∧ H' = H) I ⟨_, eσ, rfl, rfl⟩) fun u s1 ⟨v, H', I1, rv, ev, eH⟩ => ?_)
  subst ev eH
  obtain rfl : u = Value.ref f := rv
  exact PySem.W.callWith_K (h₀ := X.base) I1.ok.mod.kin kp (thn (ha.run pos pins s1 σ _ _ I1 h) fun us s2 ⟨vs, H2, I2, r, q⟩ => ⟨I2.kIn, run_fnG F hr gd hb pass0 I2 r q⟩) he hpl
end
/-! ### defs by name and place -/
def HasFnA (K : PySem.W.Frag) (x : Str) (st : Stmt) (f : Addr) : Prop := ∃ (oc : Value) (od an : Option Addr) (kV doc pm cdv ct : Value) (osl : Array (Option Value)),
  PySem.W.nsIn K mainGlobals x = some (some (.ref f)) ∧ K.lookup f = some ⟨oc, od, .func (PySem.W.fnOf x x (defArgs st) (defBody st) (defScope st) .none kV doc pm an cdv ct), osl⟩ ∧
  PySem.W.codeIn K cdv x = true ∧ PySem.W.keepIn K (.ref f) = true
theorem HasFnA.mk' {K : PySem.W.Frag} {x : Str} {st : Stmt} {f : Addr} {oc : Value} {od an : Option Addr} {kV doc pm cdv ct : Value} {osl : Array (Option Value)} (a : PySem.W.nsIn K mainGlobals x = some (some (.ref f)))
    (b : K.lookup f = some ⟨oc, od, .func (PySem.W.fnOf x x (defArgs st) (defBody st) (defScope st) .none kV doc pm an cdv ct), osl⟩) (c : PySem.W.codeIn K cdv x = true) (d : PySem.W.keepIn K (.ref f) = true) : HasFnA K x st f := ⟨oc, od, an, kV, doc, pm, cdv, ct, osl, a, b, c, d⟩
theorem HasFnA.fn {K : PySem.W.Frag} {x : Str} {st : Stmt} {f : Addr} (h : HasFnA K x st f) : HasFn K x st := by
  obtain ⟨oc, od, an, kV, doc, pm, cdv, ct, osl, a, b, c, d⟩ := h
  exact ⟨f, oc, od, an, kV, doc, pm, cdv, ct, osl, a, b, c, d⟩
structure UseA (P : Program) (w : World) (K : PySem.W.Frag) (mg : Str → Option Value) (base : Heap) (x : Str) (k : Nat) (ps : List Str) (sp : Sp) (f : Addr) : Prop where
  ex : ∃ fd : FuncData, FnG P w K mg base CX0 k f fd ps sp ∧ mg x = some (.ref f) ∧ PySem.W.keepIn K (.ref f) = true ∧ Binds K fd ps []
section
variable {P : Program} {w : World} {K : PySem.W.Frag} {mg : Str → Option Value} {base h : Heap}
theorem UseA.use {x : Str} {k : Nat} {ps : List Str} {sp : Sp} {f : Addr} (U : UseA P w K mg base x k ps sp f) : Use P w K mg base CX0 x k ps sp := by
  obtain ⟨fd, r⟩ := U.ex
  exact ⟨f, fd, r⟩
theorem mk_useA {x : Str} {st : Stmt} {k : Nat} {ps : List Str} {sp : Sp} {f : Addr} (F : HasFnA K x st f) (X : K.In h) (G : h.Ns mainGlobals mg)
    (hb : ∀ (kV doc pm : Value) (an : Option Addr) (cdv ct : Value) (us : List Value), us.length = ps.length → bindArgs (PySem.W.fnOf x x (defArgs st) (defBody st) (defScope st) .none kV doc pm an cdv ct) ⟨us, []⟩ = pure (ps.zip us))
    (ok : ∀ (f : Addr) (fd : FuncData), Fun K x x st f fd → FnG P w K mg base CX0 k f fd ps sp) : UseA P w K mg base x k ps sp f := by
  obtain ⟨oc, od, an, kV, doc, pm, cdv, ct, osl, e, l, c, kp⟩ := F
  have Fn := fun_mk (st := st) l c kp
  exact ⟨_, ok f _ Fn, PySem.W.mg_of X G e, kp, Fn.binds hb⟩
end
/-! ### a dict of the top whose values are defs -/
inductive FEnt (w : World) : List DictEntry → List (Str × Addr) → Prop
  | nil : FEnt w [] []
  | cons {e : DictEntry} {es : List DictEntry} {k : Str} {v : Addr} {ps : List (Str × Addr)} {t : Tok} : e.key = .str k t → e.hash = hashStr w k → e.val = .ref v → FEnt w es ps → FEnt w (e :: es) ((k, v) :: ps)
def fnKV (ps : List (Str × Addr)) : List (Key × V) := ps.map fun p => (.inr p.1, .ref p.2)
theorem FEnt.pairs {P : Program} {w : World} : ∀ {es : List DictEntry} {ps : List (Str × Addr)}, FEnt w es ps → ∃ vs : List (Key × Value), KV (fnKV ps) vs ∧ PySem.Pairs (mixKind P w) es vs ∧ vs.map (·.1) = ps.map (fun p => (Sum.inr p.1 : Key)) ∧ ∀ e ∈ es, ∃ k, (mixKind P w).is k e.key = true ∧ e.hash = (mixKind P w).hash k
  | _, _, .nil => ⟨[], .nil, .nil, rfl, fun _ h => by cases h⟩
  | _, _, .cons (k := k) (v := v) (t := t) hk hh hv r => by
    obtain ⟨vs, a, b, c, d⟩ := FEnt.pairs (P := P) r
    refine ⟨(.inr k, .ref v) :: vs, .cons ⟨rfl, rfl⟩ a, .cons (by rw [hk]; exact mixKind_str P w k t) hv b, by rw [List.map_cons, c]; rfl, fun e he => ?_⟩
    rcases List.mem_cons.mp he with rfl | he
    · exact ⟨.inr k, by rw [hk]; exact mixKind_str P w k t, hh⟩
    · exact d e he
theorem HasDct.mkF {P : Program} {w : World} {K : PySem.W.Frag} {x : Str} {ps : List (Str × Addr)} {a : Addr} {es : Array DictEntry} {ep : Nat} (h : PySem.W.nsIn K mainGlobals x = some (some (.ref a)))
    (b : K.lookup a = some { cls := .type "dict", data := .dict es ep }) (hs : (a == sysModules) = false) (c : FEnt w es.toList ps) (nd : (ps.map (·.1)).Nodup) : HasDct P w K x (fnKV ps) := by
  obtain ⟨vs, v1, v2, v3, v4⟩ := FEnt.pairs (P := P) c
  refine ⟨a, h, hs, vs, v1, fun hh hK => ⟨_, es, ep, hK a _ b, ⟨rfl, rfl, rfl⟩, rfl, fun e he => v4 e (Array.mem_toList_iff.mpr he), v2, ?_⟩⟩
  rw [v3]
  have : ps.map (fun p => (Sum.inr p.1 : Key)) = (ps.map (·.1)).map Sum.inr := by rw [List.map_map]; rfl
  rw [this]
  exact nodup_inr nd
/-! ### list(D), len(D) -/
def rListK (P : Program) (w : World) (K : PySem.W.Frag) : List V → Hp → VK → Prop := fun xs H Q => ∃ p kvs, xs = [.ref p] ∧ KDct P w K p kvs ∧ kvs.length ≤ 1000 ∧ ∀ q, H q = none → Q (.ref q) (upd H q (.lst (kvs.map fun kv => kV kv.1)))
theorem call_listK {X : Cx} (hc : X.calm = true) : CallR X (.type "list") (rListK X.prog X.w X.K) := by
  intro pins s σ H xs us Q I r h
  obtain ⟨p, kvs, rfl, ⟨hsys, vs, rel, dd⟩, hz, q⟩ := h
  obtain ⟨u, rfl, rx⟩ := vals1 r
  obtain rfl : u = Value.ref p := rx
  obtain ⟨ep, hat⟩ := (dd _ I.kIn).dictAt
  have hl : kvs.length = vs.length := Paired.length rel
  have hz2 : vs.length ≤ sizeLine := by rw [← hl]; exact Nat.le_trans hz (by decide)
  refine PySem.W.kdl_call (PySem.W.kdl_dict (knd := mixKind X.prog X.w) (kvs := vs) (ep := ep) hsys) (I.ok.hd hc) hat hz2 fun h2 tk acc c kk hS it => ?_
  have ok : ObjOk X.prog X.w (upd H s.heap.objs.size (.lst (kvs.map fun kv => kV kv.1))) h2 s.heap.objs.size (.lst (kvs.map fun kv => kV kv.1)) := by
    refine ⟨by rw [List.length_map, hl]; exact hz2, acc.toList, c, ?_, by rw [Array.toArray_toList]; exact hS⟩
    have el : acc.toList.length = acc.size := by simp
    refine vals_of_at (by rw [List.length_map, el, it.1, hl]) fun j x y h1 h2 => ?_
    obtain ⟨k, z, hkz, hi⟩ := it.2 j y (by rw [← Array.getElem?_toList]; exact h2)
    have e1 : (kvs.map (·.1))[j]? = some k := by
      rw [KV.keys rel, List.getElem?_map, hkz]
      rfl
    have e3 : (kvs.map fun kv => kV kv.1) = (kvs.map (·.1)).map kV := by rw [List.map_map]; rfl
    rw [e3, List.getElem?_map, e1] at h1
    cases h1
    exact keyIs_rel hi
  exact ⟨.ref s.heap.objs.size, _, I.laid kk (Nat.le_refl _) ok, rfl, q _ (I.hok.fresh (Nat.le_refl _))⟩
theorem call_lenDK {X : Cx} : CallR X (.builtin "len") (fun xs H Q => ∃ p kvs, xs = [V.ref p] ∧ KDct X.prog X.w X.K p kvs ∧ kvs.length ≤ 1000 ∧ Q (.int (kvs.length : Nat)) H) := by
  intro pins s σ H xs us Q I r h
  obtain ⟨p, kvs, rfl, ⟨hsys, vs, rel, dd⟩, hz, q⟩ := h
  obtain ⟨u, rfl, rx⟩ := vals1 r
  obtain rfl : u = Value.ref p := rx
  have hl : kvs.length = vs.length := Paired.length rel
  refine call_len_dict hsys (dd _ I.kIn) (by rw [← hl]; omega) ?_
  exact ⟨.int (kvs.length : Nat), H, I.tok _, ⟨_, by rw [hl]⟩, q⟩
end LK

set_option Elab.async false
set_option linter.all false
set_option maxRecDepth 100000
set_option maxHeartbeats 4000000
set_option exponentiation.threshold 3000
namespace K75
open PySem PySem.Spec PyProof.Rows LK NdefX SupX SX
open L2 hiding spCell
def top (i : Nat) : Stmt := PySem.Challenge.pw_pyhold_k75_objects_and_controls.main.body.getD i (.Pass ⟨0, 0, 0, 0⟩)
structure Txt (K : PySem.W.Frag) (mg : Str → Option Value) : Prop where
  c_BASE_coding : GInt mg "BASE_coding" 128
  c_BASE_reader : GInt mg "BASE_reader" 128
  c_NUMBER_END : GInt mg "NUMBER_END" 256
  c_MOST_DIGITS : GInt mg "MOST_DIGITS" 40
  c_MOST_ENTRIES : GInt mg "MOST_ENTRIES" 1000
  c_MOST_IN_NAME : GInt mg "MOST_IN_NAME" 200
  c_INTEGER_END : GInt mg "INTEGER_END" (2 ^ 256)
  c_TREES : GInt mg "TREES" 5
  c_MOST_TUPLES_AROUND : GInt mg "MOST_TUPLES_AROUND" 200
  c_VALUES : GTup K mg "VALUES" ([("none" : Str), "bool", "bool", "int", "text", "span", "built", "host", "ref"].map V.str)
  c_SIGNALS : GTup K mg "SIGNALS" ([("" : Str), "break", "continue", "return", "raise"].map V.str)
  c_CHARACTERS : GStr mg "CHARACTERS" chStr
  b_len : mg "len" = none
  b_int : mg "int" = none
  b_range : mg "range" = none
  b_list : mg "list" = none
  b_tuple : mg "tuple" = none
  b_isinstance : mg "isinstance" = none
  b_bool : mg "bool" = none
  b_str : mg "str" = none
  b_abs : mg "abs" = none
  b_reversed : mg "reversed" = none
  b_zip : mg "zip" = none
abbrev s_law_cell : Stmt := top 46
abbrev N_law_cell : List Str := ["script", "k"]
abbrev P_law_cell : List Str := ["script", "k"]
theorem sc_law_cell : FnScope N_law_cell P_law_cell (defScope s_law_cell) := ⟨rfl, rfl, rfl, by decide +kernel, rfl, by decide +kernel, by decide +kernel⟩
abbrev s_law_digits : Stmt := top 50
abbrev N_law_digits : List Str := ["script", "first", "last", "digits", "k", "cell", "turn", "seed"]
abbrev P_law_digits : List Str := ["script", "first", "last"]
theorem sc_law_digits : FnScope N_law_digits P_law_digits (defScope s_law_digits) := ⟨rfl, rfl, rfl, by decide +kernel, rfl, by decide +kernel, by decide +kernel⟩
abbrev s_law_draw : Stmt := top 51
abbrev N_law_draw : List Str := ["box", "many", "at"]
abbrev P_law_draw : List Str := ["box", "many"]
theorem sc_law_draw : FnScope N_law_draw P_law_draw (defScope s_law_draw) := ⟨rfl, rfl, rfl, by decide +kernel, rfl, by decide +kernel, by decide +kernel⟩
section
variable {P : Program} {w : World} {K : PySem.W.Frag} {mg : Str → Option Value} {base : Heap}
theorem ok_draw {f : Addr} {fd : FuncData} (F : Fun K "_law_draw" "_law_draw" s_law_draw f fd) (T : Txt K mg) : FnG P w K mg base CX0 1 f fd P_law_draw (spDraw K) := by
  refine okG0 F sc_law_draw (fun vs H Q E h => ?_) fun cdv A outer s H vs Q E hr hg h => ?_
  · obtain ⟨p, dl, m, rfl, _⟩ := h
    rfl
  · obtain ⟨p, dl, m, rfl, B, hm, k⟩ := h
    obtain ⟨ds, n, hp, hn, hd, hl, hds⟩ := id B
    refine ⟨_, (pss_cons (ps_set (i := 2) sc_law_draw.nd rfl (Or.inl rfl) (pe_ix ix_list (pv 0) pe_int (fun _ _ => rfl)))
  (pss_cons (ps_asg (pe_op op_add (pv 2) pe_int) (pg_sub (pv 0) pe_int set_list))
  (pss_cons (ps_if (pt_cmpR op_lt (pv 2) (pe_callB call_len (by rfl) T.b_len PySem.boot_len (pa_cons (pe_ix ix_list (pv 0) pe_int (fun _ _ => rfl)) pa_nil)) (nomark _))
   (pss_one (ps_ret (pe_op op_mod (pe_callTy call_int1 (by rfl) T.b_int (by decide +kernel) (pa_cons (pe_ix ix_list (pe_ix ix_list (pv 0) pe_int (fun _ _ => rfl)) (pv 2) (fun _ _ => rfl)) pa_nil)) (pv 1))))
   pss_nil)
  (pss_one (ps_ret (pe_op op_mod (pe_callTy call_int1 (by rfl) T.b_int (by decide +kernel) (pa_cons (pe_op op_add (pe_op op_mul (pv 2) pe_int) pe_int) pa_nil)) (pv 1))))))), ?_⟩
    -- at = box[1]; box[1] = at + 1
    refine ⟨_, rfl, p, _, _, _, rfl, rfl, SqL.of hp, rfl, ?_⟩
    refine ⟨_, rfl, _, _, rfl, rfl, _, rfl, p, _, _, _, rfl, rfl, hp, rfl, ?_⟩
    have npd : dl ≠ p := by
      intro e
      subst e
      rw [hp] at hd
      have e := HO.lst.inj (Option.some.inj hd)
      cases ds with
      | nil => cases e
      | cons d ds => cases (List.cons.inj e).1
    have B' : BoxAt (upd H p (.lst [.ref dl, .int (n + 1)])) p dl := ⟨ds, n + 1, upd_same, by omega, by rw [upd_ne npd]; exact hd, hl, hds⟩
    have kp : Keep p H (upd H p (.lst [.ref dl, .int (n + 1)])) := fun b o e hb => by rw [upd_ne hb]; exact e
    have hd' : upd H p (.lst [.ref dl, .int (n + 1)]) dl = some (.lst (ds.map V.int)) := by rw [upd_ne npd]; exact hd
    -- if at < len(box[0])
    refine ⟨_, rfl, _, rfl, p, _, _, _, rfl, rfl, SqL.of upd_same, rfl, _, _, rfl, .inl ⟨_, SqL.of hd', rfl⟩, ?_⟩
    refine ⟨_, _, rfl, rfl, _, rfl, ?_⟩
    refine ite2 (fun c => ?_) fun c => ?_
    · have c1 : n < (ds.length : Int) := by simpa using c
      have c2 : n.toNat < ds.length := by omega
      have mem := hds _ (List.getElem_mem c2)
      refine ⟨_, rfl, p, _, _, _, rfl, rfl, SqL.of upd_same, rfl, _, rfl, dl, _, _, .int ds[n.toNat], rfl, rfl, SqL.of hd', ?_, .inl ⟨_, rfl, ?_⟩⟩
      · have e : n = ((n.toNat : Nat) : Int) := by omega
        exact at_of e (by simp [c2])
      · refine ⟨_, rfl, _, _, rfl, rfl, hm, ?_⟩
        exact k _ _ (Int.emod_nonneg _ (by omega)) (Int.emod_lt_of_pos _ hm) B' kp
    · refine ⟨_, rfl, _, _, rfl, rfl, .inr ⟨by decide, by decide⟩, _, _, rfl, rfl, .inl ⟨_, rfl, _, rfl, _, _, rfl, rfl, hm, ?_⟩⟩
      exact k _ _ (Int.emod_nonneg _ (by omega)) (Int.emod_lt_of_pos _ hm) B' kp
theorem ok_cell {f : Addr} {fd : FuncData} (F : Fun K "_law_cell" "_law_cell" s_law_cell f fd) (T : Txt K mg) : FnG P w K mg base CX0 1 f fd P_law_cell (spCell K) := by
  refine okG0 F sc_law_cell (fun vs H Q E h => ?_) fun cdv A outer s H vs Q E hr hg h => ?_
  · obtain ⟨a, ns, i, rfl, _⟩ := h
    rfl
  · obtain ⟨a, ns, i, rfl, hs, hi, k⟩ := h
    refine ⟨_, (pss_cons (ps_if (pt_cmpR op_lt (pv 1) (pe_callB call_len (by rfl) T.b_len PySem.boot_len (pa_cons (pv 0) pa_nil)) (nomark _))
   (pss_one (ps_ret (pe_ix ix_list (pv 0) (pv 1) (fun _ _ => rfl))))
   pss_nil)
  (pss_one (ps_ret pe_int))), ?_⟩
    refine ⟨_, rfl, _, rfl, _, _, rfl, .inl ⟨_, hs, rfl⟩, _, _, rfl, rfl, _, rfl, ?_⟩
    refine ite3 (fun c => ?_) fun _ => k 0
    have c1 : i < (ns.length : Int) := by simpa using c
    have c2 : i.toNat < ns.length := by omega
    exact ⟨_, rfl, _, rfl, a, _, _, .int ns[i.toNat], rfl, rfl, hs, at_of (show i = ((i.toNat : Nat) : Int) by omega) (by simp [c2]), k _⟩
theorem ok_digits {f : Addr} {fd : FuncData} (F : Fun K "_law_digits" "_law_digits" s_law_digits f fd) (T : Txt K mg) (U_law_cell : Use P w K mg base CX0 "_law_cell" 1 P_law_cell (spCell K)) : FnG P w K mg base CX0 2 f fd P_law_digits (spDigits K) := by
  refine okG0 F sc_law_digits (fun vs H Q E h => ?_) fun cdv A outer s H vs Q E hr hg h => ?_
  · obtain ⟨a, ns, lo, hi, rfl, _⟩ := h
    rfl
  · obtain ⟨a, ns, lo, hi, rfl, hs, hlo, hhi, k⟩ := h
    refine ⟨_, (pss_cons (ps_set (i := 3) sc_law_digits.nd rfl (Or.inl rfl) (pe_lst pa_nil))
  (pss_cons (ps_for PassesOwn.never rfl (pi_range2 (by rfl) T.b_range (pa_cons (pv 1) (pa_cons (pv 2) pa_nil))) (pg_name (i := 4) sc_law_digits.nd rfl (Or.inl rfl))
   (pss_cons (ps_set (i := 5) sc_law_digits.nd rfl (Or.inl rfl) (pe_use U_law_cell (hr.mono (by decide)) hg rfl (pa_cons (pv 0) (pa_cons (pv 4) pa_nil))))
  (C8.pss_cut (ps_if (pt_cmpR op_lt (pv 5) pe_int (nomark _))
   (pss_one (ps_set (i := 5) sc_law_digits.nd rfl (Or.inl rfl) (pe_op op_sub pe_int (pe_op op_mul pe_int (pv 5)))))
   pss_nil)
  (pss_one (ps_if (pt_cmpR op_ge (pv 5) (pe_op op_pow pe_int pe_int) (nomark _))
   (pss_one (ps_for PassesOwn.never rfl (pi_range1 (by rfl) T.b_range (pa_cons pe_int pa_nil)) (pg_name (i := 6) sc_law_digits.nd rfl (Or.inl rfl))
   (pss_one (ps_if (pt_cmpR op_gt (pv 5) pe_int (nomark _))
   (pss_cons (ps_expr (pe_bm PySem.F.plainAttrs_list PySem.F.slot_list_append PySem.F.type_list_append mt_append (pv 3) (pa_cons (pe_op op_mod (pe_callTy call_int1 (by rfl) T.b_int (by decide +kernel) (pa_cons (pv 5) pa_nil)) pe_int) pa_nil)))
  (pss_one (ps_set (i := 5) sc_law_digits.nd rfl (Or.inl rfl) (pe_op op_fdiv (pv 5) pe_int))))
   pss_nil))))
   (pss_cons (ps_set (i := 7) sc_law_digits.nd rfl (Or.inl rfl) (pe_op op_mod (pe_callTy call_int1 (by rfl) T.b_int (by decide +kernel) (pa_cons (pe_op op_add (pe_op op_add (pe_op op_mul (pv 5) pe_int) (pe_op op_mul (pv 4) pe_int)) pe_int) pa_nil)) pe_int))
  (pss_one (ps_for PassesOwn.never rfl (pi_range1 (by rfl) T.b_range (pa_cons pe_int pa_nil)) (pg_name (i := 6) sc_law_digits.nd rfl (Or.inl rfl))
   (pss_cons (ps_set (i := 7) sc_law_digits.nd rfl (Or.inl rfl) (pe_op op_mod (pe_callTy call_int1 (by rfl) T.b_int (by decide +kernel) (pa_cons (pe_op op_add (pe_op op_add (pe_op op_mul (pv 7) pe_int) (pe_op op_mul pe_int (pv 6))) pe_int) pa_nil)) pe_int))
  (pss_one (ps_expr (pe_bm PySem.F.plainAttrs_list PySem.F.slot_list_append PySem.F.type_list_append mt_append (pv 3) (pa_cons (pe_op op_mod (pe_callTy call_int1 (by rfl) T.b_int (by decide +kernel) (pa_cons (pe_op op_fdiv (pv 7) pe_int) pa_nil)) pe_int) pa_nil)))))))))))))
  (pss_one (ps_ret (pv 3))))), ?_⟩
    refine ⟨by decide, fun dl nd => ?_⟩
    have sz : (4000 : Nat) < sizeLine := by decide
    -- for k in range(first, last)
    refine ⟨_, rfl, _, rfl, _, _, rfl, ⟨by omega, by omega, by omega, by omega⟩, ?_⟩
    refine for_range (lo := (lo : Int)) (n := ((hi : Int) - (lo : Int)).toNat) (fun i σ H1 => ∃ x5 x6 x7 x4, σ = [some (.ref a), some (.int lo), some (.int hi), some (.ref dl), x4, x5, x6, x7] ∧ DigAt H H1 dl (60 * i)) ?_ ?_ ?_
    · exact ⟨none, none, none, none, rfl, [], upd_same, by simp, by simp, Same.new nd⟩
    · rintro i σ H1 hi' ⟨x5, x6, x7, x4, rfl, D⟩
      have S1 : Same H H1 := let ⟨_, _, _, _, z⟩ := D; z
      -- cell = _law_cell(script, k)
      refine ⟨_, rfl, _, rfl, a, ns, _, rfl, S1.seq hs, by omega, fun cell => ?_⟩
      -- if cell < 0: cell = 1 - 2 * cell
      refine ⟨fun σ H2 => ∃ c : Int, σ = [some (.ref a), some (.int lo), some (.int hi), some (.ref dl), some (.int ((lo : Int) + i)), some (.int c), x6, x7] ∧ H2 = H1, ?_, ?_⟩
      · refine ⟨_, rfl, _, _, rfl, rfl, _, rfl, ?_⟩
        refine ite3 (fun _ => ?_) fun _ => ⟨cell, rfl, rfl⟩
        exact ⟨_, rfl, _, _, rfl, rfl, .inl ⟨by decide, by decide⟩, _, _, rfl, rfl, _, rfl, rfl⟩
      · rintro _ _ ⟨c, rfl, rfl⟩
        -- if cell >= 10 ** 18
        refine ⟨_, rfl, _, _, rfl, rfl, ⟨by decide, by decide, by decide⟩, _, _, rfl, rfl, _, rfl, ?_⟩
        refine ite3 (fun hc => ?_) fun hc => ?_
        · refine ⟨_, rfl, by decide, by decide, ?_⟩
          refine for_range (lo := 0) (n := 60) (fun j σ H1 => ∃ (c : Int) (y6 : Option V), σ = [some (.ref a), some (.int lo), some (.int hi), some (.ref dl), some (.int ((lo : Int) + i)), some (.int c), y6, x7] ∧ DigAt H H1 dl (60 * i + j)) ⟨c, x6, rfl, D⟩ ?_ ?_
          · rintro j σ H2 hj ⟨c, y6, rfl, D2⟩
            obtain ⟨ds, hd, hl, _⟩ := id D2
            refine ⟨_, rfl, _, _, rfl, rfl, _, rfl, ?_⟩
            refine ite3 (fun hp => ?_) fun _ => ⟨c, _, rfl, D2.mono (by omega)⟩
            have hp : 0 < c := by simpa using hp
            refine ⟨_, rfl, .inl ⟨rfl, _, SqL.of hd⟩, _, rfl, .inl ⟨_, rfl, _, _, rfl, rfl, (by show (0 : Int) < 1000; decide), dl, _, _, rfl, rfl, hd, (by simp; omega), ?_⟩⟩
            refine ⟨_, rfl, _, _, rfl, rfl, ⟨by decide, by decide⟩, ?_⟩
            exact ⟨_, _, rfl, D2.add hd nd (Int.emod_nonneg _ (by decide)) (Int.emod_lt_of_pos _ (by decide))⟩
          · rintro σ H2 ⟨c, y6, rfl, D2⟩
            exact ⟨_, _, _, _, rfl, D2.mono (by omega)⟩
        · refine ⟨_, rfl, _, _, rfl, rfl, .inr ⟨by decide, by decide⟩, _, rfl, _, _, rfl, rfl, .inr ⟨by decide, by decide⟩, _, _, rfl, rfl, _, _, rfl, rfl, .inl ⟨_, rfl, _, _, rfl, rfl, (by show (0 : Int) < 2147483647; decide), ?_⟩⟩
          refine ⟨_, rfl, by decide, by decide, ?_⟩
          refine for_range (lo := 0) (n := 12) (fun j σ H1 => ∃ (sd : Int) (y6 : Option V), σ = [some (.ref a), some (.int lo), some (.int hi), some (.ref dl), some (.int ((lo : Int) + i)), some (.int c), y6, some (.int sd)] ∧ DigAt H H1 dl (60 * i + j)) ⟨_, x6, rfl, D⟩ ?_ ?_
          · rintro j σ H2 hj ⟨sd, y6, rfl, D2⟩
            obtain ⟨ds, hd, hl, _⟩ := id D2
            refine ⟨_, rfl, _, _, rfl, rfl, .inr ⟨by decide, by decide⟩, _, rfl, _, _, rfl, rfl, .inl ⟨by decide, by decide⟩, _, _, rfl, rfl, _, _, rfl, rfl, .inl ⟨_, rfl, _, _, rfl, rfl, (by show (0 : Int) < 2147483647; decide), ?_⟩⟩
            refine ⟨_, rfl, .inl ⟨rfl, _, SqL.of hd⟩, _, rfl, _, _, rfl, rfl, ⟨by decide, by decide⟩, .inl ⟨_, rfl, _, _, rfl, rfl, (by show (0 : Int) < 1000; decide), dl, _, _, rfl, rfl, hd, (by simp; omega), ?_⟩⟩
            exact ⟨_, _, rfl, D2.add hd nd (Int.emod_nonneg _ (by decide)) (Int.emod_lt_of_pos _ (by decide))⟩
          · rintro σ H2 ⟨sd, y6, rfl, D2⟩
            exact ⟨_, _, _, _, rfl, D2.mono (by omega)⟩
    · rintro σ H1 ⟨x5, x6, x7, x4, rfl, D⟩
      exact ⟨_, rfl, k dl H1 nd (D.mono (by omega))⟩
end

abbrev s_write_count : Stmt := top 11
abbrev N_write_count : List Str := ["n", "numbers"]
abbrev P_write_count : List Str := ["n"]
theorem sc_write_count : FnScope N_write_count P_write_count (defScope s_write_count) := ⟨rfl, rfl, rfl, by decide +kernel, rfl, by decide +kernel, by decide +kernel⟩
section
variable {P : Program} {w : World} {K : PySem.W.Frag} {mg : Str → Option Value} {base : Heap}
/-- the digits of a count -/
def cnt (n : Nat) : List Nat := if h : n < 128 then [n] else (128 + n % 128) :: cnt (n / 128)
termination_by n
decreasing_by omega
theorem cnt_lt {n : Nat} (h : n < 128) : cnt n = [n] := by rw [cnt, dif_pos h]
theorem cnt_ge {n : Nat} (h : ¬ n < 128) : cnt n = (128 + n % 128) :: cnt (n / 128) := by rw [cnt, dif_neg h]
theorem cnt_ne (n : Nat) : cnt n ≠ [] := by
  by_cases h : n < 128
  · rw [cnt_lt h]; exact List.cons_ne_nil _ _
  · rw [cnt_ge h]; exact List.cons_ne_nil _ _
theorem cnt_len : ∀ (k n : Nat), n < 128 ^ (k + 1) → (cnt n).length ≤ k + 1
  | 0, n, h => by rw [cnt_lt (by simpa using h)]; simp
  | k + 1, n, h => by
    by_cases h1 : n < 128
    · rw [cnt_lt h1]; simp
    · rw [cnt_ge h1, List.length_cons]
      have : n / 128 < 128 ^ (k + 1) := Nat.div_lt_of_lt_mul (by rw [Nat.mul_comm, ← Nat.pow_succ]; exact h)
      have := cnt_len k _ this
      omega
theorem cnt_byte : ∀ (k n : Nat), n < 128 ^ (k + 1) → ∀ d ∈ cnt n, d < 256
  | 0, n, h, d, hd => by
    have : n < 128 := by simpa using h
    rw [cnt_lt this, List.mem_singleton] at hd; omega
  | k + 1, n, h, d, hd => by
    by_cases h1 : n < 128
    · rw [cnt_lt h1, List.mem_singleton] at hd; omega
    · rw [cnt_ge h1] at hd
      rcases List.mem_cons.mp hd with rfl | hd
      · have := Nat.mod_lt n (show 0 < 128 by decide); omega
      · exact cnt_byte k _ (Nat.div_lt_of_lt_mul (by rw [Nat.mul_comm, ← Nat.pow_succ]; exact h)) d hd
/-- a list of numbers as values -/
def nV (ns : List Nat) : List V := ns.map fun (d : Nat) => V.int (d : Int)
theorem nV_app (a b : List Nat) : nV (a ++ b) = nV a ++ nV b := List.map_append ..
theorem nV_len (a : List Nat) : (nV a).length = a.length := List.length_map ..
theorem nV_get {a : List Nat} {i : Nat} {d : Nat} (h : a[i]? = some d) : (nV a)[i]? = some (.int (d : Int)) := by unfold nV; rw [List.getElem?_map, h]; rfl
def spCount (K : PySem.W.Frag) : Sp := fun vs H Q _ => ∃ n : Nat, vs = [.int (n : Int)] ∧ n < 128 ^ 60 ∧ ∀ l H', H l = none → Same H H' → H' l = some (.lst (nV (cnt n))) → Q (.ref l) H'
theorem ok_wcount {f : Addr} {fd : FuncData} (F : Fun K "write_count" "write_count" s_write_count f fd) (T : Txt K mg) : FnG P w K mg base CX0 1 f fd P_write_count (spCount K) := by
  refine okG0 F sc_write_count (fun vs H Q E h => ?_) fun cdv A outer s H vs Q E hr hg h => ?_
  · obtain ⟨n, rfl, _⟩ := h
    rfl
  · obtain ⟨n, rfl, hn, k⟩ := h
    refine ⟨_, (pss_cons (ps_set (i := 1) sc_write_count.nd rfl (Or.inl rfl) (pe_lst pa_nil))
  (pss_cons (ps_while PassesOwn.never (pt_up (pt_cmpR op_ge (pv 0) (pe_globI T.c_BASE_coding (by rfl)) (nomark _)))
   (pss_cons (ps_expr (pe_bm PySem.F.plainAttrs_list PySem.F.slot_list_append PySem.F.type_list_append mt_append (pv 1) (pa_cons (pe_op op_add (pe_op op_mod (pv 0) (pe_globI T.c_BASE_coding (by rfl))) (pe_globI T.c_BASE_coding (by rfl))) pa_nil)))
  (pss_one (ps_aug (i := 0) sc_write_count.nd rfl (Or.inl rfl) (pe_globI T.c_BASE_coding (by rfl)) ip_fdiv))))
  (pss_cons (ps_expr (pe_bm PySem.F.plainAttrs_list PySem.F.slot_list_append PySem.F.type_list_append mt_append (pv 1) (pa_cons (pv 0) pa_nil)))
  (pss_one (ps_ret (pv 1)))))), ?_⟩
    refine ⟨sz_0, fun l hl => ?_⟩
    have hlen := cnt_len 59 n hn
    refine while_up (fun σ H1 => ∃ (m : Nat) (acc : List Nat), σ = [some (.int (m : Int)), some (.ref l)] ∧ H1 l = some (.lst (nV acc)) ∧ acc ++ cnt m = cnt n ∧ Same H H1)
      (fun (σ : L2.St) (_ : Hp) => match σ[0]? with | some (some (V.int j)) => j.toNat | _ => 0) ⟨n, [], rfl, upd_same, rfl, Same.new hl⟩ ?_
    rintro σ H1 ⟨m, acc, rfl, e1, ha, S1⟩
    have hal : acc.length + 1 ≤ 60 := by
      have h1 : (acc ++ cnt m).length ≤ 60 := by rw [ha]; exact hlen
      have h2 : 0 < (cnt m).length := List.length_pos_iff.mpr (cnt_ne m)
      rw [List.length_append] at h1; omega
    refine ⟨_, rfl, _, _, rfl, rfl, _, rfl, ?_⟩
    refine ite3 (fun c => ?_) fun c => ?_
    · have c := of_decide_eq_true c
      have c1 : ¬ m < 128 := by omega
      refine ⟨_, rfl, .inl ⟨rfl, _, SqL.of e1⟩, _, rfl, _, _, rfl, rfl, (by show (0 : Int) < 128; decide), _, _, rfl, rfl, l, _, _, rfl, rfl, e1, by rw [nV_len]; exact Nat.lt_of_le_of_lt (show acc.length ≤ 60 by omega) (by decide), ?_⟩
      refine ⟨_, rfl, _, _, rfl, rfl, ⟨by decide, by decide⟩, ⟨m / 128, acc ++ [128 + m % 128], ?_, ?_, ?_, ?_⟩, ?_⟩
      · show [some (V.int ((m : Int) / 128)), some (V.ref l)] = _
        rw [show (m : Int) / 128 = ((m / 128 : Nat) : Int) by omega]
      · rw [upd_same, nV_app]
        show some (HO.lst (nV acc ++ [V.int ((m : Int) % 128 + 128)])) = some (HO.lst (nV acc ++ [V.int ((128 + m % 128 : Nat) : Int)]))
        rw [show (m : Int) % 128 + 128 = ((128 + m % 128 : Nat) : Int) by omega]
      · rw [List.append_assoc, ← ha, cnt_ge c1]; rfl
      · exact fun b o e => by rw [upd_ne (ne_of_none e hl)]; exact S1 _ _ e
      · show ((m : Int) / 128).toNat < ((m : Int)).toNat
        omega
    · have c := of_decide_eq_false c
      have c1 : m < 128 := by omega
      refine ⟨_, rfl, .inl ⟨rfl, _, SqL.of e1⟩, _, rfl, l, _, _, rfl, rfl, e1, by rw [nV_len]; exact Nat.lt_of_le_of_lt (show acc.length ≤ 60 by omega) (by decide), ?_⟩
      refine ⟨_, rfl, k l _ hl (fun b o e => by rw [upd_ne (ne_of_none e hl)]; exact S1 _ _ e) ?_⟩
      rw [upd_same, ← ha, cnt_lt c1, nV_app]; rfl
end

abbrev s_write_integer : Stmt := top 12
abbrev N_write_integer : List Str := ["i"]
abbrev P_write_integer : List Str := ["i"]
theorem sc_write_integer : FnScope N_write_integer P_write_integer (defScope s_write_integer) := ⟨rfl, rfl, rfl, by decide +kernel, rfl, by decide +kernel, by decide +kernel⟩
abbrev s_write_string : Stmt := top 13
abbrev N_write_string : List Str := ["text", "character"]
abbrev P_write_string : List Str := ["text"]
theorem sc_write_string : FnScope N_write_string P_write_string (defScope s_write_string) := ⟨rfl, rfl, rfl, by decide +kernel, rfl, by decide +kernel, by decide +kernel⟩
abbrev s_write_value : Stmt := top 14
abbrev N_write_value : List Str := ["value", "kind", "numbers", "i"]
abbrev P_write_value : List Str := ["value"]
theorem sc_write_value : FnScope N_write_value P_write_value (defScope s_write_value) := ⟨rfl, rfl, rfl, by decide +kernel, rfl, by decide +kernel, by decide +kernel⟩
section
variable {P : Program} {w : World} {K : PySem.W.Frag} {mg : Str → Option Value} {base : Heap}
def zig (i : Int) : Nat := if 0 ≤ i then (2 * i).toNat else (-2 * i - 1).toNat
theorem zig_pos {i : Int} (h : 0 ≤ i) : 2 * i = ((zig i : Nat) : Int) := by unfold zig; rw [if_pos h]; omega
theorem zig_neg {i : Int} (h : ¬ 0 ≤ i) : -2 * i - 1 = ((zig i : Nat) : Int) := by unfold zig; rw [if_neg h]; omega
theorem zig_inj {i j : Int} (h : zig i = zig j) : i = j := by unfold zig at h; split at h <;> split at h <;> omega
theorem zig_lt {i : Int} {k : Nat} (h : i.natAbs ≤ 2 ^ k) : zig i ≤ 2 ^ (k + 1) := by
  unfold zig; rw [Nat.pow_succ]; split <;> omega
theorem big (i : Int) (h : i.natAbs ≤ 2 ^ 258) : zig i < 128 ^ 60 := Nat.lt_of_le_of_lt (zig_lt h) (by decide +kernel)
def spWInt (K : PySem.W.Frag) : Sp := fun vs H Q _ => ∃ i : Int, vs = [.int i] ∧ i.natAbs ≤ 2 ^ 258 ∧ ∀ l H', H l = none → Same H H' → H' l = some (.lst (nV (cnt (zig i)))) → Q (.ref l) H'
theorem ok_wint {f : Addr} {fd : FuncData} (F : Fun K "write_integer" "write_integer" s_write_integer f fd) (T : Txt K mg) (U_write_count : Use P w K mg base CX0 "write_count" 1 P_write_count (spCount K)) : FnG P w K mg base CX0 2 f fd P_write_integer (spWInt K) := by
  refine okG0 F sc_write_integer (fun vs H Q E h => ?_) fun cdv A outer s H vs Q E hr hg h => ?_
  · obtain ⟨i, rfl, _⟩ := h
    rfl
  · obtain ⟨i, rfl, hi, k⟩ := h
    refine ⟨_, (pss_cons (ps_if (pt_cmpR op_ge (pv 0) pe_int (nomark _))
   (pss_one (ps_ret (pe_use U_write_count (hr.mono (by decide)) hg rfl (pa_cons (pe_op op_mul pe_int (pv 0)) pa_nil))))
   pss_nil)
  (pss_one (ps_ret (pe_use U_write_count (hr.mono (by decide)) hg rfl (pa_cons (pe_op op_sub (pe_op op_mul (pe_un un_neg pe_int) (pv 0)) pe_int) pa_nil))))), ?_⟩
    refine ⟨_, rfl, _, _, rfl, rfl, _, rfl, ?_⟩
    refine ite3 (fun c => ?_) fun c => ?_
    · have c := of_decide_eq_true c
      exact ⟨_, rfl, _, _, rfl, rfl, .inl ⟨by decide, by decide⟩, zig i, congrArg (fun z => [V.int z]) (zig_pos c), big i hi, k⟩
    · have c := of_decide_eq_false c
      exact ⟨_, rfl, _, rfl, _, _, rfl, rfl, .inl ⟨by decide, by decide⟩, _, _, rfl, rfl, zig i, congrArg (fun z => [V.int z]) (zig_neg c), big i hi, k⟩
def strN (js : List Nat) : List Nat := cnt js.length ++ js
def spWStr (K : PySem.W.Frag) : Sp := fun vs H Q _ => ∃ js : List Nat, vs = [.str (tx js)] ∧ js.length ≤ 100000 ∧ (∀ j ∈ js, j < 95) ∧ ∀ l H', H l = none → Same H H' → H' l = some (.lst (nV (strN js))) → Q (.ref l) H'
theorem ok_wstr {f : Addr} {fd : FuncData} (F : Fun K "write_string" "write_string" s_write_string f fd) (T : Txt K mg) (U_write_count : Use P w K mg base CX0 "write_count" 1 P_write_count (spCount K)) : FnG P w K mg base CX0 2 f fd P_write_string (spWStr K) := by
  refine okG0 F sc_write_string (fun vs H Q E h => ?_) fun cdv A outer s H vs Q E hr hg h => ?_
  · obtain ⟨js, rfl, _⟩ := h
    rfl
  · obtain ⟨js, rfl, hl, hj, k⟩ := h
    refine ⟨_, (pss_one (ps_ret (pe_op op_cat (pe_use U_write_count (hr.mono (by decide)) hg rfl (pa_cons (pe_callB call_len (by rfl) T.b_len PySem.boot_len (pa_cons (pv 0) pa_nil)) pa_nil)) (pe_lc (own := [("character", 1)]) (g := (gName 1)) rfl sc_write_string.nd (pi_str (pv 0)) (blkOk_by (N := N_write_string) (sc := defScope s_write_string) (by decide +kernel)) (fun _ _ _ _ _ => (pg_name (i := 1) sc_write_string.nd rfl (Or.inl rfl))) (fun _ _ _ _ _ => pts_nil) (fun _ _ _ _ _ => (pe_bmK (K := K) rfl PySem.F.plainAttrs_str PySem.F.slot_str_index PySem.F.type_str_index mt_sindex (pe_globS T.c_CHARACTERS (by rfl)) (pa_cons (pv 1) pa_nil))))))), ?_⟩
    have hln : (tx js).length ≤ sizeLine := by rw [tx_len]; exact Nat.le_trans hl (by decide)
    refine ⟨_, rfl, _, (tx js).length, rfl, ⟨hln, rfl⟩, js.length, by rw [tx_len], Nat.lt_of_le_of_lt hl (by decide +kernel), fun l1 H1 nl1 S1 e1 => ?_⟩
    refine ⟨_, rfl, tx js, rfl, fun D hD => ?_⟩
    have nD : l1 ≠ D := fun e => (by subst e; rw [hD] at e1; cases e1)
    have hsz : (tx js).cps.size = js.length := by rw [← tx_len js]; rfl
    refine lc_it walk_str (fun i H' => H' D = some (.lst (nV (js.take i))) ∧ Same H1 H') ⟨upd_same, Same.new hD⟩ (fun _ _ _ _ => trivial) ?_ ?_
    · rintro i x H5 H6 hi ⟨e5, S5⟩ ⟨rfl, c, hc, rfl⟩
      have hi2 : i < js.length := by rw [← hsz]; exact hi
      have hjs : js[i]? = some js[i] := List.getElem?_eq_getElem hi2
      have hj95 := hj _ (List.getElem_mem hi2)
      generalize js[i] = j at hjs hj95
      have hcc : c = ch j := by
        have : (js.map ch).toArray[i]? = some c := hc
        rw [List.getElem?_toArray, List.getElem?_map, hjs] at this
        exact (Option.some.inj this).symm
      subst hcc
      obtain ⟨rest, ho⟩ := occ_at hj95
      refine ⟨rfl, tYes_of ?_⟩
      refine ⟨rfl, _, rfl, chStr, _, j, rest, rfl, rfl, ho, _, e5, ?_, ?_, fun b o e => by rw [upd_ne (ne_of_none e hD)]; exact S5 _ _ e⟩
      · rw [nV_len, List.length_take]; exact Nat.lt_of_le_of_lt (Nat.le_trans (Nat.min_le_right _ _) hl) (by decide)
      · rw [upd_same, List.take_succ, hjs, nV_app]; rfl
    · rintro H5 ⟨e5, S5⟩
      rw [hsz, List.take_length] at e5
      refine ⟨l1, D, _, _, rfl, rfl, S5 _ _ e1, e5, ?_, fun l hl2 => ?_⟩
      · rw [nV_len, nV_len]
        have := cnt_len 59 js.length (Nat.lt_of_le_of_lt hl (by decide +kernel))
        exact Nat.le_trans (show _ ≤ 100060 by omega) (by decide)
      · exact k l _ (Same.free (S1.trans S5) hl2) ((S1.trans S5).trans (Same.new hl2)) (by rw [upd_same, strN, nV_app])
/-- values as they are written -/
inductive Val where
  | none | bool (b : Bool) | int (i : Int) | text (js : List Nat) | span (a b : Int) | built (js : List Nat) | host (js : List Nat) | ref (n : Nat)
def valD : Val → PyData
  | .none => .tuple [.str "none"]
  | .bool b => .tuple [.str "bool", .bool b]
  | .int i => .tuple [.str "int", .int i]
  | .text js => .tuple [.str "text", .str (tx js)]
  | .span a b => .tuple [.str "span", .int a, .int b]
  | .built js => .tuple [.str "built", .str (tx js)]
  | .host js => .tuple [.str "host", .str (tx js)]
  | .ref n => .tuple [.str "ref", .int (n : Int)]
def enc : Val → List Nat
  | .none => [0]
  | .bool b => [if b then 2 else 1]
  | .int i => 3 :: cnt (zig i)
  | .text js => 4 :: strN js
  | .span a b => 5 :: (cnt (zig a) ++ cnt (zig b))
  | .built js => 6 :: strN js
  | .host js => 7 :: strN js
  | .ref n => 8 :: cnt n
def vnum : List (Str × V) := [("none", V.int 0), ("int", V.int 3), ("text", V.int 4), ("span", V.int 5), ("built", V.int 6), ("host", V.int 7), ("ref", V.int 8)]
structure TxOk (js : List Nat) : Prop where
  len : js.length ≤ 100000
  lt : ∀ j ∈ js, j < 95
def ValOk : Val → Prop
  | .int i => i.natAbs ≤ 2 ^ 258
  | .text js => TxOk js
  | .span a b => a.natAbs ≤ 2 ^ 258 ∧ b.natAbs ≤ 2 ^ 258
  | .built js => TxOk js
  | .host js => TxOk js
  | .ref n => n ≤ 2 ^ 100
  | _ => True
def spWVal (K : PySem.W.Frag) : Sp := fun vs H Q _ => ∃ (v : V) (x : Val), vs = [v] ∧ Dt K H v (valD x) ∧ ValOk x ∧ ∀ l H', H l = none → Same H H' → H' l = some (.lst (nV (enc x))) → Q (.ref l) H'
theorem ok_wvalue {f : Addr} {fd : FuncData} (F : Fun K "write_value" "write_value" s_write_value f fd) (T : Txt K mg) (U_VALUE_NUMBERS : UseD P w K mg "VALUE_NUMBERS" (valKV vnum)) (U_write_string : Use P w K mg base CX0 "write_string" 2 P_write_string (spWStr K)) (U_write_count : Use P w K mg base CX0 "write_count" 1 P_write_count (spCount K)) (U_write_integer : Use P w K mg base CX0 "write_integer" 2 P_write_integer (spWInt K)) :
    FnG P w K mg base CX0 3 f fd P_write_value (spWVal K) := by
  obtain ⟨aD_VALUE_NUMBERS, gD_VALUE_NUMBERS, kD⟩ := U_VALUE_NUMBERS.ex
  refine okG0 F sc_write_value (fun vs H Q E h => ?_) fun cdv A outer s H vs Q E hr hg h => ?_
  · obtain ⟨v, x, rfl, _⟩ := h
    rfl
  · obtain ⟨v, x, rfl, dv, ok, k⟩ := h
    refine ⟨_, (pss_cons (ps_set (i := 1) sc_write_value.nd rfl (Or.inl rfl) (pe_ix ix_tup (pv 0) pe_int (fun _ _ => rfl)))
  (pss_cons (ps_if (PW.pt (pw_and (pt_cmpR op_eq (pv 1) pe_str (nomark _)) (pw_and1 (pt_truth (pe_ix ix_tup (pv 0) pe_int (fun _ _ => rfl)) (by intro _; rfl)))))
   (pss_one (ps_ret (pe_lst (pa_cons pe_int pa_nil))))
   pss_nil)
  (pss_cons (ps_if (pt_cmpR op_eq (pv 1) pe_str (nomark _))
   (pss_one (ps_ret (pe_lst (pa_cons pe_int pa_nil))))
   pss_nil)
  (pss_cons (ps_set (i := 2) sc_write_value.nd rfl (Or.inl rfl) (pe_lst (pa_cons (pe_dgetK (pe_glob (v := .ref aD_VALUE_NUMBERS) (by rfl) gD_VALUE_NUMBERS rfl) (pv 1) (fun _ _ => rfl)) pa_nil)))
  (pss_cons (ps_if (pt_cmpR op_in_seq (pv 1) (pe_tup (pa_cons pe_str (pa_cons pe_str (pa_cons pe_str pa_nil)))) (by rfl))
   (pss_one (ps_expr (pe_bm PySem.F.plainAttrs_list PySem.F.slot_list_extend PySem.F.type_list_extend mt_extend (pv 2) (pa_cons (pe_use U_write_string (hr.mono (by decide)) hg rfl (pa_cons (pe_ix ix_tup (pv 0) pe_int (fun _ _ => rfl)) pa_nil)) pa_nil))))
   (pss_one (ps_if (pt_cmpR op_eq (pv 1) pe_str (nomark _))
   (pss_one (ps_expr (pe_bm PySem.F.plainAttrs_list PySem.F.slot_list_extend PySem.F.type_list_extend mt_extend (pv 2) (pa_cons (pe_use U_write_count (hr.mono (by decide)) hg rfl (pa_cons (pe_ix ix_tup (pv 0) pe_int (fun _ _ => rfl)) pa_nil)) pa_nil))))
   (pss_one (ps_for PassesOwn.never rfl (pi_tup (pe_slice sl_tupA (pv 0) (po_some pe_int) po_none)) (pg_name (i := 3) sc_write_value.nd rfl (Or.inl rfl))
   (pss_one (ps_expr (pe_bm PySem.F.plainAttrs_list PySem.F.slot_list_extend PySem.F.type_list_extend mt_extend (pv 2) (pa_cons (pe_use U_write_integer (hr.mono (by decide)) hg rfl (pa_cons (pv 3) pa_nil)) pa_nil)))))))))
  (pss_one (ps_ret (pv 2)))))))), ?_⟩
    -- the list that is filled with one more list
    have ext : ∀ {H1 : Hp} {nl l : Addr} {a b : List Nat} {R : Hp → Prop}, H1 nl = some (.lst (nV a)) → H1 l = some (.lst (nV b)) → a.length + b.length ≤ 200200 → (∀ H2, H2 nl = some (.lst (nV (a ++ b))) → (∀ q o, H1 q = some o → q ≠ nl → H2 q = some o) → R H2) →
        rExtend (.ref nl) [.ref l] H1 (fun _ H2 => R H2) := fun e1 e2 hl kk => ⟨_, _, _, _, rfl, rfl, e1, e2, by rw [nV_len, nV_len]; exact Nat.le_trans hl (by decide), kk _ (by rw [upd_same, nV_app]) fun q o e hq => by rw [upd_ne hq]; exact e⟩
    have c60 : ∀ n, n < 128 ^ 60 → (cnt n).length ≤ 60 := fun n h => cnt_len 59 n h
    have s60 : ∀ js, TxOk js → (strN js).length ≤ 100060 := fun js h => by
      have := c60 js.length (Nat.lt_of_le_of_lt h.len (by decide +kernel))
      have := h.len
      rw [strN, List.length_append]; omega
    have dct : ∀ (z : Str) (n : Nat), valV (valKV vnum) (Sum.inr z) = some (V.int (n : Int)) → z ≠ "bool" → (decide (V.str z = V.str "bool")) = false := fun z n _ h => decide_eq_false fun e => h (V.str.inj e)
    have grp : (∃ b, x = .bool b) ∨ (∃ (z : Str) (num : Nat) (js : List Nat), valD x = .tuple [.str z, .str (tx js)] ∧ enc x = num :: strN js ∧ TxOk js ∧ z ≠ "bool" ∧ valV (valKV vnum) (Sum.inr z) = some (V.int (num : Int)) ∧ inV (.str z) [.str "text", .str "built", .str "host"] = true) ∨
        (∃ (z : Str) (num : Nat) (is : List Int), valD x = .tuple (.str z :: is.map PyData.int) ∧ enc x = num :: is.flatMap (fun i => cnt (zig i)) ∧ (∀ i ∈ is, i.natAbs ≤ 2 ^ 258) ∧ is.length ≤ 2 ∧ z ≠ "bool" ∧ z ≠ "ref" ∧ valV (valKV vnum) (Sum.inr z) = some (V.int (num : Int)) ∧ inV (.str z) [.str "text", .str "built", .str "host"] = false) ∨ (∃ n, x = .ref n) := by
      cases x with
      | none => exact .inr (.inr (.inl ⟨"none", 0, [], rfl, rfl, by simp, by simp, by decide +kernel, by decide +kernel, by decide +kernel, by decide +kernel⟩))
      | bool b => exact .inl ⟨b, rfl⟩
      | int i => exact .inr (.inr (.inl ⟨"int", 3, [i], rfl, by simp [enc], (by intro j hj; rw [List.mem_singleton.mp hj]; exact ok), by simp, by decide +kernel, by decide +kernel, by decide +kernel, by decide +kernel⟩))
      | text js => exact .inr (.inl ⟨"text", 4, js, rfl, rfl, ok, by decide +kernel, by decide +kernel, by decide +kernel⟩)
      | span a b => exact .inr (.inr (.inl ⟨"span", 5, [a, b], rfl, by simp [enc], (by
        intro j hj
        rcases List.mem_cons.mp hj with rfl | hj
        · exact ok.1
        · rw [List.mem_singleton.mp hj]; exact ok.2), by simp, by decide +kernel, by decide +kernel, by decide +kernel, by decide +kernel⟩))
      | built js => exact .inr (.inl ⟨"built", 6, js, rfl, rfl, ok, by decide +kernel, by decide +kernel, by decide +kernel⟩)
      | host js => exact .inr (.inl ⟨"host", 7, js, rfl, rfl, ok, by decide +kernel, by decide +kernel, by decide +kernel⟩)
      | ref n => exact .inr (.inr (.inr ⟨n, rfl⟩))
    rcases grp with ⟨b, rfl⟩ | ⟨z, num, js, hv, he, hj, hb, hd, hi⟩ | ⟨z, num, is, hv, he, hj, hl, hb, hrf, hd, hi⟩ | ⟨n, rfl⟩
    · obtain ⟨q, y, rfl, hq, dy⟩ := Dt.pair (z := "bool") dv
      cases dy.bool_inv
      refine ⟨_, rfl, q, _, _, _, rfl, rfl, hq, at0, ?_⟩
      refine ⟨_, rfl, rfl, _, rfl, iteTb (by decide +kernel) ?_⟩
      cases b with
      | true =>
        refine ⟨_, rfl, q, _, _, _, rfl, rfl, hq, at1, true, rfl, iteTb rfl ?_⟩
        exact ⟨sz_1, fun l hl => k l _ hl (Same.new hl) upd_same⟩
      | false =>
        refine ⟨_, rfl, q, _, _, _, rfl, rfl, hq, at1, false, rfl, iteFb rfl ?_⟩
        refine ⟨_, rfl, rfl, _, rfl, iteTb (by decide +kernel) ?_⟩
        exact ⟨sz_1, fun l hl => k l _ hl (Same.new hl) upd_same⟩
    · rw [hv] at dv
      rw [he] at k
      obtain ⟨q, y, rfl, hq, dy⟩ := Dt.pair dv
      cases dy.str_inv
      refine ⟨_, rfl, q, _, _, _, rfl, rfl, hq, at0, ?_⟩
      refine ⟨_, rfl, rfl, _, rfl, iteFb (dct z num hd hb) (iteFb rfl ?_)⟩
      refine ⟨_, rfl, rfl, _, rfl, iteFb (dct z num hd hb) ?_⟩
      refine ⟨_, rfl, aD_VALUE_NUMBERS, _, Sum.inr z, _, rfl, kD, rfl, hd, sz_1, fun nl hnl => ?_⟩
      have S1 := Same.new (o := .lst (nV [num])) hnl
      have e1 := upd_same (H := H) (a := nl) (o := HO.lst (nV [num]))
      have hq1 := SqT.mono hq S1
      refine ⟨_, rfl, sz_3, fun t ht => ⟨t, _, rfl, .inr (SqT.of upd_same), rfl, rfl, _, rfl, iteTb hi ?_⟩⟩
      have S2 := Same.new (o := .tup [.str "text", .str "built", .str "host"]) ht
      refine ⟨_, rfl, .inl ⟨rfl, _, SqL.of (S2 _ _ e1)⟩, _, rfl, q, _, _, _, rfl, rfl, SqT.mono hq1 S2, at1, js, rfl, hj.len, hj.lt, fun l H3 nlH S3 e3 => ?_⟩
      refine ext (S3 _ _ (S2 _ _ e1)) e3 (by have := s60 js hj; simp; omega) fun H4 e4 kp => ?_
      refine ⟨_, rfl, k nl H4 hnl (fun b o e => kp _ _ (S3 _ _ (S2 _ _ (S1 _ _ e))) (ne_of_none e hnl)) e4⟩
    · rw [hv] at dv
      rw [he] at k
      obtain ⟨q, ws, rfl, hq, aw⟩ := dv.head
      have ew : ws = is.map V.int := dtAll_int aw
      subst ew
      refine ⟨_, rfl, q, _, _, _, rfl, rfl, hq, at0, ?_⟩
      refine ⟨_, rfl, rfl, _, rfl, iteFb (dct z num hd hb) (iteFb rfl ?_)⟩
      refine ⟨_, rfl, rfl, _, rfl, iteFb (dct z num hd hb) ?_⟩
      refine ⟨_, rfl, aD_VALUE_NUMBERS, _, Sum.inr z, _, rfl, kD, rfl, hd, sz_1, fun nl hnl => ?_⟩
      have S1 := Same.new (o := .lst (nV [num])) hnl
      have e1 := upd_same (H := H) (a := nl) (o := HO.lst (nV [num]))
      have hq1 := SqT.mono hq S1
      refine ⟨_, rfl, sz_3, fun t ht => ⟨t, _, rfl, .inr (SqT.of upd_same), rfl, rfl, _, rfl, iteFb hi ?_⟩⟩
      have S2 := Same.new (o := .tup [.str "text", .str "built", .str "host"]) ht
      refine ⟨_, rfl, rfl, _, rfl, iteFb (decide_eq_false fun e => hrf (V.str.inj e)) ?_⟩
      refine ⟨_, rfl, _, rfl, q, _, rfl, SqT.mono hq1 S2, fun hw => ?_, fun _ p hp => ?_⟩
      · exfalso
        have h1 := hw.1
        rw [show (some (1 : Int)) = some ((1 : Nat) : Int) from rfl, HT.sIx_nat] at h1
        simp at h1
      · rw [cut_one] at *
        have S3 := Same.new (o := .tup (is.map V.int)) hp
        refine ⟨p, rfl, ⟨_, SqT.of upd_same⟩, ?_⟩
        refine for_tup (xs := is.map V.int) (fun i σ H5 => ∃ x3, σ = [some (.ref q), some (.str z), some (.ref nl), x3] ∧ H5 p = some (.tup (is.map V.int)) ∧ H5 nl = some (.lst (nV (num :: (is.take i).flatMap (fun i => cnt (zig i))))) ∧ Same H H5)
          ⟨none, rfl, upd_same, S3 _ _ (S2 _ _ e1), (S1.trans S2).trans S3⟩ ?_ ?_ ?_
        · rintro i σ H5 _ ⟨x3, rfl, e5, _, _⟩
          exact SqT.of e5
        · rintro i y σ H5 hy ⟨x3, rfl, e5, e6, S5⟩
          rw [List.getElem?_map] at hy
          obtain ⟨m, hm, rfl⟩ := Option.map_eq_some_iff.mp hy
          have hmb := hj m (List.mem_of_getElem? hm)
          have hi2 : i < 2 := by have := (List.getElem?_eq_some_iff.mp hm).1; omega
          have hpn : p ≠ nl := (ne_of e6 e5 (by intro z; cases z)).symm
          have hlen : (num :: (is.take i).flatMap (fun i => cnt (zig i))).length ≤ 61 := by
            match i, hi2 with
            | 0, _ => simp
            | 1, _ =>
              cases is with
              | nil => simp
              | cons a r =>
                have := c60 (zig a) (big a (hj a (by simp)))
                simp; omega
          refine ⟨_, rfl, .inl ⟨rfl, _, SqL.of e6⟩, _, rfl, m, rfl, hmb, fun l H6 _ S6 e7 => ?_⟩
          refine ext (S6 _ _ e6) e7 (by have := c60 (zig m) (big m hmb); omega) fun H7 e8 kp => ⟨some (.int m), rfl, kp _ _ (S6 _ _ e5) hpn, ?_, fun b o e => kp _ _ (S6 _ _ (S5 _ _ e)) (ne_of_none e hnl)⟩
          rw [e8, List.take_succ, hm, List.flatMap_append]; simp
        · rintro σ H5 ⟨x3, rfl, e5, e6, S5⟩
          rw [show (is.map V.int).length = is.length by simp, List.take_length] at e6
          exact ⟨_, rfl, k nl H5 hnl S5 e6⟩
    · obtain ⟨q, y, rfl, hq, dy⟩ := Dt.pair (z := "ref") dv
      cases dy.int_inv
      have ok : n ≤ 2 ^ 100 := ok
      refine ⟨_, rfl, q, _, _, _, rfl, rfl, hq, at0, ?_⟩
      refine ⟨_, rfl, rfl, _, rfl, iteFb (by decide +kernel) (iteFb rfl ?_)⟩
      refine ⟨_, rfl, rfl, _, rfl, iteFb (by decide +kernel) ?_⟩
      refine ⟨_, rfl, aD_VALUE_NUMBERS, _, Sum.inr "ref", V.int 8, rfl, kD, rfl, by decide +kernel, sz_1, fun nl hnl => ?_⟩
      have S1 := Same.new (o := .lst (nV [8])) hnl
      have e1 := upd_same (H := H) (a := nl) (o := HO.lst (nV [8]))
      have hq1 := SqT.mono hq S1
      refine ⟨_, rfl, sz_3, fun t ht => ⟨t, _, rfl, .inr (SqT.of upd_same), rfl, rfl, _, rfl, iteFb (by decide +kernel) ?_⟩⟩
      have S2 := Same.new (o := .tup [.str "text", .str "built", .str "host"]) ht
      refine ⟨_, rfl, rfl, _, rfl, iteTb (by decide +kernel) ?_⟩
      have hn60 : n < 128 ^ 60 := Nat.lt_of_le_of_lt ok (by decide +kernel)
      refine ⟨_, rfl, .inl ⟨rfl, _, SqL.of (S2 _ _ e1)⟩, _, rfl, q, _, _, _, rfl, rfl, SqT.mono hq1 S2, at1, n, rfl, hn60, fun l H3 nlH S3 e3 => ?_⟩
      refine ext (S3 _ _ (S2 _ _ e1)) e3 (by have := c60 n hn60; simp; omega) fun H4 e4 kp => ?_
      refine ⟨_, rfl, k nl H4 hnl (fun b o e => kp _ _ (S3 _ _ (S2 _ _ (S1 _ _ e))) (ne_of_none e hnl)) e4⟩
end

abbrev s_write_tree : Stmt := top 15
abbrev N_write_tree : List Str := ["tree", "numbers", "waiting", "part"]
abbrev P_write_tree : List Str := ["tree"]
theorem sc_write_tree : FnScope N_write_tree P_write_tree (defScope s_write_tree) := ⟨rfl, rfl, rfl, by decide +kernel, rfl, by decide +kernel, by decide +kernel⟩
section
variable {P : Program} {w : World} {K : PySem.W.Frag} {mg : Str → Option Value} {base : Heap}
mutual
/-- the numbers of a tree -/
inductive TrN : PyData → List Nat → Prop
  | str (js : List Nat) : js.length ≤ 100000 → (∀ j ∈ js, j < 95) → TrN (.str (tx js)) (1 :: strN js)
  | int (i : Int) : i.natAbs ≤ 2 ^ 258 → TrN (.int i) (2 :: cnt (zig i))
  | bool (b : Bool) : TrN (.bool b) [3 + if b = true then 1 else 0]
  | tup (ds : List PyData) (ns : List Nat) : ds.length ≤ 1000 → TrNs ds ns → TrN (.tuple ds) (0 :: (cnt ds.length ++ ns))
inductive TrNs : List PyData → List Nat → Prop
  | nil : TrNs [] []
  | cons {d : PyData} {ds : List PyData} {a b : List Nat} : TrN d a → TrNs ds b → TrNs (d :: ds) (a ++ b)
end
theorem TrNs.app : ∀ {ds es : List PyData} {a b : List Nat}, TrNs ds a → TrNs es b → TrNs (ds ++ es) (a ++ b)
  | [], _, _, _, .nil, h => h
  | _ :: _, _, _, _, .cons (a := x) (b := y) h t, g => by
    rw [List.cons_append, List.append_assoc]
    exact .cons h (TrNs.app t g)
theorem none_same0 {H H' : Hp} {l : Addr} (S : Same H H') (h : H' l = none) : H l = none := by
  cases e : H l with
  | none => rfl
  | some o => rw [S _ _ e] at h; cases h
theorem dtAll_snoc {H : Hp} : ∀ {ds : List PyData} {vs : List V} {d : PyData}, DtAll K H vs (ds ++ [d]) → ∃ ws y, vs = ws ++ [y] ∧ DtAll K H ws ds ∧ Dt K H y d
  | [], vs, d, h => by
    obtain ⟨v, ws, rfl, dv, hw⟩ := DtAll.cons_inv h
    obtain rfl := hw.nil_inv
    exact ⟨[], v, rfl, .nil, dv⟩
  | e :: ds, vs, d, h => by
    obtain ⟨v, ws, rfl, dv, hw⟩ := DtAll.cons_inv h
    obtain ⟨us, y, rfl, hu, dy⟩ := dtAll_snoc hw
    exact ⟨v :: us, y, rfl, .cons dv hu, dy⟩
theorem dtAll_rev {H : Hp} : ∀ {ds : List PyData} {vs : List V}, DtAll K H vs ds → DtAll K H vs.reverse ds.reverse
  | [], vs, h => by rw [h.nil_inv]; exact .nil
  | d :: ds, vs, h => by
    obtain ⟨v, ws, rfl, dv, hw⟩ := DtAll.cons_inv h
    rw [List.reverse_cons, List.reverse_cons]
    exact DtAll.app (dtAll_rev hw) (.cons dv .nil)
theorem TrN.pos : ∀ {d : PyData} {a : List Nat}, TrN d a → 1 ≤ a.length
  | _, _, .str _ _ _ => by simp
  | _, _, .int _ _ => by simp
  | _, _, .bool _ => by simp
  | _, _, .tup _ _ _ _ => by simp
theorem TrNs.len : ∀ {ds : List PyData} {b : List Nat}, TrNs ds b → ds.length ≤ b.length
  | [], _, .nil => Nat.le_refl _
  | _ :: _, _, .cons h t => by
    have h1 := h.pos
    have h2 := TrNs.len t
    rw [List.length_cons, List.length_append]
    omega
def muT (nl : Addr) (ns : List Nat) (H : Hp) : Nat := match H nl with | some (.lst xs) => ns.length + 1 - xs.length | _ => 0
theorem mu_lt {H1 H5 : Hp} {nl : Addr} {ns a b : List Nat} (e1 : H1 nl = some (.lst (nV a))) (e5 : H5 nl = some (.lst (nV b))) (hab : a.length < b.length) (hb : b.length ≤ ns.length) : muT nl ns H5 < muT nl ns H1 := by
  unfold muT
  rw [e1, e5]
  show ns.length + 1 - (nV b).length < ns.length + 1 - (nV a).length
  rw [nV_len, nV_len]
  omega
def spWTree (K : PySem.W.Frag) : Sp := fun vs H Q _ => ∃ (v : V) (d : PyData) (ns : List Nat), vs = [v] ∧ Dt K H v d ∧ TrN d ns ∧ ns.length ≤ 100000 ∧ ∀ l H', H l = none → Same H H' → H' l = some (.lst (nV ns)) → Q (.ref l) H'
theorem ok_wtree {f : Addr} {fd : FuncData} (F : Fun K "write_tree" "write_tree" s_write_tree f fd) (T : Txt K mg) (U_write_count : Use P w K mg base CX0 "write_count" 1 P_write_count (spCount K)) (U_write_string : Use P w K mg base CX0 "write_string" 2 P_write_string (spWStr K)) (U_write_integer : Use P w K mg base CX0 "write_integer" 2 P_write_integer (spWInt K)) :
    FnG P w K mg base CX0 3 f fd P_write_tree (spWTree K) := by
  refine okG0 F sc_write_tree (fun vs H Q E h => ?_) fun cdv A outer s H vs Q E hr hg h => ?_
  · obtain ⟨v, d, ns, rfl, _⟩ := h
    rfl
  · obtain ⟨v, d, ns, rfl, dv, hd, hl, k⟩ := h
    refine ⟨_, (pss_cons (ps_set (i := 1) sc_write_tree.nd rfl (Or.inl rfl) (pe_lst pa_nil))
  (pss_cons (ps_set (i := 2) sc_write_tree.nd rfl (Or.inl rfl) (pe_lst (pa_cons (pv 0) pa_nil)))
  (pss_cons (ps_while PassesOwn.never (pt_up (pt_truth (pv 2) (by intro _; rfl)))
   (pss_cons (ps_set (i := 3) sc_write_tree.nd rfl (Or.inl rfl) (pe_bm0 PySem.F.plainAttrs_list PySem.F.slot_list_pop PySem.F.type_list_pop mt_pop (pv 2)))
  (pss_one (ps_if (pt_val (pe_callB call_isi (by rfl) T.b_isinstance (by decide +kernel) (pa_cons (pv 3) (pa_cons (pe_bltn (v := .ty "tuple") (by rfl) T.b_tuple (by decide +kernel) rfl) pa_nil))))
   (pss_cons (ps_expr (pe_bm PySem.F.plainAttrs_list PySem.F.slot_list_append PySem.F.type_list_append mt_append (pv 1) (pa_cons pe_int pa_nil)))
  (pss_cons (ps_expr (pe_bm PySem.F.plainAttrs_list PySem.F.slot_list_extend PySem.F.type_list_extend mt_extend (pv 1) (pa_cons (pe_use U_write_count (hr.mono (by decide)) hg rfl (pa_cons (pe_callB call_len (by rfl) T.b_len PySem.boot_len (pa_cons (pv 3) pa_nil)) pa_nil)) pa_nil)))
  (pss_one (ps_expr (pe_bm PySem.F.plainAttrs_list PySem.F.slot_list_extend PySem.F.type_list_extend mt_extend (pv 2) (pa_cons (pe_listRevT rfl (by rfl) T.b_list (by rfl) T.b_reversed (pv 3)) pa_nil))))))
   (pss_one (ps_if (pt_val (pe_callB call_isi (by rfl) T.b_isinstance (by decide +kernel) (pa_cons (pv 3) (pa_cons (pe_bltn (v := .ty "str") (by rfl) T.b_str (by decide +kernel) rfl) pa_nil))))
   (pss_cons (ps_expr (pe_bm PySem.F.plainAttrs_list PySem.F.slot_list_append PySem.F.type_list_append mt_append (pv 1) (pa_cons pe_int pa_nil)))
  (pss_one (ps_expr (pe_bm PySem.F.plainAttrs_list PySem.F.slot_list_extend PySem.F.type_list_extend mt_extend (pv 1) (pa_cons (pe_use U_write_string (hr.mono (by decide)) hg rfl (pa_cons (pv 3) pa_nil)) pa_nil)))))
   (pss_one (ps_if (pt_val (pe_callB call_isi (by rfl) T.b_isinstance (by decide +kernel) (pa_cons (pv 3) (pa_cons (pe_bltn (v := .ty "bool") (by rfl) T.b_bool (by decide +kernel) rfl) pa_nil))))
   (pss_one (ps_expr (pe_bm PySem.F.plainAttrs_list PySem.F.slot_list_append PySem.F.type_list_append mt_append (pv 1) (pa_cons (pe_op op_add pe_int (pe_callTy call_int1 (by rfl) T.b_int (by decide +kernel) (pa_cons (pv 3) pa_nil))) pa_nil))))
   (pss_cons (ps_expr (pe_bm PySem.F.plainAttrs_list PySem.F.slot_list_append PySem.F.type_list_append mt_append (pv 1) (pa_cons pe_int pa_nil)))
  (pss_one (ps_expr (pe_bm PySem.F.plainAttrs_list PySem.F.slot_list_extend PySem.F.type_list_extend mt_extend (pv 1) (pa_cons (pe_use U_write_integer (hr.mono (by decide)) hg rfl (pa_cons (pv 3) pa_nil)) pa_nil)))))))))))))
  (pss_one (ps_ret (pv 1)))))), ?_⟩
    refine ⟨sz_0, fun nl hnl => ?_⟩
    refine ⟨_, rfl, sz_1, fun wl hwl => ?_⟩
    have S0 : Same H (upd (upd H nl (.lst [])) wl (.lst [v])) := (Same.new hnl).trans (Same.new hwl)
    have en0 := Same.new (o := .lst [v]) hwl _ _ (show (upd H nl (.lst [])) nl = some (.lst []) from upd_same)
    have ew0 : (upd (upd H nl (.lst [])) wl (.lst [v])) wl = some (.lst [v]) := upd_same
    have nw : wl ≠ nl := fun e => by subst e; rw [upd_same] at hwl; cases hwl
    have hwl0 : H wl = none := none_same0 (Same.new hnl) hwl
    generalize upd (upd H nl (.lst [])) wl (.lst [v]) = H0 at S0 en0 ew0 ⊢
    refine while_up (fun σ H1 => ∃ (x3 : Option V) (don rest : List Nat) (st : List V) (rs : List PyData), σ = [some v, some (.ref nl), some (.ref wl), x3] ∧ Same H H1 ∧ H1 nl = some (.lst (nV don)) ∧ H1 wl = some (.lst st) ∧ DtAll K H1 st rs.reverse ∧ TrNs rs rest ∧ don ++ rest = ns)
      (fun _ H1 => muT nl ns H1)
      ⟨none, [], ns, [v], [d], rfl, S0, en0, ew0, .cons (dv.mono S0) .nil, by have := TrNs.cons hd .nil; rw [List.append_nil] at this; exact this, rfl⟩ ?_
    rintro σ H1 ⟨x3, don, rest, st, rs, rfl, S1, en, ew, ast, hrs, hcat⟩
    refine ⟨_, rfl, !st.isEmpty, .inl ⟨st, SqL.of ew, rfl⟩, ?_⟩
    cases hrs with
    | nil =>
      obtain rfl := DtAll.nil_inv ast
      refine iteFb rfl ?_
      rw [List.append_nil] at hcat
      subst hcat
      exact ⟨_, rfl, k _ _ hnl S1 en⟩
    | @cons d1 ds1 a b h1 hr1 =>
      obtain ⟨st1, y, rfl, as1, dy⟩ : ∃ st1 y, st = st1 ++ [y] ∧ DtAll K H1 st1 ds1.reverse ∧ Dt K H1 y d1 := by
        rw [List.reverse_cons] at ast
        exact dtAll_snoc ast
      refine iteTb (by simp) ?_
      refine ⟨_, rfl, .inl ⟨rfl, _, SqL.of ew⟩, wl, _, y, rfl, rfl, ew, by simp, ?_⟩
      rw [List.dropLast_concat]
      have kt1 : KeepT K H1 (upd H1 wl (.lst st1)) := KeepT.upd ew
      have e2 : (upd H1 wl (.lst st1)) nl = some (.lst (nV don)) := by rw [upd_ne (Ne.symm nw)]; exact en
      have w2 : (upd H1 wl (.lst st1)) wl = some (.lst st1) := upd_same
      have S2 : Same H (upd H1 wl (.lst st1)) := fun b o hb => by rw [upd_ne (ne_of_none hb hwl0)]; exact S1 b o hb
      have as2 := as1.keepT kt1
      have dy2 := dy.keepT kt1
      generalize upd H1 wl (.lst st1) = H2 at e2 w2 S2 as2 dy2 ⊢
      clear kt1 ast as1 dy
      have dl := congrArg List.length hcat
      simp only [List.length_append] at dl
      have ldon : (nV don).length = don.length := nV_len _
      have sl : ∀ n : Nat, n ≤ 200000 → n ≤ sizeLine := fun n h => Nat.le_trans h (by decide)
      have sl2 : ∀ n : Nat, n ≤ 200000 → n < sizeLine := fun n h => Nat.lt_of_le_of_lt h (by decide)
      cases h1 with
      | str js hj1 hj2 =>
        cases dy2.str_inv
        refine ⟨_, rfl, _, _, _, _, false, rfl, .ty _, .base (.str _), kit_ty (by decide +kernel), _, rfl, iteFb rfl ?_⟩
        refine ⟨_, rfl, _, _, _, _, true, rfl, .ty _, .base (.str _), if_pos (beq_self_eq_true _), _, rfl, iteTb rfl ?_⟩
        refine ⟨_, rfl, .inl ⟨rfl, _, SqL.of e2⟩, nl, _, _, rfl, rfl, e2, sl2 _ (by omega), ?_⟩
        have e3 : (upd H2 nl (.lst (nV don ++ [.int 1]))) nl = some (.lst (nV don ++ [.int 1])) := upd_same
        have w3 : (upd H2 nl (.lst (nV don ++ [.int 1]))) wl = some (.lst st1) := by rw [upd_ne nw]; exact w2
        have S3 : Same H (upd H2 nl (.lst (nV don ++ [.int 1]))) := fun b o hb => by rw [upd_ne (ne_of_none hb hnl)]; exact S2 b o hb
        have as3 := as2.keepT (KeepT.upd (o := .lst (nV don ++ [.int 1])) e2)
        generalize upd H2 nl (.lst (nV don ++ [.int 1])) = H3 at e3 w3 S3 as3 ⊢
        refine ⟨_, rfl, .inl ⟨rfl, _, SqL.of e3⟩, _, rfl, js, rfl, hj1, hj2, fun l H4 hl4 S4 el => ⟨nl, l, _, _, rfl, rfl, S4 _ _ e3, el, sl _ (by simp only [List.length_append, List.length_singleton, nV_len, List.length_cons, List.length_nil] at dl ⊢; omega), ?_⟩⟩
        have ed : nV don ++ [.int 1] ++ nV (strN js) = nV (don ++ 1 :: strN js) := by rw [nV_app, List.append_assoc]; rfl
        rw [ed]
        refine ⟨⟨_, don ++ 1 :: strN js, b, st1, ds1, rfl, fun c o hb => by rw [upd_ne (ne_of_none hb hnl)]; exact S4 _ _ (S3 c o hb), upd_same, by rw [upd_ne nw]; exact S4 _ _ w3, (as3.mono S4).keepT (KeepT.upd (S4 _ _ e3)), hr1, by rw [List.append_assoc]; exact hcat⟩, mu_lt en upd_same (by simp) (by simp at dl ⊢; omega)⟩
      | int i hi =>
        cases dy2.int_inv
        refine ⟨_, rfl, _, _, _, _, false, rfl, .ty _, .base (.int _), kit_ty (by decide +kernel), _, rfl, iteFb rfl ?_⟩
        refine ⟨_, rfl, _, _, _, _, false, rfl, .ty _, .base (.int _), kit_ty (by decide +kernel), _, rfl, iteFb rfl ?_⟩
        refine ⟨_, rfl, _, _, _, _, false, rfl, .ty _, .base (.int _), kit_ty (by decide +kernel), _, rfl, iteFb rfl ?_⟩
        refine ⟨_, rfl, .inl ⟨rfl, _, SqL.of e2⟩, nl, _, _, rfl, rfl, e2, sl2 _ (by omega), ?_⟩
        have e3 : (upd H2 nl (.lst (nV don ++ [.int 2]))) nl = some (.lst (nV don ++ [.int 2])) := upd_same
        have w3 : (upd H2 nl (.lst (nV don ++ [.int 2]))) wl = some (.lst st1) := by rw [upd_ne nw]; exact w2
        have S3 : Same H (upd H2 nl (.lst (nV don ++ [.int 2]))) := fun b o hb => by rw [upd_ne (ne_of_none hb hnl)]; exact S2 b o hb
        have as3 := as2.keepT (KeepT.upd (o := .lst (nV don ++ [.int 2])) e2)
        generalize upd H2 nl (.lst (nV don ++ [.int 2])) = H3 at e3 w3 S3 as3 ⊢
        refine ⟨_, rfl, .inl ⟨rfl, _, SqL.of e3⟩, _, rfl, i, rfl, hi, fun l H4 hl4 S4 el => ⟨nl, l, _, _, rfl, rfl, S4 _ _ e3, el, sl _ (by simp only [List.length_append, List.length_singleton, nV_len, List.length_cons, List.length_nil] at dl ⊢; omega), ?_⟩⟩
        have ed : nV don ++ [.int 2] ++ nV (cnt (zig i)) = nV (don ++ 2 :: cnt (zig i)) := by rw [nV_app, List.append_assoc]; rfl
        rw [ed]
        refine ⟨⟨_, don ++ 2 :: cnt (zig i), b, st1, ds1, rfl, fun c o hb => by rw [upd_ne (ne_of_none hb hnl)]; exact S4 _ _ (S3 c o hb), upd_same, by rw [upd_ne nw]; exact S4 _ _ w3, (as3.mono S4).keepT (KeepT.upd (S4 _ _ e3)), hr1, by rw [List.append_assoc]; exact hcat⟩, mu_lt en upd_same (by simp) (by simp at dl ⊢; omega)⟩
      | bool q =>
        cases dy2.bool_inv
        refine ⟨_, rfl, _, _, _, _, false, rfl, .ty _, .base (.bl _), kit_ty (by decide +kernel), _, rfl, iteFb rfl ?_⟩
        refine ⟨_, rfl, _, _, _, _, false, rfl, .ty _, .base (.bl _), kit_ty (by decide +kernel), _, rfl, iteFb rfl ?_⟩
        refine ⟨_, rfl, _, _, _, _, true, rfl, .ty _, .base (.bl _), if_pos (beq_self_eq_true _), _, rfl, iteTb rfl ?_⟩
        refine ⟨_, rfl, .inl ⟨rfl, _, SqL.of e2⟩, _, rfl, .inr ⟨q, rfl, _, _, rfl, rfl, nl, _, _, rfl, rfl, e2, sl2 _ (by omega), ?_⟩⟩
        have ed : nV don ++ [.int (3 + if q = true then (1 : Int) else 0)] = nV (don ++ [3 + if q = true then 1 else 0]) := by
          rw [nV_app]
          cases q <;> rfl
        rw [ed]
        exact ⟨⟨_, don ++ [3 + if q = true then 1 else 0], b, st1, ds1, rfl, fun c o hb => by rw [upd_ne (ne_of_none hb hnl)]; exact S2 c o hb, upd_same, by rw [upd_ne nw]; exact w2, as2.keepT (KeepT.upd e2), hr1, by rw [List.append_assoc]; exact hcat⟩, mu_lt en upd_same (by simp) (by simp at dl ⊢; omega)⟩
      | tup es ms hes hms =>
        obtain ⟨q, xs, rfl, hq, ax⟩ := dy2.tuple_inv
        have lx := ax.length
        refine ⟨_, rfl, _, _, _, _, true, rfl, .ty _, SqT.tyX hq, if_pos (beq_self_eq_true _), _, rfl, iteTb rfl ?_⟩
        refine ⟨_, rfl, .inl ⟨rfl, _, SqL.of e2⟩, nl, _, _, rfl, rfl, e2, sl2 _ (by omega), ?_⟩
        have e3 : (upd H2 nl (.lst (nV don ++ [.int 0]))) nl = some (.lst (nV don ++ [.int 0])) := upd_same
        have w3 : (upd H2 nl (.lst (nV don ++ [.int 0]))) wl = some (.lst st1) := by rw [upd_ne nw]; exact w2
        have S3 : Same H (upd H2 nl (.lst (nV don ++ [.int 0]))) := fun b o hb => by rw [upd_ne (ne_of_none hb hnl)]; exact S2 b o hb
        have as3 := as2.keepT (KeepT.upd (o := .lst (nV don ++ [.int 0])) e2)
        have hq3 := KeepT.upd (o := .lst (nV don ++ [.int 0])) e2 _ _ hq
        have ax3 := ax.keepT (KeepT.upd (o := .lst (nV don ++ [.int 0])) e2)
        generalize upd H2 nl (.lst (nV don ++ [.int 0])) = H3 at e3 w3 S3 as3 hq3 ax3 ⊢
        refine ⟨_, rfl, .inl ⟨rfl, _, SqL.of e3⟩, _, rfl, _, _, rfl, .inr ⟨_, hq3, rfl⟩, xs.length, rfl, ?_, fun l H4 hl4 S4 el => ⟨nl, l, _, _, rfl, rfl, S4 _ _ e3, el, sl _ ?_, ?_⟩⟩
        · exact Nat.lt_of_le_of_lt (show xs.length ≤ 1000 by omega) (by decide +kernel)
        · rw [lx]
          simp only [List.length_append, List.length_singleton, nV_len, List.length_cons, List.length_nil] at dl ⊢
          omega
        have ed : nV don ++ [.int 0] ++ nV (cnt xs.length) = nV (don ++ 0 :: cnt es.length) := by rw [nV_app, List.append_assoc, lx]; rfl
        rw [ed]
        have e5 : (upd H4 nl (.lst (nV (don ++ 0 :: cnt es.length)))) nl = some (.lst (nV (don ++ 0 :: cnt es.length))) := upd_same
        have w5 : (upd H4 nl (.lst (nV (don ++ 0 :: cnt es.length)))) wl = some (.lst st1) := by rw [upd_ne nw]; exact S4 _ _ w3
        have S5 : Same H (upd H4 nl (.lst (nV (don ++ 0 :: cnt es.length)))) := fun b o hb => by rw [upd_ne (ne_of_none hb hnl)]; exact S4 _ _ (S3 b o hb)
        have as5 := (as3.mono S4).keepT (KeepT.upd (o := .lst (nV (don ++ 0 :: cnt es.length))) (S4 _ _ e3))
        have ax5 := (ax3.mono S4).keepT (KeepT.upd (o := .lst (nV (don ++ 0 :: cnt es.length))) (S4 _ _ e3))
        have hq5 := KeepT.upd (o := .lst (nV (don ++ 0 :: cnt es.length))) (S4 _ _ e3) _ _ (Same.tupl S4 hq3)
        generalize upd H4 nl (.lst (nV (don ++ 0 :: cnt es.length))) = H5 at e5 w5 S5 as5 ax5 hq5 ⊢
        refine ⟨_, rfl, .inl ⟨rfl, _, SqL.of w5⟩, _, rfl, q, xs, rfl, hq5, fun r hr5 => ?_⟩
        have T := Same.new (o := .lst xs.reverse) hr5
        have ls := as5.length
        have lb := hr1.len
        rw [List.length_reverse] at ls
        refine ⟨wl, r, _, _, rfl, rfl, T _ _ w5, upd_same, sl _ (by rw [List.length_reverse]; simp only [List.length_append, List.length_cons] at dl; omega), ?_⟩
        refine ⟨⟨_, don ++ 0 :: cnt es.length, ms ++ b, st1 ++ xs.reverse, es ++ ds1, rfl, fun c o hb => by rw [upd_ne (ne_of_none hb hwl0)]; exact T _ _ (S5 c o hb), by rw [upd_ne (Ne.symm nw)]; exact T _ _ e5, upd_same, ?_, TrNs.app hms hr1, by rw [← hcat]; simp⟩, mu_lt en (by rw [upd_ne (Ne.symm nw)]; exact T _ _ e5) (by simp) (by simp at dl ⊢; omega)⟩
        rw [List.reverse_append]
        exact (DtAll.app (as5.mono T) ((dtAll_rev ax5).mono T)).keepT (KeepT.upd (T _ _ w5))
end

abbrev s_law_signs : Stmt := top 52
abbrev N_law_signs : List Str := ["signs"]
abbrev P_law_signs : List Str := []
theorem sc_law_signs : FnScope N_law_signs P_law_signs (defScope s_law_signs) := ⟨rfl, rfl, rfl, by decide +kernel, rfl, by decide +kernel, by decide +kernel⟩
abbrev s_law_text : Stmt := top 53
abbrev N_law_text : List Str := ["box", "up", "signs", "size", "k"]
abbrev P_law_text : List Str := ["box", "up"]
theorem sc_law_text : FnScope N_law_text P_law_text (defScope s_law_text) := ⟨rfl, rfl, rfl, by decide +kernel, rfl, by decide +kernel, by decide +kernel⟩
abbrev s_law_name : Stmt := top 54
abbrev N_law_name : List Str := ["box", "letters", "size", "k"]
abbrev P_law_name : List Str := ["box"]
theorem sc_law_name : FnScope N_law_name P_law_name (defScope s_law_name) := ⟨rfl, rfl, rfl, by decide +kernel, rfl, by decide +kernel, by decide +kernel⟩
abbrev s_law_number : Stmt := top 55
abbrev N_law_number : List Str := ["box", "bound", "kind", "number", "k"]
abbrev P_law_number : List Str := ["box"]
theorem sc_law_number : FnScope N_law_number P_law_number (defScope s_law_number) := ⟨rfl, rfl, rfl, by decide +kernel, rfl, by decide +kernel, by decide +kernel⟩
abbrev s_law_value : Stmt := top 56
abbrev N_law_value : List Str := ["box", "many", "kind", "low"]
abbrev P_law_value : List Str := ["box", "many"]
theorem sc_law_value : FnScope N_law_value P_law_value (defScope s_law_value) := ⟨rfl, rfl, rfl, by decide +kernel, rfl, by decide +kernel, by decide +kernel⟩
section
variable {P : Program} {w : World} {K : PySem.W.Frag} {mg : Str → Option Value} {base : Heap}
def spSigns (K : PySem.W.Frag) : Sp := fun vs H Q _ => vs = [] ∧ Q (.str chStr) H
theorem ok_signs {f : Addr} {fd : FuncData} (F : Fun K "_law_signs" "_law_signs" s_law_signs f fd) (T : Txt K mg) : FnG P w K mg base CX0 1 f fd P_law_signs (spSigns K) := by
  refine okG0 F sc_law_signs (fun vs H Q E h => ?_) fun cdv A outer s H vs Q E hr hg h => ?_
  · obtain ⟨rfl, _⟩ := h
    rfl
  · obtain ⟨rfl, k⟩ := h
    refine ⟨_, (pss_cons (ps_set (i := 0) sc_law_signs.nd rfl (Or.inl rfl) pe_str)
  (pss_one (ps_ret (pe_op op_add_str (pv 0) pe_str)))), ?_⟩
    refine ⟨_, rfl, _, _, rfl, rfl, by decide +kernel, ?_⟩
    exact k
theorem chars_of : ∀ {cs : List Nat}, (∀ c ∈ cs, ∃ j < 95, ch j = c) → ∃ js : List Nat, cs = js.map ch ∧ js.length = cs.length ∧ ∀ j ∈ js, j < 95
  | [], _ => ⟨[], rfl, rfl, by simp⟩
  | c :: r, h => by
    obtain ⟨j, hj, e⟩ := h c (by simp)
    obtain ⟨js, e1, e2, e3⟩ := chars_of (cs := r) fun d hd => h d (List.mem_cons_of_mem _ hd)
    exact ⟨j :: js, by rw [List.map_cons, e, e1], by simp [e2], fun x hx => by
      rcases List.mem_cons.mp hx with rfl | hx
      · exact hj
      · exact e3 x hx⟩
def chV (cs : List Nat) : List V := (cs.map fun c => (⟨#[c]⟩ : Str)).map V.str
theorem chV_app (a b : List Nat) : chV (a ++ b) = chV a ++ chV b := by unfold chV; rw [List.map_append, List.map_append]
theorem chV_len (a : List Nat) : (chV a).length = a.length := by unfold chV; simp
theorem one_len : ∀ cs : List Nat, ((cs.map fun c => (⟨#[c]⟩ : Str)).map (·.length)).sum = cs.length
  | [] => rfl
  | c :: r => by rw [List.map_cons, List.map_cons, List.sum_cons, one_len r]; simp [Str.length]; omega
def spText (K : PySem.W.Frag) : Sp := fun vs H Q _ => ∃ (p dl : Addr) (up : Nat), vs = [.ref p, .int (up : Int)] ∧ BoxAt H p dl ∧ up ≤ 1000 ∧ ∀ (js : List Nat) H', js.length ≤ up → (∀ j ∈ js, j < 95) → BoxAt H' p dl → Keep p H H' → Q (.str (tx js)) H'
theorem ok_text {f : Addr} {fd : FuncData} (F : Fun K "_law_text" "_law_text" s_law_text f fd) (T : Txt K mg) (U_law_signs : Use P w K mg base CX0 "_law_signs" 1 P_law_signs (spSigns K)) (U_law_draw : Use P w K mg base CX0 "_law_draw" 1 P_law_draw (spDraw K)) : FnG P w K mg base CX0 2 f fd P_law_text (spText K) := by
  refine okG0 F sc_law_text (fun vs H Q E h => ?_) fun cdv A outer s H vs Q E hr hg h => ?_
  · obtain ⟨p, dl, up, rfl, _⟩ := h
    rfl
  · obtain ⟨p, dl, up, rfl, B, hup, k⟩ := h
    refine ⟨_, (pss_cons (ps_set (i := 2) sc_law_text.nd rfl (Or.inr rfl) (pe_use0 U_law_signs (hr.mono (by decide)) hg rfl))
  (pss_cons (ps_set (i := 3) sc_law_text.nd rfl (Or.inl rfl) (pe_use U_law_draw (hr.mono (by decide)) hg rfl (pa_cons (pv 0) (pa_cons (pe_op op_add (pv 1) pe_int) pa_nil))))
  (pss_one (ps_ret (pe_bm PySem.F.plainAttrs_str PySem.F.slot_str_join PySem.F.type_str_join mt_join pe_str (pa_cons (pe_lc (own := [("k", 4)]) (g := (gName 4)) rfl sc_law_text.nd (pi_range1 (by rfl) T.b_range (pa_cons (pv 3) pa_nil)) (blkOk_by (N := N_law_text) (sc := defScope s_law_text) (by decide +kernel)) (fun _ _ _ _ _ => (pg_name (i := 4) sc_law_text.nd rfl (Or.inl rfl))) (fun _ _ _ _ _ => pts_nil) (fun _ _ _ _ _ => (pe_ix ix_str (pv 2) (pe_use U_law_draw (hr.mono (by decide)) hg rfl (pa_cons (pv 0) (pa_cons pe_int pa_nil))) (fun _ _ => rfl)))) pa_nil)))))), ?_⟩
    refine ⟨rfl, ?_⟩
    refine ⟨_, rfl, _, rfl, _, _, rfl, rfl, p, dl, (up : Int) + 1, rfl, B, by omega, fun r H1 r0 r1 B1 K1 => ?_⟩
    obtain ⟨n, rfl⟩ := Int.eq_ofNat_of_zero_le r0
    refine ⟨rfl, _, rfl, n, rfl, by omega, by omega, fun D hD => ?_⟩
    rw [Int.toNat_natCast]
    obtain ⟨hDp, hDd⟩ := B1.ne_new hD
    refine lc_it (walk_range (lo := 0) (n := n)) (fun i H' => ∃ cs : List Nat, H' D = some (.lst (chV cs)) ∧ cs.length = i ∧ (∀ c ∈ cs, ∃ j < 95, ch j = c) ∧ BoxAt H' p dl ∧ Keep p H1 H') ⟨[], upd_same, rfl, by simp, B1.same (Same.new hD), Same.keep (Same.new hD)⟩ (fun _ _ _ _ => trivial) ?_ ?_
    · rintro i x H5 H6 hi ⟨cs, e5, hl5, hc5, B5, K5⟩ ⟨rfl, rfl⟩
      refine ⟨rfl, tYes_of ?_⟩
      refine ⟨_, rfl, _, rfl, p, dl, 95, rfl, B5, by decide, fun r H7 q0 q1 B7 K7 => ?_⟩
      obtain ⟨j, rfl⟩ := Int.eq_ofNat_of_zero_le q0
      have e7 := K7 _ _ e5 hDp
      refine ⟨chStr, (j : Int), ch j, rfl, rfl, by decide +kernel, atI_nat (ch_at (by omega)), chV cs, e7, ?_, cs ++ [ch j], ?_, by simp [hl5], fun c hc => ?_, B7.upd hDp hDd, fun b o e hb => ?_⟩
      · rw [chV_len]; exact Nat.lt_of_le_of_lt (show cs.length ≤ 1000 by omega) (by decide)
      · rw [upd_same, chV_app]; rfl
      · rcases List.mem_append.mp hc with hc | hc
        · exact hc5 c hc
        · exact ⟨j, by omega, (List.mem_singleton.mp hc).symm⟩
      · rw [upd_ne (ne_of_none e hD)]; exact K7 _ _ (K5 _ _ e hb) hb
    · rintro H5 ⟨cs, e5, hl5, hc5, B5, K5⟩
      obtain ⟨js, rfl, h1, h2⟩ := chars_of hc5
      rw [List.length_map] at hl5
      refine ⟨_, D, _, rfl, rfl, .inl (SqL.of e5), ?_, ?_⟩
      · rw [one_len, List.length_map, List.length_map, show ("" : Str).length = 0 by decide +kernel]; omega
      · rw [join_chars]
        exact k js H5 (by omega) h2 B5 (K1.trans K5)
def nmC : List Nat := ("abcdefghijklmnopqrstuvwxyz_" : Str).cps.toList
def spName (K : PySem.W.Frag) : Sp := fun vs H Q _ => ∃ (p dl : Addr), vs = [.ref p] ∧ BoxAt H p dl ∧ ∀ (js : List Nat) H', js.length ≤ 5 → (∀ j ∈ js, j < 95) → BoxAt H' p dl → Keep p H H' → Q (.str (tx js)) H'
theorem ok_name {f : Addr} {fd : FuncData} (F : Fun K "_law_name" "_law_name" s_law_name f fd) (T : Txt K mg) (U_law_draw : Use P w K mg base CX0 "_law_draw" 1 P_law_draw (spDraw K)) : FnG P w K mg base CX0 2 f fd P_law_name (spName K) := by
  refine okG0 F sc_law_name (fun vs H Q E h => ?_) fun cdv A outer s H vs Q E hr hg h => ?_
  · obtain ⟨p, dl, rfl, _⟩ := h
    rfl
  · obtain ⟨p, dl, rfl, B, k⟩ := h
    refine ⟨_, (pss_cons (ps_set (i := 1) sc_law_name.nd rfl (Or.inr rfl) pe_str)
  (pss_cons (ps_set (i := 2) sc_law_name.nd rfl (Or.inl rfl) (pe_op op_add pe_int (pe_use U_law_draw (hr.mono (by decide)) hg rfl (pa_cons (pv 0) (pa_cons pe_int pa_nil)))))
  (pss_one (ps_ret (pe_bm PySem.F.plainAttrs_str PySem.F.slot_str_join PySem.F.type_str_join mt_join pe_str (pa_cons (pe_lc (own := [("k", 3)]) (g := (gName 3)) rfl sc_law_name.nd (pi_range1 (by rfl) T.b_range (pa_cons (pv 2) pa_nil)) (blkOk_by (N := N_law_name) (sc := defScope s_law_name) (by decide +kernel)) (fun _ _ _ _ _ => (pg_name (i := 3) sc_law_name.nd rfl (Or.inl rfl))) (fun _ _ _ _ _ => pts_nil) (fun _ _ _ _ _ => (pe_ix ix_str (pv 1) (pe_use U_law_draw (hr.mono (by decide)) hg rfl (pa_cons (pv 0) (pa_cons pe_int pa_nil))) (fun _ _ => rfl)))) pa_nil)))))), ?_⟩
    have hS : ("abcdefghijklmnopqrstuvwxyz_" : Str) = S nmC := by decide +kernel
    have hL : nmC.length = 27 := by decide +kernel
    have hl0 : ("abcdefghijklmnopqrstuvwxyz_" : Str).length ≤ sizeLine := by decide +kernel
    have hin : ∀ c ∈ nmC, ∃ j < 95, ch j = c := by decide +kernel
    refine ⟨_, rfl, p, dl, 5, rfl, B, by decide, fun r H1 r0 r1 B1 K1 => ⟨_, _, rfl, rfl, ?_⟩⟩
    obtain ⟨n, hn⟩ : ∃ n : Nat, 1 + r = (n : Int) := ⟨(1 + r).toNat, by omega⟩
    refine ⟨rfl, _, rfl, n, congrArg (fun z => [V.int z]) hn, by omega, by omega, fun D hD => ?_⟩
    rw [Int.toNat_natCast]
    obtain ⟨hDp, hDd⟩ := B1.ne_new hD
    refine lc_it (walk_range (lo := 0) (n := n)) (fun i H' => ∃ cs : List Nat, H' D = some (.lst (chV cs)) ∧ cs.length = i ∧ (∀ c ∈ cs, ∃ j < 95, ch j = c) ∧ BoxAt H' p dl ∧ Keep p H1 H') ⟨[], upd_same, rfl, by simp, B1.same (Same.new hD), Same.keep (Same.new hD)⟩ (fun _ _ _ _ => trivial) ?_ ?_
    · rintro i x H5 H6 hi ⟨cs, e5, hl5, hc5, B5, K5⟩ ⟨rfl, rfl⟩
      refine ⟨rfl, tYes_of ?_⟩
      refine ⟨_, rfl, _, rfl, p, dl, 27, rfl, B5, by decide, fun r H7 q0 q1 B7 K7 => ?_⟩
      obtain ⟨j, rfl⟩ := Int.eq_ofNat_of_zero_le q0
      have e7 := K7 _ _ e5 hDp
      have hc : nmC[j]? = some nmC[j] := List.getElem?_eq_getElem (by omega)
      have hcm := hin _ (List.getElem_mem (show j < nmC.length by omega))
      generalize nmC[j]'(by omega) = c at hc hcm
      refine ⟨S nmC, (j : Int), c, by rw [hS], rfl, by rw [← hS]; exact hl0, at_S hc, chV cs, e7, ?_, cs ++ [c], ?_, by simp [hl5], fun d hd => ?_, B7.upd hDp hDd, fun b o e hb => ?_⟩
      · rw [chV_len]; exact Nat.lt_of_le_of_lt (show cs.length ≤ 1000 by omega) (by decide)
      · rw [upd_same, chV_app]; rfl
      · rcases List.mem_append.mp hd with hd | hd
        · exact hc5 d hd
        · rw [List.mem_singleton.mp hd]; exact hcm
      · rw [upd_ne (ne_of_none e hD)]; exact K7 _ _ (K5 _ _ e hb) hb
    · rintro H5 ⟨cs, e5, hl5, hc5, B5, K5⟩
      obtain ⟨js, rfl, h1, h2⟩ := chars_of hc5
      rw [List.length_map] at hl5
      refine ⟨_, D, _, rfl, rfl, .inl (SqL.of e5), ?_, ?_⟩
      · rw [one_len, List.length_map, List.length_map, show ("" : Str).length = 0 by decide +kernel]; omega
      · rw [join_chars]
        exact k js H5 (by omega) h2 B5 (K1.trans K5)
def bd : Int := (2 ^ (64 : Int).toNat) ^ (4 : Int).toNat
theorem bd_eq : bd = 2 ^ 256 := by decide +kernel
def spNumb (K : PySem.W.Frag) : Sp := fun vs H Q _ => ∃ (p dl : Addr), vs = [.ref p] ∧ BoxAt H p dl ∧ ∀ (n : Int) H', n.natAbs < 2 ^ 256 → BoxAt H' p dl → Keep p H H' → Q (.int n) H'
theorem ok_number {f : Addr} {fd : FuncData} (F : Fun K "_law_number" "_law_number" s_law_number f fd) (T : Txt K mg) (U_law_draw : Use P w K mg base CX0 "_law_draw" 1 P_law_draw (spDraw K)) : FnG P w K mg base CX0 2 f fd P_law_number (spNumb K) := by
  refine okG0 F sc_law_number (fun vs H Q E h => ?_) fun cdv A outer s H vs Q E hr hg h => ?_
  · obtain ⟨p, dl, rfl, _⟩ := h
    rfl
  · obtain ⟨p, dl, rfl, B, k⟩ := h
    refine ⟨_, (pss_cons (ps_set (i := 1) sc_law_number.nd rfl (Or.inl rfl) (pe_op op_powW (pe_op op_pow pe_int pe_int) pe_int))
  (pss_cons (ps_set (i := 2) sc_law_number.nd rfl (Or.inl rfl) (pe_use U_law_draw (hr.mono (by decide)) hg rfl (pa_cons (pv 0) (pa_cons pe_int pa_nil))))
  (pss_cons (ps_set (i := 3) sc_law_number.nd rfl (Or.inl rfl) (pe_use U_law_draw (hr.mono (by decide)) hg rfl (pa_cons (pv 0) (pa_cons pe_int pa_nil))))
  (C8.pss_cut (ps_if (pt_cmpR op_eq (pv 2) pe_int (nomark _))
   (pss_one (ps_set (i := 3) sc_law_number.nd rfl (Or.inl rfl) (pe_op op_sub (pe_op op_sub (pv 1) pe_int) (pv 3))))
   (pss_one (ps_if (pt_cmpR op_eq (pv 2) pe_int (nomark _))
   (pss_one (ps_for PassesOwn.never rfl (pi_range1 (by rfl) T.b_range (pa_cons (pe_use U_law_draw (hr.mono (by decide)) hg rfl (pa_cons (pv 0) (pa_cons pe_int pa_nil))) pa_nil)) (pg_name (i := 4) sc_law_number.nd rfl (Or.inl rfl))
   (pss_one (ps_set (i := 3) sc_law_number.nd rfl (Or.inl rfl) (pe_op op_mod (pe_callTy call_int1 (by rfl) T.b_int (by decide +kernel) (pa_cons (pe_op op_add (pe_op op_mulW (pv 3) pe_int) (pe_use U_law_draw (hr.mono (by decide)) hg rfl (pa_cons (pv 0) (pa_cons pe_int pa_nil)))) pa_nil)) (pv 1))))))
   (pss_one (ps_if (pt_cmpR op_eq (pv 2) pe_int (nomark _))
   (pss_one (ps_set (i := 3) sc_law_number.nd rfl (Or.inl rfl) (pe_ix ix_list (pe_lst (pa_cons pe_int (pa_cons pe_int (pa_cons pe_int (pa_cons pe_int (pa_cons pe_int (pa_cons pe_int (pa_cons pe_int (pa_cons pe_int pa_nil))))))))) (pe_use U_law_draw (hr.mono (by decide)) hg rfl (pa_cons (pv 0) (pa_cons pe_int pa_nil))) (fun _ _ => rfl))))
   pss_nil)))))
  (pss_cons (ps_if (pt_cmpR op_eq (pe_use U_law_draw (hr.mono (by decide)) hg rfl (pa_cons (pv 0) (pa_cons pe_int pa_nil))) pe_int (nomark _))
   (pss_one (ps_ret (pe_un un_neg (pv 3))))
   pss_nil)
  (pss_one (ps_ret (pv 3)))))))), ?_⟩
    refine ⟨_, _, rfl, rfl, ⟨by decide, by decide⟩, _, _, rfl, rfl, ⟨by decide, by decide +kernel⟩, ?_⟩
    refine ⟨_, rfl, p, dl, 8, rfl, B, by decide, fun kind H1 k0 k1 B1 K1 => ?_⟩
    refine ⟨_, rfl, p, dl, 300, rfl, B1, by decide, fun n0 H2 n00 n01 B2 K2 => ?_⟩
    have K12 := K1.trans K2
    refine ⟨fun σ H' => ∃ (n : Int) (x4 : Option V), σ = [some (.ref p), some (.int bd), some (.int kind), some (.int n), x4] ∧ n.natAbs < 2 ^ 256 ∧ BoxAt H' p dl ∧ Keep p H H', ?_, ?_⟩
    · refine ⟨_, rfl, rfl, _, rfl, ?_⟩
      refine ite3 (fun _ => ?_) fun _ => ?_
      · refine ⟨_, rfl, _, _, rfl, rfl, _, rfl, _, _, rfl, rfl, bd - 1 - n0, none, rfl, ?_, B2, K12⟩
        rw [bd_eq]; omega
      refine ⟨_, rfl, rfl, _, rfl, ?_⟩
      refine ite3 (fun _ => ?_) fun _ => ?_
      · refine ⟨_, rfl, p, dl, 24, rfl, B2, by decide, fun m H3 m0 m1 B3 K3 => ?_⟩
        obtain ⟨m, rfl⟩ := Int.eq_ofNat_of_zero_le m0
        refine ⟨_, rfl, by omega, by omega, ?_⟩
        rw [Int.toNat_natCast]
        refine for_range (lo := 0) (n := m) (fun i σ H4 => ∃ (n : Int) (x4 : Option V), σ = [some (.ref p), some (.int bd), some (.int kind), some (.int n), x4] ∧ n.natAbs < 2 ^ 256 ∧ BoxAt H4 p dl ∧ Keep p H H4) ⟨n0, none, rfl, Nat.lt_of_lt_of_le (show n0.natAbs < 2 ^ 9 by omega) (Nat.pow_le_pow_right (by decide) (by decide)), B3, K12.trans K3⟩ ?_ ?_
        · rintro i σ H4 hi ⟨n, x4, rfl, hn, B4, K4⟩
          refine ⟨_, rfl, _, _, rfl, rfl, wide_mul (a := 256) (b := 10) hn (by decide) (by decide) (by decide) (by decide), _, rfl, p, dl, 1000, rfl, B4, by decide, fun r H5 r0 r1 B5 K5 => ⟨_, _, rfl, rfl, .inl ⟨_, rfl, _, rfl, _, _, rfl, rfl, ?_, (n * 1000 + r) % bd, some (.int (0 + (i : Int))), rfl, ?_, B5, K4.trans K5⟩⟩⟩
          · show 0 < bd; rw [bd_eq]; decide
          · have h0 := Int.emod_nonneg (n * 1000 + r) (show bd ≠ 0 by rw [bd_eq]; decide)
            have h1 := Int.emod_lt_of_pos (n * 1000 + r) (show 0 < bd by rw [bd_eq]; decide)
            generalize (n * 1000 + r) % bd = z at h0 h1
            rw [bd_eq] at h1; omega
        · rintro σ H4 h
          exact h
      refine ⟨_, rfl, rfl, _, rfl, ?_⟩
      refine ite3 (fun _ => ?_) fun _ => ?_
      · refine ⟨by decide, fun l hl => ?_⟩
        have S3 := Same.new (o := .lst ([(0 : Int), 1, 63, 64, 127, 128, 8191, 8192].map V.int)) hl
        have lp := (B2.ne_new hl).1
        have e3 := upd_same (H := H2) (a := l) (o := HO.lst ([(0 : Int), 1, 63, 64, 127, 128, 8191, 8192].map V.int))
        refine ⟨_, rfl, p, dl, 8, rfl, B2.same S3, by decide, fun r H4 r0 r1 B4 K4 => ?_⟩
        obtain ⟨j, rfl⟩ := Int.eq_ofNat_of_zero_le r0
        have hj : j < [(0 : Int), 1, 63, 64, 127, 128, 8191, 8192].length := by simp; omega
        have hz : [(0 : Int), 1, 63, 64, 127, 128, 8191, 8192][j]? = some [(0 : Int), 1, 63, 64, 127, 128, 8191, 8192][j] := List.getElem?_eq_getElem hj
        have hzb := (show ∀ z ∈ [(0 : Int), 1, 63, 64, 127, 128, 8191, 8192], z.natAbs < 2 ^ 14 by decide) _ (List.getElem_mem hj)
        generalize [(0 : Int), 1, 63, 64, 127, 128, 8191, 8192][j] = z at hz hzb
        refine ⟨l, _, _, .int z, rfl, rfl, SqL.of (K4 _ _ e3 lp), atI_nat (by rw [List.getElem?_map, hz]; rfl), z, none, rfl, Nat.lt_of_lt_of_le hzb (Nat.pow_le_pow_right (by decide) (by decide)), B4, (K12.trans (Same.keep S3)).trans K4⟩
      · exact ⟨n0, none, rfl, Nat.lt_of_lt_of_le (show n0.natAbs < 2 ^ 9 by omega) (Nat.pow_le_pow_right (by decide) (by decide)), B2, K12⟩
    · rintro _ H3 ⟨n, x4, rfl, hn, B3, K3⟩
      refine ⟨_, rfl, p, dl, 2, rfl, B3, by decide, fun r H4 r0 r1 B4 K4 => ⟨rfl, _, rfl, ?_⟩⟩
      refine ite3 (fun _ => ?_) fun _ => ?_
      · exact ⟨_, rfl, _, rfl, k _ _ (by rw [Int.natAbs_neg]; exact hn) B4 (K3.trans K4)⟩
      · exact ⟨_, rfl, k _ _ hn B4 (K3.trans K4)⟩
/-- a drawn value: within the bounds of the document -/
structure TxSm (js : List Nat) : Prop where
  len : js.length ≤ 12
  lt : ∀ j ∈ js, j < 95
def ValSm : Val → Prop
  | .int i => i.natAbs < 2 ^ 256
  | .text js => TxSm js
  | .span a b => a.natAbs < 2 ^ 256 ∧ b.natAbs < 2 ^ 256
  | .built js => TxSm js
  | .host js => TxSm js
  | .ref n => n < 10 ^ 20
  | _ => True
theorem ValSm.ok : ∀ {x : Val}, ValSm x → ValOk x
  | .none, _ => trivial
  | .bool _, _ => trivial
  | .int _, h => Nat.le_trans (Nat.le_of_lt h) (Nat.pow_le_pow_right (by decide) (by decide))
  | .text _, h => ⟨Nat.le_trans h.len (by decide), h.lt⟩
  | .span _ _, h => ⟨Nat.le_trans (Nat.le_of_lt h.1) (Nat.pow_le_pow_right (by decide) (by decide)), Nat.le_trans (Nat.le_of_lt h.2) (Nat.pow_le_pow_right (by decide) (by decide))⟩
  | .built _, h => ⟨Nat.le_trans h.len (by decide), h.lt⟩
  | .host _, h => ⟨Nat.le_trans h.len (by decide), h.lt⟩
  | .ref _, h => Nat.le_trans (Nat.le_of_lt h) (by decide)
def spLVal (K : PySem.W.Frag) : Sp := fun vs H Q _ => ∃ (p dl : Addr) (m : Nat), vs = [.ref p, .int (m : Int)] ∧ BoxAt H p dl ∧ 0 < m ∧ m ≤ 10 ^ 20 ∧ ∀ (v : V) (x : Val) H', Dt K H' v (valD x) → ValSm x → BoxAt H' p dl → Keep p H H' → Q v H'
theorem ok_value {f : Addr} {fd : FuncData} (F : Fun K "_law_value" "_law_value" s_law_value f fd) (T : Txt K mg) (U_law_draw : Use P w K mg base CX0 "_law_draw" 1 P_law_draw (spDraw K)) (U_law_number : Use P w K mg base CX0 "_law_number" 2 P_law_number (spNumb K)) (U_law_text : Use P w K mg base CX0 "_law_text" 2 P_law_text (spText K)) (U_law_name : Use P w K mg base CX0 "_law_name" 2 P_law_name (spName K)) :
    FnG P w K mg base CX0 3 f fd P_law_value (spLVal K) := by
  refine okG0 F sc_law_value (fun vs H Q E h => ?_) fun cdv A outer s H vs Q E hr hg h => ?_
  · obtain ⟨p, dl, m, rfl, _⟩ := h
    rfl
  · obtain ⟨p, dl, m, rfl, B, hm, hm2, k⟩ := h
    refine ⟨_, (pss_cons (ps_set (i := 2) sc_law_value.nd rfl (Or.inl rfl) (pe_use U_law_draw (hr.mono (by decide)) hg rfl (pa_cons (pv 0) (pa_cons pe_int pa_nil))))
  (pss_cons (ps_if (pt_cmpR op_eq (pv 2) pe_int (nomark _))
   (pss_one (ps_ret (pe_tup (pa_cons pe_str pa_nil))))
   pss_nil)
  (pss_cons (ps_if (pt_cmpR op_eq (pv 2) pe_int (nomark _))
   (pss_one (ps_ret (pe_tup (pa_cons pe_str (pa_cons (pe_cmpR op_eq (pe_use U_law_draw (hr.mono (by decide)) hg rfl (pa_cons (pv 0) (pa_cons pe_int pa_nil))) pe_int (nomark _)) pa_nil)))))
   pss_nil)
  (pss_cons (ps_if (pt_cmpR op_eq (pv 2) pe_int (nomark _))
   (pss_one (ps_ret (pe_tup (pa_cons pe_str (pa_cons (pe_use U_law_number (hr.mono (by decide)) hg rfl (pa_cons (pv 0) pa_nil)) pa_nil)))))
   pss_nil)
  (pss_cons (ps_if (pt_cmpR op_eq (pv 2) pe_int (nomark _))
   (pss_one (ps_ret (pe_tup (pa_cons pe_str (pa_cons (pe_use U_law_text (hr.mono (by decide)) hg rfl (pa_cons (pv 0) (pa_cons pe_int pa_nil))) pa_nil)))))
   pss_nil)
  (pss_cons (ps_if (pt_cmpR op_eq (pv 2) pe_int (nomark _))
   (pss_cons (ps_set (i := 3) sc_law_value.nd rfl (Or.inl rfl) (pe_use U_law_number (hr.mono (by decide)) hg rfl (pa_cons (pv 0) pa_nil)))
  (pss_one (ps_ret (pe_tup (pa_cons pe_str (pa_cons (pv 3) (pa_cons (pe_op op_add (pv 3) (pe_op op_mul (pe_use U_law_draw (hr.mono (by decide)) hg rfl (pa_cons (pv 0) (pa_cons pe_int pa_nil))) (pe_callTy call_int1 (by rfl) T.b_int (by decide +kernel) (pa_cons (pe_cmpR op_lt (pv 3) (pe_op op_pow pe_int pe_int) (nomark _)) pa_nil)))) pa_nil)))))))
   pss_nil)
  (pss_cons (ps_if (pt_cmpR op_eq (pv 2) pe_int (nomark _))
   (pss_one (ps_ret (pe_tup (pa_cons pe_str (pa_cons (pe_use U_law_name (hr.mono (by decide)) hg rfl (pa_cons (pv 0) pa_nil)) pa_nil)))))
   pss_nil)
  (pss_cons (ps_if (pt_cmpR op_eq (pv 2) pe_int (nomark _))
   (pss_one (ps_ret (pe_tup (pa_cons pe_str (pa_cons (pe_use U_law_name (hr.mono (by decide)) hg rfl (pa_cons (pv 0) pa_nil)) pa_nil)))))
   pss_nil)
  (pss_one (ps_ret (pe_tup (pa_cons pe_str (pa_cons (pe_op op_mod (pe_callTy call_int1 (by rfl) T.b_int (by decide +kernel) (pa_cons (pe_op op_add (pe_op op_mul (pe_use U_law_draw (hr.mono (by decide)) hg rfl (pa_cons (pv 0) (pa_cons pe_int pa_nil))) pe_int) (pe_use U_law_draw (hr.mono (by decide)) hg rfl (pa_cons (pv 0) (pa_cons pe_int pa_nil)))) pa_nil)) (pv 1)) pa_nil))))))))))))), ?_⟩
    refine ⟨_, rfl, p, dl, 10, rfl, B, by decide, fun kind H1 k0 k1 B1 K1 => ?_⟩
    -- a pair as it is made
    have mk1 : ∀ {H2 : Hp} {z : Str} {y : V} {d : PyData} {x : Val}, BoxAt H2 p dl → Keep p H H2 → Dt K H2 y d → valD x = .tuple [.str z, d] → ValSm x → ∀ t, H2 t = none → Q (.ref t) (upd H2 t (.tup [.str z, y])) := fun B2 K2 dy e sm t ht =>
      k _ _ _ (by rw [e]; exact Dt.made ht (.cons (.str _) (.cons dy .nil))) sm (B2.same (Same.new ht)) (K2.trans (Same.keep (Same.new ht)))
    refine ⟨_, rfl, rfl, _, rfl, ?_⟩
    refine ite3 (fun _ => ?_) fun _ => ?_
    · exact ⟨sz_1, fun t ht => k _ .none _ (Dt.made ht (.cons (.str _) .nil)) trivial (B1.same (Same.new ht)) (K1.trans (Same.keep (Same.new ht)))⟩
    refine ⟨_, rfl, rfl, _, rfl, ?_⟩
    refine ite3 (fun _ => ?_) fun _ => ?_
    · exact ⟨_, rfl, p, dl, 2, rfl, B1, by decide, fun r H2 _ _ B2 K2 => ⟨rfl, sz_2, mk1 (x := .bool _) B2 (K1.trans K2) (.bl _) rfl trivial⟩⟩
    refine ⟨_, rfl, rfl, _, rfl, ?_⟩
    refine ite3 (fun _ => ?_) fun _ => ?_
    · exact ⟨_, rfl, p, dl, rfl, B1, fun n H2 hn B2 K2 => ⟨sz_2, mk1 (x := .int n) B2 (K1.trans K2) (.int _) rfl hn⟩⟩
    refine ⟨_, rfl, rfl, _, rfl, ?_⟩
    refine ite3 (fun _ => ?_) fun _ => ?_
    · exact ⟨_, rfl, p, dl, 12, rfl, B1, by decide, fun js H2 hl hj B2 K2 => ⟨sz_2, mk1 (x := .text js) B2 (K1.trans K2) (.str _) rfl ⟨hl, hj⟩⟩⟩
    refine ⟨_, rfl, rfl, _, rfl, ?_⟩
    refine ite3 (fun _ => ?_) fun _ => ?_
    · refine ⟨_, rfl, p, dl, rfl, B1, fun lo H2 hlo B2 K2 => ?_⟩
      refine ⟨_, rfl, _, rfl, _, rfl, p, dl, 3, rfl, B2, by decide, fun r H3 r0 r1 B3 K3 => ?_⟩
      refine ⟨_, rfl, _, _, rfl, rfl, ⟨by decide, by decide, by decide⟩, _, _, rfl, rfl, .inr ⟨_, rfl, _, _, rfl, rfl, .inl ⟨by omega, by omega⟩, _, _, rfl, rfl, sz_3, fun t ht => ?_⟩⟩
      refine k _ (.span lo _) _ (Dt.made ht (.cons (.str _) (.cons (.int _) (.cons (.int _) .nil)))) ⟨hlo, ?_⟩ (B3.same (Same.new ht)) (((K1.trans K2).trans K3).trans (Same.keep (Same.new ht)))
      have e10 : (10 : Int) ^ (20 : Int).toNat = 100000000000000000000 := by decide +kernel
      have e256 : (100000000000000000003 : Nat) < 2 ^ 256 := by decide +kernel
      show (lo + r * (if decide (lo < 10 ^ (20 : Int).toNat) = true then 1 else 0)).natAbs < 2 ^ 256
      rw [e10]
      by_cases c : lo < 100000000000000000000
      · rw [if_pos (decide_eq_true c), Int.mul_one]; omega
      · rw [if_neg (by rw [decide_eq_false c]; decide), Int.mul_zero, Int.add_zero]; exact hlo
    refine ⟨_, rfl, rfl, _, rfl, ?_⟩
    refine ite3 (fun _ => ?_) fun _ => ?_
    · exact ⟨_, rfl, p, dl, rfl, B1, fun js H2 hl hj B2 K2 => ⟨sz_2, mk1 (x := .built js) B2 (K1.trans K2) (.str _) rfl ⟨by omega, hj⟩⟩⟩
    refine ⟨_, rfl, rfl, _, rfl, ?_⟩
    refine ite3 (fun _ => ?_) fun _ => ?_
    · exact ⟨_, rfl, p, dl, rfl, B1, fun js H2 hl hj B2 K2 => ⟨sz_2, mk1 (x := .host js) B2 (K1.trans K2) (.str _) rfl ⟨by omega, hj⟩⟩⟩
    refine ⟨_, rfl, p, dl, 1000, rfl, B1, by decide, fun r H2 r0 r1 B2 K2 => ?_⟩
    refine ⟨_, _, rfl, rfl, .inl ⟨by omega, by omega⟩, _, rfl, p, dl, 1000, rfl, B2, by decide, fun r' H3 _ _ B3 K3 => ?_⟩
    have hm' : (0 : Int) < (m : Int) := by omega
    have h0 := Int.emod_nonneg (r * 1000 + r') (show (m : Int) ≠ 0 by omega)
    have h1 := Int.emod_lt_of_pos (r * 1000 + r') hm'
    obtain ⟨n, hn⟩ := Int.eq_ofNat_of_zero_le h0
    refine ⟨_, _, rfl, rfl, .inl ⟨_, rfl, _, rfl, _, _, rfl, rfl, hm', sz_2, mk1 (x := .ref n) B3 ((K1.trans K2).trans K3) (.int _) (by rw [hn]; rfl) (show n < 10 ^ 20 by omega)⟩⟩
end

section
--SPLIT
end
abbrev s_law_count : Stmt := top 65
abbrev N_law_count : List Str := ["n", "numbers", "k"]
abbrev P_law_count : List Str := ["n"]
theorem sc_law_count : FnScope N_law_count P_law_count (defScope s_law_count) := ⟨rfl, rfl, rfl, by decide +kernel, rfl, by decide +kernel, by decide +kernel⟩
abbrev s_law_integer : Stmt := top 66
abbrev N_law_integer : List Str := ["i"]
abbrev P_law_integer : List Str := ["i"]
theorem sc_law_integer : FnScope N_law_integer P_law_integer (defScope s_law_integer) := ⟨rfl, rfl, rfl, by decide +kernel, rfl, by decide +kernel, by decide +kernel⟩
abbrev s_law_string : Stmt := top 67
abbrev N_law_string : List Str := ["text", "signs", "sign"]
abbrev P_law_string : List Str := ["text"]
theorem sc_law_string : FnScope N_law_string P_law_string (defScope s_law_string) := ⟨rfl, rfl, rfl, by decide +kernel, rfl, by decide +kernel, by decide +kernel⟩
section
variable {P : Program} {w : World} {K : PySem.W.Frag} {mg : Str → Option Value} {base : Heap}
def spLCount (K : PySem.W.Frag) : Sp := fun vs H Q _ => ∃ n : Nat, vs = [.int (n : Int)] ∧ n < 128 ^ 40 ∧ ∀ l H', H l = none → Same H H' → H' l = some (.lst (nV (cnt n))) → Q (.ref l) H'
theorem ok_lcount {f : Addr} {fd : FuncData} (F : Fun K "_law_count" "_law_count" s_law_count f fd) (T : Txt K mg) : FnG P w K mg base CX0 1 f fd P_law_count (spLCount K) := by
  refine okG0 F sc_law_count (fun vs H Q E h => ?_) fun cdv A outer s H vs Q E hr hg h => ?_
  · obtain ⟨n, rfl, _⟩ := h
    rfl
  · obtain ⟨n, rfl, hn, k⟩ := h
    refine ⟨_, (pss_cons (ps_set (i := 1) sc_law_count.nd rfl (Or.inl rfl) (pe_lst pa_nil))
  (pss_cons (ps_for PassesOwn.never rfl (pi_range1 (by rfl) T.b_range (pa_cons pe_int pa_nil)) (pg_name (i := 2) sc_law_count.nd rfl (Or.inl rfl))
   (pss_cons (ps_if (pt_cmpR op_lt (pv 0) pe_int (nomark _))
   (pss_cons (ps_expr (pe_bm PySem.F.plainAttrs_list PySem.F.slot_list_append PySem.F.type_list_append mt_append (pv 1) (pa_cons (pv 0) pa_nil)))
  (pss_one ps_break))
   pss_nil)
  (pss_cons (ps_expr (pe_bm PySem.F.plainAttrs_list PySem.F.slot_list_append PySem.F.type_list_append mt_append (pv 1) (pa_cons (pe_op op_add pe_int (pe_op op_mod (pe_callTy call_int1 (by rfl) T.b_int (by decide +kernel) (pa_cons (pv 0) pa_nil)) pe_int)) pa_nil)))
  (pss_one (ps_set (i := 0) sc_law_count.nd rfl (Or.inl rfl) (pe_op op_fdiv (pv 0) pe_int))))))
  (pss_one (ps_ret (pv 1))))), ?_⟩
    have hlen := cnt_len 39 n hn
    refine ⟨sz_0, fun l hl => ⟨40, rfl, by decide, by decide, ?_⟩⟩
    refine for_range (lo := 0) (n := 40) (fun j σ H1 => ∃ (m : Nat) (acc : List Nat) (x2 : Option V), σ = [some (.int (m : Int)), some (.ref l), x2] ∧ H1 l = some (.lst (nV acc)) ∧ acc ++ cnt m = cnt n ∧ acc.length = j ∧ Same H H1)
      ⟨n, [], none, rfl, upd_same, rfl, rfl, Same.new hl⟩ ?_ ?_
    · rintro j σ H1 hj ⟨m, acc, x2, rfl, e1, ha, hl1, S1⟩
      have lt : (nV acc).length < sizeLine := by rw [nV_len]; exact Nat.lt_of_le_of_lt (show acc.length ≤ 60 by omega) (by decide)
      refine ⟨_, rfl, _, _, rfl, rfl, _, rfl, ?_⟩
      refine ite3 (fun c => ?_) fun c => ?_
      · have c := of_decide_eq_true c
        have c1 : m < 128 := by omega
        refine ⟨_, rfl, .inl ⟨rfl, _, SqL.of e1⟩, _, rfl, l, _, _, rfl, rfl, e1, lt, ?_⟩
        refine ⟨_, rfl, k l _ hl (fun b o e => by rw [upd_ne (ne_of_none e hl)]; exact S1 _ _ e) ?_⟩
        rw [upd_same, ← ha, cnt_lt c1, nV_app]; rfl
      · have c := of_decide_eq_false c
        have c1 : ¬ m < 128 := by omega
        refine ⟨_, rfl, .inl ⟨rfl, _, SqL.of e1⟩, _, rfl, .inl ⟨_, rfl, _, _, rfl, rfl, (by show (0 : Int) < 128; decide), _, _, rfl, rfl, l, _, _, rfl, rfl, e1, lt, ?_⟩⟩
        refine ⟨_, rfl, _, _, rfl, rfl, ⟨by decide, by decide⟩, m / 128, acc ++ [128 + m % 128], some (.int (0 + (j : Int))), ?_, ?_, ?_, by simp [hl1], fun b o e => by rw [upd_ne (ne_of_none e hl)]; exact S1 _ _ e⟩
        · show [some (V.int ((m : Int) / 128)), some (V.ref l), _] = _
          rw [show (m : Int) / 128 = ((m / 128 : Nat) : Int) by omega]
        · rw [upd_same, nV_app]
          show some (HO.lst (nV acc ++ [V.int (128 + (m : Int) % 128)])) = some (HO.lst (nV acc ++ [V.int ((128 + m % 128 : Nat) : Int)]))
          rw [show 128 + (m : Int) % 128 = ((128 + m % 128 : Nat) : Int) by omega]
        · rw [List.append_assoc, ← ha, cnt_ge c1]; rfl
    · rintro σ H1 ⟨m, acc, x2, rfl, e1, ha, hl1, S1⟩
      have h2 := List.length_pos_iff.mpr (cnt_ne m)
      rw [← ha, List.length_append] at hlen
      omega
theorem zig40 {i : Int} (h : i.natAbs < 2 ^ 256) : zig i < 128 ^ 40 := Nat.lt_of_le_of_lt (zig_lt (k := 256) (Nat.le_of_lt h)) (by decide +kernel)
def spLInt (K : PySem.W.Frag) : Sp := fun vs H Q _ => ∃ i : Int, vs = [.int i] ∧ i.natAbs < 2 ^ 256 ∧ ∀ l H', H l = none → Same H H' → H' l = some (.lst (nV (cnt (zig i)))) → Q (.ref l) H'
theorem ok_linteger {f : Addr} {fd : FuncData} (F : Fun K "_law_integer" "_law_integer" s_law_integer f fd) (T : Txt K mg) (U_law_count : Use P w K mg base CX0 "_law_count" 1 P_law_count (spLCount K)) : FnG P w K mg base CX0 2 f fd P_law_integer (spLInt K) := by
  refine okG0 F sc_law_integer (fun vs H Q E h => ?_) fun cdv A outer s H vs Q E hr hg h => ?_
  · obtain ⟨i, rfl, _⟩ := h
    rfl
  · obtain ⟨i, rfl, hi, k⟩ := h
    refine ⟨_, (pss_cons (ps_if (pt_cmpR op_lt (pv 0) pe_int (nomark _))
   (pss_one (ps_ret (pe_use U_law_count (hr.mono (by decide)) hg rfl (pa_cons (pe_op op_sub (pe_op op_mul (pe_un un_neg pe_int) (pv 0)) pe_int) pa_nil))))
   pss_nil)
  (pss_one (ps_ret (pe_use U_law_count (hr.mono (by decide)) hg rfl (pa_cons (pe_op op_mul pe_int (pv 0)) pa_nil))))), ?_⟩
    refine ⟨_, rfl, _, _, rfl, rfl, _, rfl, ?_⟩
    refine ite3 (fun c => ?_) fun c => ?_
    · have c := of_decide_eq_true c
      exact ⟨_, rfl, _, rfl, _, _, rfl, rfl, .inl ⟨by decide, by decide⟩, _, _, rfl, rfl, zig i, congrArg (fun z => [V.int z]) (zig_neg (by omega)), zig40 hi, k⟩
    · have c := of_decide_eq_false c
      exact ⟨_, rfl, _, _, rfl, rfl, .inl ⟨by decide, by decide⟩, zig i, congrArg (fun z => [V.int z]) (zig_pos (by omega)), zig40 hi, k⟩
theorem ok_lstring {f : Addr} {fd : FuncData} (F : Fun K "_law_string" "_law_string" s_law_string f fd) (T : Txt K mg) (U_law_signs : Use P w K mg base CX0 "_law_signs" 1 P_law_signs (spSigns K)) (U_law_count : Use P w K mg base CX0 "_law_count" 1 P_law_count (spLCount K)) : FnG P w K mg base CX0 2 f fd P_law_string (spWStr K) := by
  refine okG0 F sc_law_string (fun vs H Q E h => ?_) fun cdv A outer s H vs Q E hr hg h => ?_
  · obtain ⟨js, rfl, _⟩ := h
    rfl
  · obtain ⟨js, rfl, hl, hj, k⟩ := h
    refine ⟨_, (pss_cons (ps_set (i := 1) sc_law_string.nd rfl (Or.inr rfl) (pe_use0 U_law_signs (hr.mono (by decide)) hg rfl))
  (pss_one (ps_ret (pe_op op_cat (pe_use U_law_count (hr.mono (by decide)) hg rfl (pa_cons (pe_callB call_len (by rfl) T.b_len PySem.boot_len (pa_cons (pv 0) pa_nil)) pa_nil)) (pe_lc (own := [("sign", 2)]) (g := (gName 2)) rfl sc_law_string.nd (pi_str (pv 0)) (blkOk_by (N := N_law_string) (sc := defScope s_law_string) (by decide +kernel)) (fun _ _ _ _ _ => (pg_name (i := 2) sc_law_string.nd rfl (Or.inl rfl))) (fun _ _ _ _ _ => pts_nil) (fun _ _ _ _ _ => (pe_bmK (K := K) rfl PySem.F.plainAttrs_str PySem.F.slot_str_index PySem.F.type_str_index mt_sindex (pv 1) (pa_cons (pv 2) pa_nil)))))))), ?_⟩
    refine ⟨rfl, ?_⟩
    have hln : (tx js).length ≤ sizeLine := by rw [tx_len]; exact Nat.le_trans hl (by decide)
    refine ⟨_, rfl, _, (tx js).length, rfl, ⟨hln, rfl⟩, js.length, by rw [tx_len], Nat.lt_of_le_of_lt hl (by decide +kernel), fun l1 H1 nl1 S1 e1 => ?_⟩
    refine ⟨_, rfl, tx js, rfl, fun D hD => ?_⟩
    have nD : l1 ≠ D := fun e => (by subst e; rw [hD] at e1; cases e1)
    have hsz : (tx js).cps.size = js.length := by rw [← tx_len js]; rfl
    refine lc_it walk_str (fun i H' => H' D = some (.lst (nV (js.take i))) ∧ Same H1 H') ⟨upd_same, Same.new hD⟩ (fun _ _ _ _ => trivial) ?_ ?_
    · rintro i x H5 H6 hi ⟨e5, S5⟩ ⟨rfl, c, hc, rfl⟩
      have hi2 : i < js.length := by rw [← hsz]; exact hi
      have hjs : js[i]? = some js[i] := List.getElem?_eq_getElem hi2
      have hj95 := hj _ (List.getElem_mem hi2)
      generalize js[i] = j at hjs hj95
      have hcc : c = ch j := by
        have : (js.map ch).toArray[i]? = some c := hc
        rw [List.getElem?_toArray, List.getElem?_map, hjs] at this
        exact (Option.some.inj this).symm
      subst hcc
      obtain ⟨rest, ho⟩ := occ_at hj95
      refine ⟨rfl, tYes_of ?_⟩
      refine ⟨_, rfl, rfl, _, rfl, chStr, _, j, rest, rfl, rfl, ho, _, e5, ?_, ?_, fun b o e => by rw [upd_ne (ne_of_none e hD)]; exact S5 _ _ e⟩
      · rw [nV_len, List.length_take]; exact Nat.lt_of_le_of_lt (Nat.le_trans (Nat.min_le_right _ _) hl) (by decide)
      · rw [upd_same, List.take_succ, hjs, nV_app]; rfl
    · rintro H5 ⟨e5, S5⟩
      rw [hsz, List.take_length] at e5
      refine ⟨l1, D, _, _, rfl, rfl, S5 _ _ e1, e5, ?_, fun l hl2 => ?_⟩
      · rw [nV_len, nV_len]
        have := cnt_len 59 js.length (Nat.lt_of_le_of_lt hl (by decide +kernel))
        exact Nat.le_trans (show _ ≤ 100060 by omega) (by decide)
      · exact k l _ (Same.free (S1.trans S5) hl2) ((S1.trans S5).trans (Same.new hl2)) (by rw [upd_same, strN, nV_app])
end

abbrev s_law_tree_numbers : Stmt := top 69
abbrev N_law_tree_numbers : List Str := ["tree", "numbers", "part"]
abbrev P_law_tree_numbers : List Str := ["tree"]
theorem sc_law_tree_numbers : FnScope N_law_tree_numbers P_law_tree_numbers (defScope s_law_tree_numbers) := ⟨rfl, rfl, rfl, by decide +kernel, rfl, by decide +kernel, by decide +kernel⟩
section
variable {P : Program} {w : World} {K : PySem.W.Frag} {mg : Str → Option Value} {base : Heap}
/-- a tree at most n deep, as the law tells its numbers -/
inductive TrL : Nat → PyData → List Nat → Prop
  | str {n : Nat} (js : List Nat) : js.length ≤ 200 → (∀ j ∈ js, j < 95) → TrL n (.str (tx js)) (1 :: strN js)
  | int {n : Nat} (i : Int) : i.natAbs < 2 ^ 256 → TrL n (.int i) (2 :: cnt (zig i))
  | bool {n : Nat} (b : Bool) : TrL n (.bool b) [3 + if b = true then 1 else 0]
  | tup {n : Nat} (ds : List PyData) (ls : List (List Nat)) : ds.length ≤ 1000 → ls.length = ds.length → (∀ (i : Nat) (d : PyData) (l : List Nat), ds[i]? = some d → ls[i]? = some l → TrL n d l) → TrL (n + 1) (.tuple ds) (0 :: (cnt ds.length ++ ls.flatten))
def spLTree (K : PySem.W.Frag) : Nat → Sp
  | 0 => fun _ _ _ _ => False
  | n + 1 => fun vs H Q _ => ∃ (v : V) (d : PyData) (ns : List Nat), vs = [v] ∧ Dt K H v d ∧ TrL n d ns ∧ ns.length ≤ 100000 ∧ ∀ l H', H l = none → Same H H' → H' l = some (.lst (nV ns)) → Q (.ref l) H'
theorem ok_ltree {n : Nat} {f : Addr} {fd : FuncData} (F : Fun K "_law_tree_numbers" "_law_tree_numbers" s_law_tree_numbers f fd) (T : Txt K mg) (U_law_tree_numbers : Use P w K mg base CX0 "_law_tree_numbers" (3 + n) P_law_tree_numbers (spLTree K n)) (U_law_count : Use P w K mg base CX0 "_law_count" 1 P_law_count (spLCount K))
    (U_law_integer : Use P w K mg base CX0 "_law_integer" 2 P_law_integer (spLInt K)) (U_law_string : Use P w K mg base CX0 "_law_string" 2 P_law_string (spWStr K)) : FnG P w K mg base CX0 (3 + n + 1) f fd P_law_tree_numbers (spLTree K (n + 1)) := by
  refine okG0 F sc_law_tree_numbers (fun vs H Q E h => ?_) fun cdv A outer s H vs Q E hr hg h => ?_
  · obtain ⟨v, d, ns, rfl, _⟩ := h
    rfl
  · obtain ⟨v, d, ns, rfl, dv, hd, hl, k⟩ := h
    refine ⟨_, (pss_cons (ps_if (pt_val (pe_callB call_isi (by rfl) T.b_isinstance (by decide +kernel) (pa_cons (pv 0) (pa_cons (pe_bltn (v := .ty "bool") (by rfl) T.b_bool (by decide +kernel) rfl) pa_nil))))
   (pss_one (ps_ret (pe_lst (pa_cons (pe_op op_add pe_int (pe_callTy call_int1 (by rfl) T.b_int (by decide +kernel) (pa_cons (pv 0) pa_nil))) pa_nil))))
   pss_nil)
  (pss_cons (ps_if (pt_val (pe_callB call_isi (by rfl) T.b_isinstance (by decide +kernel) (pa_cons (pv 0) (pa_cons (pe_bltn (v := .ty "str") (by rfl) T.b_str (by decide +kernel) rfl) pa_nil))))
   (pss_one (ps_ret (pe_op op_cat (pe_lst (pa_cons pe_int pa_nil)) (pe_use U_law_string (hr.mono (by omega)) hg rfl (pa_cons (pv 0) pa_nil)))))
   pss_nil)
  (pss_cons (ps_if (pt_val (pe_callB call_isi (by rfl) T.b_isinstance (by decide +kernel) (pa_cons (pv 0) (pa_cons (pe_bltn (v := .ty "int") (by rfl) T.b_int (by decide +kernel) rfl) pa_nil))))
   (pss_one (ps_ret (pe_op op_cat (pe_lst (pa_cons pe_int pa_nil)) (pe_use U_law_integer (hr.mono (by omega)) hg rfl (pa_cons (pv 0) pa_nil)))))
   pss_nil)
  (pss_cons (ps_set (i := 1) sc_law_tree_numbers.nd rfl (Or.inl rfl) (pe_op op_cat (pe_lst (pa_cons pe_int pa_nil)) (pe_use U_law_count (hr.mono (by omega)) hg rfl (pa_cons (pe_callB call_len (by rfl) T.b_len PySem.boot_len (pa_cons (pv 0) pa_nil)) pa_nil))))
  (pss_cons (ps_for PassesOwn.never rfl (pi_tup (pv 0)) (pg_name (i := 2) sc_law_tree_numbers.nd rfl (Or.inl rfl))
   (pss_one (ps_set (i := 1) sc_law_tree_numbers.nd rfl (Or.inl rfl) (pe_op op_cat (pv 1) (pe_use U_law_tree_numbers (hr.mono (by omega)) hg rfl (pa_cons (pv 2) pa_nil))))))
  (pss_one (ps_ret (pv 1)))))))), ?_⟩
    cases hd with
    | bool q =>
      cases dv.bool_inv
      refine ⟨_, rfl, _, _, _, _, true, rfl, .ty _, .base (.bl _), if_pos (beq_self_eq_true _), _, rfl, iteTb rfl ?_⟩
      refine ⟨_, rfl, .inr ⟨q, rfl, _, _, rfl, rfl, sz_1, fun l hl => k l _ hl (Same.new hl) ?_⟩⟩
      rw [upd_same]
      cases q <;> rfl
    | str js h1 h2 =>
      cases dv.str_inv
      refine ⟨_, rfl, _, _, _, _, false, rfl, .ty _, .base (.str _), kit_ty (by decide +kernel), _, rfl, iteFb rfl ?_⟩
      refine ⟨_, rfl, _, _, _, _, true, rfl, .ty _, .base (.str _), if_pos (beq_self_eq_true _), _, rfl, iteTb rfl ?_⟩
      refine ⟨sz_1, fun l1 hl1 => ⟨_, rfl, js, rfl, by omega, h2, fun l2 H2 hl2 S2 e2 => ⟨l1, l2, _, _, rfl, rfl, S2 _ _ upd_same, e2, ?_, fun l3 hl3 => ?_⟩⟩⟩
      · rw [nV_len]
        simp only [List.length_cons, List.length_nil] at hl ⊢
        exact Nat.le_trans (show _ ≤ 100001 by omega) (by decide)
      · have S := (Same.new (o := .lst [.int 1]) hl1).trans S2
        exact k l3 _ (none_same0 S hl3) (S.trans (Same.new hl3)) (by rw [upd_same]; rfl)
    | int i h1 =>
      cases dv.int_inv
      refine ⟨_, rfl, _, _, _, _, false, rfl, .ty _, .base (.int _), kit_ty (by decide +kernel), _, rfl, iteFb rfl ?_⟩
      refine ⟨_, rfl, _, _, _, _, false, rfl, .ty _, .base (.int _), kit_ty (by decide +kernel), _, rfl, iteFb rfl ?_⟩
      refine ⟨_, rfl, _, _, _, _, true, rfl, .ty _, .base (.int _), if_pos (beq_self_eq_true _), _, rfl, iteTb rfl ?_⟩
      refine ⟨sz_1, fun l1 hl1 => ⟨_, rfl, i, rfl, h1, fun l2 H2 hl2 S2 e2 => ⟨l1, l2, _, _, rfl, rfl, S2 _ _ upd_same, e2, ?_, fun l3 hl3 => ?_⟩⟩⟩
      · rw [nV_len]
        simp only [List.length_cons, List.length_nil] at hl ⊢
        exact Nat.le_trans (show _ ≤ 100001 by omega) (by decide)
      · have S := (Same.new (o := .lst [.int 2]) hl1).trans S2
        exact k l3 _ (none_same0 S hl3) (S.trans (Same.new hl3)) (by rw [upd_same]; rfl)
    | @tup n ds ls h1 h2 h3 =>
      obtain ⟨q, xs, rfl, hq, ax⟩ := dv.tuple_inv
      have lx := ax.length
      refine ⟨_, rfl, _, _, _, _, false, rfl, .ty _, SqT.tyX hq, kit_ty (by decide +kernel), _, rfl, iteFb rfl ?_⟩
      refine ⟨_, rfl, _, _, _, _, false, rfl, .ty _, SqT.tyX hq, kit_ty (by decide +kernel), _, rfl, iteFb rfl ?_⟩
      refine ⟨_, rfl, _, _, _, _, false, rfl, .ty _, SqT.tyX hq, kit_ty (by decide +kernel), _, rfl, iteFb rfl ?_⟩
      have hc : (cnt xs.length).length ≤ 3 := cnt_len 2 _ (Nat.lt_of_le_of_lt (show xs.length ≤ 1000 by omega) (by decide))
      refine ⟨sz_1, fun l1 hl1 => ?_⟩
      have S1 := Same.new (o := .lst [.int 0]) hl1
      refine ⟨_, rfl, _, _, rfl, .inr ⟨_, Same.tupl S1 hq, rfl⟩, xs.length, rfl, Nat.lt_of_le_of_lt (show xs.length ≤ 1000 by omega) (by decide +kernel), fun l2 H2 hl2 S2 e2 => ⟨l1, l2, _, _, rfl, rfl, S2 _ _ upd_same, e2, ?_, fun l3 hl3 => ?_⟩⟩
      · rw [nV_len]
        exact Nat.le_trans (show _ ≤ 10 by simp only [List.length_cons, List.length_nil]; omega) (by decide)
      have e3 : (upd H2 l3 (.lst ([.int 0] ++ nV (cnt xs.length)))) l3 = some (.lst (nV (0 :: cnt ds.length))) := by rw [upd_same, lx]; rfl
      have S3 := (S1.trans S2).trans (Same.new (o := .lst ([.int 0] ++ nV (cnt xs.length))) hl3)
      have n3 := none_same0 (S1.trans S2) hl3
      generalize upd H2 l3 (.lst ([.int 0] ++ nV (cnt xs.length))) = H3 at e3 S3 ⊢
      refine ⟨_, rfl, q, rfl, ⟨_, Same.tupl S3 hq⟩, ?_⟩
      refine for_tup (xs := xs) (fun i σ H4 => ∃ l x2, σ = [some (.ref q), some (.ref l), x2] ∧ Same H H4 ∧ H l = none ∧ H4 l = some (.lst (nV (0 :: (cnt ds.length ++ (ls.take i).flatten))))) ⟨l3, none, rfl, S3, n3, by rw [e3]; simp⟩ ?_ ?_ ?_
      · rintro i σ H4 _ ⟨l, x2, rfl, S4, _⟩
        exact Same.tupl S4 hq
      · rintro i y σ H4 hy ⟨l, x2, rfl, S4, n4, e4⟩
        obtain ⟨d, hd, dy⟩ := (ax.mono S4).getV hy
        have hi : i < ls.length := by have := (List.getElem?_eq_some_iff.mp hd).1; omega
        obtain ⟨li, hli⟩ : ∃ z, ls[i]? = some z := ⟨_, List.getElem?_eq_getElem hi⟩
        have hti := h3 i d _ hd hli
        have htk : (ls.take (i + 1)).flatten = (ls.take i).flatten ++ li := by rw [List.take_add_one, hli]; simp
        have hb : ((ls.take (i + 1)).flatten).length ≤ ls.flatten.length := by
          have := congrArg (fun z => z.flatten.length) (List.take_append_drop (i + 1) ls)
          simp only [List.flatten_append, List.length_append] at this
          omega
        rw [htk, List.length_append] at hb
        simp only [List.length_cons, List.length_append] at hl
        refine ⟨_, rfl, _, rfl, y, d, li, rfl, dy, hti, by omega, fun l5 H5 hl5 S5 e5 => ⟨l, l5, _, _, rfl, rfl, S5 _ _ e4, e5, ?_, fun l6 hl6 => ?_⟩⟩
        · rw [nV_len, nV_len]
          simp only [List.length_cons, List.length_append]
          exact Nat.le_trans (show _ ≤ 200000 by omega) (by decide)
        · have S := S4.trans S5
          refine ⟨l6, _, rfl, S.trans (Same.new hl6), none_same0 S hl6, ?_⟩
          rw [upd_same, htk, ← nV_app]
          simp
      · rintro σ H4 ⟨l, x2, rfl, S4, n4, e4⟩
        rw [show xs.length = ls.length by omega, List.take_length] at e4
        exact ⟨_, rfl, k l H4 n4 S4 e4⟩
end

abbrev s_law_is_integer : Stmt := top 45
abbrev N_law_is_integer : List Str := ["actual"]
abbrev P_law_is_integer : List Str := ["actual"]
theorem sc_law_is_integer : FnScope N_law_is_integer P_law_is_integer (defScope s_law_is_integer) := ⟨rfl, rfl, rfl, by decide +kernel, rfl, by decide +kernel, by decide +kernel⟩
abbrev s_law_same : Stmt := top 48
abbrev N_law_same : List Str := ["actual", "due", "k"]
abbrev P_law_same : List Str := ["actual", "due"]
theorem sc_law_same : FnScope N_law_same P_law_same (defScope s_law_same) := ⟨rfl, rfl, rfl, by decide +kernel, rfl, by decide +kernel, by decide +kernel⟩
section
variable {P : Program} {w : World} {K : PySem.W.Frag} {mg : Str → Option Value} {base : Heap}
def spIsInt (K : PySem.W.Frag) : Sp := fun vs H Q _ => ∃ i : Int, vs = [.int i] ∧ Q (.bl true) H
theorem ok_isint {f : Addr} {fd : FuncData} (F : Fun K "_law_is_integer" "_law_is_integer" s_law_is_integer f fd) (T : Txt K mg) : FnG P w K mg base CX0 1 f fd P_law_is_integer (spIsInt K) := by
  refine okG0 F sc_law_is_integer (fun vs H Q E h => ?_) fun cdv A outer s H vs Q E hr hg h => ?_
  · obtain ⟨i, rfl, _⟩ := h
    rfl
  · obtain ⟨i, rfl, k⟩ := h
    refine ⟨_, (pss_one (ps_ret (pe_and (pe_callB call_isi (by rfl) T.b_isinstance (by decide +kernel) (pa_cons (pv 0) (pa_cons (pe_bltn (v := .ty "int") (by rfl) T.b_int (by decide +kernel) rfl) pa_nil))) (pe_one (pe_not (pe_callB call_isi (by rfl) T.b_isinstance (by decide +kernel) (pa_cons (pv 0) (pa_cons (pe_bltn (v := .ty "bool") (by rfl) T.b_bool (by decide +kernel) rfl) pa_nil)))))))), ?_⟩
    refine ⟨_, rfl, _, _, _, _, true, rfl, .ty _, .base (.int i), if_pos (beq_self_eq_true _), true, rfl, iteTb rfl ?_⟩
    exact ⟨_, rfl, _, _, _, _, false, rfl, .ty _, .base (.int i), kit_ty (by decide +kernel), false, rfl, k⟩
/-- data at most n deep, no list in it -/
inductive Wd : Nat → PyData → Prop
  | str {n : Nat} (z : Str) : Wd n (.str z)
  | int {n : Nat} (i : Int) : Wd n (.int i)
  | bool {n : Nat} (b : Bool) : Wd n (.bool b)
  | tup {n : Nat} {ds : List PyData} : ds.length ≤ 1000 → (∀ d ∈ ds, Wd n d) → Wd (n + 1) (.tuple ds)
theorem Wd.up {n m : Nat} {d : PyData} (h : Wd n d) (hm : n ≤ m) : Wd m d := by
  induction h generalizing m with
  | str z => exact .str z
  | int i => exact .int i
  | bool b => exact .bool b
  | tup h1 _ ih =>
    obtain ⟨k, rfl⟩ : ∃ k, m = k + 1 := ⟨m - 1, by omega⟩
    exact .tup h1 fun d hd => ih d hd (by omega)
def spSameD (K : PySem.W.Frag) (n : Nat) : Sp := fun vs H Q _ => ∃ (x y : V) (d : PyData), vs = [x, y] ∧ Dt K H x d ∧ Dt K H y d ∧ Wd n d ∧ Q (.bl true) H
theorem ok_sameD0 {f : Addr} {fd : FuncData} (F : Fun K "_law_same" "_law_same" s_law_same f fd) (T : Txt K mg) (U_law_is_integer : Use P w K mg base CX0 "_law_is_integer" 1 P_law_is_integer (spIsInt K)) : FnG P w K mg base CX0 2 f fd P_law_same (spSameD K 0) := by
  refine okG0 F sc_law_same (fun vs H Q E h => ?_) fun cdv A outer s H vs Q E hr hg h => ?_
  · obtain ⟨x, y, d, rfl, _⟩ := h
    rfl
  · obtain ⟨x, y, d, rfl, dx, dy, wd, k⟩ := h
    refine ⟨_, (pss_cons (ps_if (pt_val (pe_callB call_isi (by rfl) T.b_isinstance (by decide +kernel) (pa_cons (pv 1) (pa_cons (pe_bltn (v := .ty "tuple") (by rfl) T.b_tuple (by decide +kernel) rfl) pa_nil))))
   pss_never
   pss_nil)
  (pss_cons (ps_if (pt_val (pe_callB call_isi (by rfl) T.b_isinstance (by decide +kernel) (pa_cons (pv 1) (pa_cons (pe_bltn (v := .ty "bool") (by rfl) T.b_bool (by decide +kernel) rfl) pa_nil))))
   (pss_one (ps_ret (pe_and (pe_callB call_isi (by rfl) T.b_isinstance (by decide +kernel) (pa_cons (pv 0) (pa_cons (pe_bltn (v := .ty "bool") (by rfl) T.b_bool (by decide +kernel) rfl) pa_nil))) (pe_one (pe_cmpR op_eq (pv 0) (pv 1) (nomark _))))))
   pss_nil)
  (pss_cons (ps_if (pt_val (pe_callB call_isi (by rfl) T.b_isinstance (by decide +kernel) (pa_cons (pv 1) (pa_cons (pe_bltn (v := .ty "int") (by rfl) T.b_int (by decide +kernel) rfl) pa_nil))))
   (pss_one (ps_ret (pe_and (pe_use U_law_is_integer (hr.mono (by decide)) hg rfl (pa_cons (pv 0) pa_nil)) (pe_one (pe_cmpR op_eq (pv 0) (pv 1) (nomark _))))))
   pss_nil)
  (pss_one (ps_ret (pe_and (pe_callB call_isi (by rfl) T.b_isinstance (by decide +kernel) (pa_cons (pv 0) (pa_cons (pe_bltn (v := .ty "str") (by rfl) T.b_str (by decide +kernel) rfl) pa_nil))) (pe_one (pe_cmpR op_eq (pv 0) (pv 1) (nomark _))))))))), ?_⟩
    cases wd with
    | str b =>
      cases dx.str_inv
      cases dy.str_inv
      refine ⟨_, rfl, _, _, _, _, false, rfl, .ty _, .base (.str b), kit_ty (by decide +kernel), _, rfl, iteFb rfl ?_⟩
      refine ⟨_, rfl, _, _, _, _, false, rfl, .ty _, .base (.str b), kit_ty (by decide +kernel), _, rfl, iteFb rfl ?_⟩
      refine ⟨_, rfl, _, _, _, _, false, rfl, .ty _, .base (.str b), kit_ty (by decide +kernel), _, rfl, iteFb rfl ?_⟩
      refine ⟨_, rfl, _, _, _, _, true, rfl, .ty _, .base (.str b), if_pos (beq_self_eq_true _), true, rfl, iteTb rfl ?_⟩
      exact ⟨_, rfl, _, rfl, rfl, by rw [decide_eq_true rfl]; exact k⟩
    | int b =>
      cases dx.int_inv
      cases dy.int_inv
      refine ⟨_, rfl, _, _, _, _, false, rfl, .ty _, .base (.int b), kit_ty (by decide +kernel), _, rfl, iteFb rfl ?_⟩
      refine ⟨_, rfl, _, _, _, _, false, rfl, .ty _, .base (.int b), kit_ty (by decide +kernel), _, rfl, iteFb rfl ?_⟩
      refine ⟨_, rfl, _, _, _, _, true, rfl, .ty _, .base (.int b), if_pos (beq_self_eq_true _), _, rfl, iteTb rfl ?_⟩
      exact ⟨_, rfl, b, rfl, true, rfl, iteTb rfl ⟨_, rfl, _, rfl, rfl, by rw [decide_eq_true rfl]; exact k⟩⟩
    | bool b =>
      cases dx.bool_inv
      cases dy.bool_inv
      refine ⟨_, rfl, _, _, _, _, false, rfl, .ty _, .base (.bl b), kit_ty (by decide +kernel), _, rfl, iteFb rfl ?_⟩
      refine ⟨_, rfl, _, _, _, _, true, rfl, .ty _, .base (.bl b), if_pos (beq_self_eq_true _), _, rfl, iteTb rfl ?_⟩
      refine ⟨_, rfl, _, _, _, _, true, rfl, .ty _, .base (.bl b), if_pos (beq_self_eq_true _), true, rfl, iteTb rfl ?_⟩
      exact ⟨_, rfl, _, rfl, rfl, by rw [decide_eq_true rfl]; exact k⟩
theorem ok_sameDS {n kk : Nat} (hk : 1 ≤ kk) {f : Addr} {fd : FuncData} (F : Fun K "_law_same" "_law_same" s_law_same f fd) (T : Txt K mg) (U_law_is_integer : Use P w K mg base CX0 "_law_is_integer" 1 P_law_is_integer (spIsInt K)) (U_law_same : Use P w K mg base CX0 "_law_same" kk P_law_same (spSameD K n)) :
    FnG P w K mg base CX0 (kk + 1) f fd P_law_same (spSameD K (n + 1)) := by
  refine okG0 F sc_law_same (fun vs H Q E h => ?_) fun cdv A outer s H vs Q E hr hg h => ?_
  · obtain ⟨x, y, d, rfl, _⟩ := h
    rfl
  · obtain ⟨x, y, d, rfl, dx, dy, wd, k⟩ := h
    cases wd with
    | str b =>
      refine ⟨_, (pss_cons (ps_if (pt_val (pe_callB call_isi (by rfl) T.b_isinstance (by decide +kernel) (pa_cons (pv 1) (pa_cons (pe_bltn (v := .ty "tuple") (by rfl) T.b_tuple (by decide +kernel) rfl) pa_nil))))
   pss_never
   pss_nil)
  (pss_cons (ps_if (pt_val (pe_callB call_isi (by rfl) T.b_isinstance (by decide +kernel) (pa_cons (pv 1) (pa_cons (pe_bltn (v := .ty "bool") (by rfl) T.b_bool (by decide +kernel) rfl) pa_nil))))
   (pss_one (ps_ret (pe_and (pe_callB call_isi (by rfl) T.b_isinstance (by decide +kernel) (pa_cons (pv 0) (pa_cons (pe_bltn (v := .ty "bool") (by rfl) T.b_bool (by decide +kernel) rfl) pa_nil))) (pe_one (pe_cmpR op_eq (pv 0) (pv 1) (nomark _))))))
   pss_nil)
  (pss_cons (ps_if (pt_val (pe_callB call_isi (by rfl) T.b_isinstance (by decide +kernel) (pa_cons (pv 1) (pa_cons (pe_bltn (v := .ty "int") (by rfl) T.b_int (by decide +kernel) rfl) pa_nil))))
   (pss_one (ps_ret (pe_and (pe_use U_law_is_integer (hr.mono (by omega)) hg rfl (pa_cons (pv 0) pa_nil)) (pe_one (pe_cmpR op_eq (pv 0) (pv 1) (nomark _))))))
   pss_nil)
  (pss_one (ps_ret (pe_and (pe_callB call_isi (by rfl) T.b_isinstance (by decide +kernel) (pa_cons (pv 0) (pa_cons (pe_bltn (v := .ty "str") (by rfl) T.b_str (by decide +kernel) rfl) pa_nil))) (pe_one (pe_cmpR op_eq (pv 0) (pv 1) (nomark _))))))))), ?_⟩
      cases dx.str_inv
      cases dy.str_inv
      refine ⟨_, rfl, _, _, _, _, false, rfl, .ty _, .base (.str b), kit_ty (by decide +kernel), _, rfl, iteFb rfl ?_⟩
      refine ⟨_, rfl, _, _, _, _, false, rfl, .ty _, .base (.str b), kit_ty (by decide +kernel), _, rfl, iteFb rfl ?_⟩
      refine ⟨_, rfl, _, _, _, _, false, rfl, .ty _, .base (.str b), kit_ty (by decide +kernel), _, rfl, iteFb rfl ?_⟩
      refine ⟨_, rfl, _, _, _, _, true, rfl, .ty _, .base (.str b), if_pos (beq_self_eq_true _), true, rfl, iteTb rfl ?_⟩
      exact ⟨_, rfl, _, rfl, rfl, by rw [decide_eq_true rfl]; exact k⟩
    | int b =>
      refine ⟨_, (pss_cons (ps_if (pt_val (pe_callB call_isi (by rfl) T.b_isinstance (by decide +kernel) (pa_cons (pv 1) (pa_cons (pe_bltn (v := .ty "tuple") (by rfl) T.b_tuple (by decide +kernel) rfl) pa_nil))))
   pss_never
   pss_nil)
  (pss_cons (ps_if (pt_val (pe_callB call_isi (by rfl) T.b_isinstance (by decide +kernel) (pa_cons (pv 1) (pa_cons (pe_bltn (v := .ty "bool") (by rfl) T.b_bool (by decide +kernel) rfl) pa_nil))))
   (pss_one (ps_ret (pe_and (pe_callB call_isi (by rfl) T.b_isinstance (by decide +kernel) (pa_cons (pv 0) (pa_cons (pe_bltn (v := .ty "bool") (by rfl) T.b_bool (by decide +kernel) rfl) pa_nil))) (pe_one (pe_cmpR op_eq (pv 0) (pv 1) (nomark _))))))
   pss_nil)
  (pss_cons (ps_if (pt_val (pe_callB call_isi (by rfl) T.b_isinstance (by decide +kernel) (pa_cons (pv 1) (pa_cons (pe_bltn (v := .ty "int") (by rfl) T.b_int (by decide +kernel) rfl) pa_nil))))
   (pss_one (ps_ret (pe_and (pe_use U_law_is_integer (hr.mono (by omega)) hg rfl (pa_cons (pv 0) pa_nil)) (pe_one (pe_cmpR op_eq (pv 0) (pv 1) (nomark _))))))
   pss_nil)
  (pss_one (ps_ret (pe_and (pe_callB call_isi (by rfl) T.b_isinstance (by decide +kernel) (pa_cons (pv 0) (pa_cons (pe_bltn (v := .ty "str") (by rfl) T.b_str (by decide +kernel) rfl) pa_nil))) (pe_one (pe_cmpR op_eq (pv 0) (pv 1) (nomark _))))))))), ?_⟩
      cases dx.int_inv
      cases dy.int_inv
      refine ⟨_, rfl, _, _, _, _, false, rfl, .ty _, .base (.int b), kit_ty (by decide +kernel), _, rfl, iteFb rfl ?_⟩
      refine ⟨_, rfl, _, _, _, _, false, rfl, .ty _, .base (.int b), kit_ty (by decide +kernel), _, rfl, iteFb rfl ?_⟩
      refine ⟨_, rfl, _, _, _, _, true, rfl, .ty _, .base (.int b), if_pos (beq_self_eq_true _), _, rfl, iteTb rfl ?_⟩
      exact ⟨_, rfl, b, rfl, true, rfl, iteTb rfl ⟨_, rfl, _, rfl, rfl, by rw [decide_eq_true rfl]; exact k⟩⟩
    | bool b =>
      refine ⟨_, (pss_cons (ps_if (pt_val (pe_callB call_isi (by rfl) T.b_isinstance (by decide +kernel) (pa_cons (pv 1) (pa_cons (pe_bltn (v := .ty "tuple") (by rfl) T.b_tuple (by decide +kernel) rfl) pa_nil))))
   pss_never
   pss_nil)
  (pss_cons (ps_if (pt_val (pe_callB call_isi (by rfl) T.b_isinstance (by decide +kernel) (pa_cons (pv 1) (pa_cons (pe_bltn (v := .ty "bool") (by rfl) T.b_bool (by decide +kernel) rfl) pa_nil))))
   (pss_one (ps_ret (pe_and (pe_callB call_isi (by rfl) T.b_isinstance (by decide +kernel) (pa_cons (pv 0) (pa_cons (pe_bltn (v := .ty "bool") (by rfl) T.b_bool (by decide +kernel) rfl) pa_nil))) (pe_one (pe_cmpR op_eq (pv 0) (pv 1) (nomark _))))))
   pss_nil)
  (pss_cons (ps_if (pt_val (pe_callB call_isi (by rfl) T.b_isinstance (by decide +kernel) (pa_cons (pv 1) (pa_cons (pe_bltn (v := .ty "int") (by rfl) T.b_int (by decide +kernel) rfl) pa_nil))))
   (pss_one (ps_ret (pe_and (pe_use U_law_is_integer (hr.mono (by omega)) hg rfl (pa_cons (pv 0) pa_nil)) (pe_one (pe_cmpR op_eq (pv 0) (pv 1) (nomark _))))))
   pss_nil)
  (pss_one (ps_ret (pe_and (pe_callB call_isi (by rfl) T.b_isinstance (by decide +kernel) (pa_cons (pv 0) (pa_cons (pe_bltn (v := .ty "str") (by rfl) T.b_str (by decide +kernel) rfl) pa_nil))) (pe_one (pe_cmpR op_eq (pv 0) (pv 1) (nomark _))))))))), ?_⟩
      cases dx.bool_inv
      cases dy.bool_inv
      refine ⟨_, rfl, _, _, _, _, false, rfl, .ty _, .base (.bl b), kit_ty (by decide +kernel), _, rfl, iteFb rfl ?_⟩
      refine ⟨_, rfl, _, _, _, _, true, rfl, .ty _, .base (.bl b), if_pos (beq_self_eq_true _), _, rfl, iteTb rfl ?_⟩
      refine ⟨_, rfl, _, _, _, _, true, rfl, .ty _, .base (.bl b), if_pos (beq_self_eq_true _), true, rfl, iteTb rfl ?_⟩
      exact ⟨_, rfl, _, rfl, rfl, by rw [decide_eq_true rfl]; exact k⟩
    | @tup _ ds hl hd =>
      refine ⟨_, (pss_cons (ps_if (pt_val (pe_callB call_isi (by rfl) T.b_isinstance (by decide +kernel) (pa_cons (pv 1) (pa_cons (pe_bltn (v := .ty "tuple") (by rfl) T.b_tuple (by decide +kernel) rfl) pa_nil))))
   (pss_cons (ps_if (PW.pt (pw_or (pt_not (pt_val (pe_callB call_isi (by rfl) T.b_isinstance (by decide +kernel) (pa_cons (pv 0) (pa_cons (pe_bltn (v := .ty "tuple") (by rfl) T.b_tuple (by decide +kernel) rfl) pa_nil))))) (pw_or1 (pt_cmpR op_ne (pe_callB call_len (by rfl) T.b_len PySem.boot_len (pa_cons (pv 0) pa_nil)) (pe_callB call_len (by rfl) T.b_len PySem.boot_len (pa_cons (pv 1) pa_nil)) (nomark _)))))
   (pss_one (ps_ret pe_bl))
   pss_nil)
  (pss_cons (ps_for PassesOwn.never rfl (pi_range1 (by rfl) T.b_range (pa_cons (pe_callB call_len (by rfl) T.b_len PySem.boot_len (pa_cons (pv 1) pa_nil)) pa_nil)) (pg_name (i := 2) sc_law_same.nd rfl (Or.inl rfl))
   (pss_one (ps_if (pt_not (pt_val (pe_use U_law_same (hr.mono (by omega)) hg rfl (pa_cons (pe_ix ix_tup (pv 0) (pv 2) (fun _ _ => rfl)) (pa_cons (pe_ix ix_tup (pv 1) (pv 2) (fun _ _ => rfl)) pa_nil)))))
   (pss_one (ps_ret pe_bl))
   pss_nil)))
  (pss_one (ps_ret pe_bl))))
   pss_nil)
  pss_never), ?_⟩
      obtain ⟨p, xs, rfl, hp, ax⟩ := dx.tuple_inv
      obtain ⟨q, ys, rfl, hq, ay⟩ := dy.tuple_inv
      have lx := ax.length
      have ly := ay.length
      refine ⟨_, rfl, _, _, _, _, true, rfl, .ty _, SqT.tyX hq, if_pos (beq_self_eq_true _), _, rfl, iteTb rfl ?_⟩
      refine ⟨_, rfl, _, _, _, _, true, rfl, .ty _, SqT.tyX hp, if_pos (beq_self_eq_true _), _, rfl, iteFb rfl ?_⟩
      refine ⟨_, rfl, _, _, rfl, .inr ⟨_, hp, rfl⟩, _, rfl, _, _, rfl, .inr ⟨_, hq, rfl⟩, rfl, _, rfl, ?_⟩
      refine iteFb (by rw [lx, ly]; rw [decide_eq_true rfl]; rfl) ?_
      refine ⟨_, rfl, _, _, rfl, .inr ⟨_, hq, rfl⟩, _, rfl, by omega, by omega, ?_⟩
      rw [Int.toNat_natCast]
      refine for_range (lo := 0) (n := ys.length) (fun i σ H1 => ∃ x2, σ = [some (.ref p), some (.ref q), x2] ∧ H1 = H) ⟨none, rfl, rfl⟩ ?_ ?_
      · rintro i σ H1 hi ⟨x2, rfl, rfl⟩
        have ex : ds[i]? = some (ds[i]'(by omega)) := List.getElem?_eq_getElem (by omega)
        obtain ⟨x, hx, dx1⟩ := ax.get ex
        obtain ⟨y, hy, dy1⟩ := ay.get ex
        exact ⟨_, rfl, _, rfl, p, _, _, x, rfl, rfl, hp, at_of' (j := i) (by omega) hx, _, rfl, _, rfl, q, _, _, y, rfl, rfl, hq, at_of' (j := i) (by omega) hy, x, y, _, rfl, dx1, dy1, hd _ (List.getElem_mem _), _, rfl, iteFb rfl ⟨_, rfl, rfl⟩⟩
      · rintro σ H1 ⟨x2, rfl, rfl⟩
        exact k
def spSameR (K : PySem.W.Frag) : Nat → Sp
  | 0 => fun _ _ _ _ => False
  | n + 1 => spSameD K n
theorem ok_sameR : ∀ {n : Nat} {f : Addr} {fd : FuncData} (F : Fun K "_law_same" "_law_same" s_law_same f fd) (T : Txt K mg) (U_law_same : Use P w K mg base CX0 "_law_same" (1 + n) P_law_same (spSameR K n)) (U_law_is_integer : Use P w K mg base CX0 "_law_is_integer" 1 P_law_is_integer (spIsInt K)),
    FnG P w K mg base CX0 (1 + n + 1) f fd P_law_same (spSameR K (n + 1))
  | 0, _, _, F, T, _, U => ok_sameD0 F T U
  | n + 1, _, _, F, T, V, U => ok_sameDS (n := n) (kk := 1 + (n + 1)) (by omega) F T U V
--SPLIT
end

abbrev s_law_tree : Stmt := top 57
abbrev N_law_tree : List Str := ["box", "depth", "kind", "number", "size", "k"]
abbrev P_law_tree : List Str := ["box", "depth"]
theorem sc_law_tree : FnScope N_law_tree P_law_tree (defScope s_law_tree) := ⟨rfl, rfl, rfl, by decide +kernel, rfl, by decide +kernel, by decide +kernel⟩
section
variable {P : Program} {w : World} {K : PySem.W.Frag} {mg : Str → Option Value} {base : Heap}
/-! a list that a comprehension fills by draws -/
def Acc (K : PySem.W.Frag) (H1 : Hp) (D p dl : Addr) (Pd : PyData → Prop) (i : Nat) (H : Hp) : Prop := ∃ acc ds, H D = some (.lst acc) ∧ DtAll K H acc ds ∧ ds.length = i ∧ (∀ d ∈ ds, Pd d) ∧ BoxAt H p dl ∧ Keep p H1 H
theorem Acc.start {H1 : Hp} {D p dl : Addr} {Pd : PyData → Prop} (hD : H1 D = none) (B : BoxAt H1 p dl) : Acc K H1 D p dl Pd 0 (upd H1 D (.lst [])) :=
  ⟨[], [], upd_same, .nil, rfl, by simp, B.same (Same.new hD), Same.keep (Same.new hD)⟩
theorem Acc.put {H1 H5 H7 : Hp} {D p dl : Addr} {Pd : PyData → Prop} {i : Nat} {v : V} {d : PyData} (A : Acc K H1 D p dl Pd i H5) (hi : i < 10000) (hD : H1 D = none) (B1 : BoxAt H1 p dl) (B : BoxAt H7 p dl) (k : Keep p H5 H7) (dv : Dt K H7 v d) (hd : Pd d) :
    ∃ acc, H7 D = some (.lst acc) ∧ acc.length < sizeLine ∧ Acc K H1 D p dl Pd (i + 1) (upd H7 D (.lst (acc ++ [v]))) := by
  obtain ⟨acc, ds, e, a, hl, hp, B5, k5⟩ := A
  obtain ⟨hDp, hDd⟩ := B1.ne_new hD
  have e7 := k _ _ e hDp
  have kT : KeepT K H7 (upd H7 D (.lst (acc ++ [v]))) := KeepT.upd e7
  have hal := a.length
  refine ⟨acc, e7, Nat.lt_of_le_of_lt (show acc.length ≤ 10000 by omega) (by decide), acc ++ [v], ds ++ [d], upd_same, DtAll.app ((a.keepT (k.keepT B5.at_)).keepT kT) (.cons (dv.keepT kT) .nil), by simp [hl], fun x hx => ?_, B.upd hDp hDd, fun b o e hb => ?_⟩
  · rcases List.mem_append.mp hx with hx | hx
    · exact hp x hx
    · rw [List.mem_singleton.mp hx]; exact hd
  · rw [upd_ne (ne_of_none e hD)]; exact k _ _ (k5 _ _ e hb) hb
/-! trees -/
inductive TreeD : Nat → PyData → Prop
  | str {n : Nat} (js : List Nat) : js.length ≤ 12 → (∀ j ∈ js, j < 95) → TreeD n (.str (tx js))
  | int {n : Nat} (i : Int) : i.natAbs < 2 ^ 256 → TreeD n (.int i)
  | bool {n : Nat} (b : Bool) : TreeD n (.bool b)
  | tup {n : Nat} (ds : List PyData) : ds.length ≤ 3 → (∀ d ∈ ds, TreeD n d) → TreeD (n + 1) (.tuple ds)
theorem TreeD.up {n : Nat} {d : PyData} (h : TreeD n d) : TreeD (n + 1) d := by
  induction h with
  | str js h1 h2 => exact .str js h1 h2
  | int i h => exact .int i h
  | bool b => exact .bool b
  | tup ds h1 _ ih => exact .tup ds h1 ih
def spTree (K : PySem.W.Frag) (n : Nat) : Sp := fun vs H Q _ => ∃ (p dl : Addr) (d : Nat), vs = [.ref p, .int (d : Int)] ∧ d = n ∧ BoxAt H p dl ∧ ∀ v x H', Dt K H' v x → TreeD n x → BoxAt H' p dl → Keep p H H' → Q v H'
theorem ok_tree0 {f : Addr} {fd : FuncData} (F : Fun K "_law_tree" "_law_tree" s_law_tree f fd) (T : Txt K mg) (U_law_draw : Use P w K mg base CX0 "_law_draw" 1 P_law_draw (spDraw K)) (U_law_text : Use P w K mg base CX0 "_law_text" 2 P_law_text (spText K)) (U_law_number : Use P w K mg base CX0 "_law_number" 2 P_law_number (spNumb K)) (U_law_name : Use P w K mg base CX0 "_law_name" 2 P_law_name (spName K)) :
    FnG P w K mg base CX0 3 f fd P_law_tree (spTree K 0) := by
  refine okG0 F sc_law_tree (fun vs H Q E h => ?_) fun cdv A outer s H vs Q E hr hg h => ?_
  · obtain ⟨p, dl, d, rfl, _⟩ := h
    rfl
  · obtain ⟨p, dl, d, rfl, rfl, B, k⟩ := h
    refine ⟨_, (pss_cons (ps_set (i := 2) sc_law_tree.nd rfl (Or.inl rfl) (pe_use U_law_draw (hr.mono (by decide)) hg rfl (pa_cons (pv 0) (pa_cons pe_int pa_nil))))
  (pss_cons (ps_if (pt_cmpR op_eq (pv 2) pe_int (nomark _))
   (pss_one (ps_ret (pe_use U_law_text (hr.mono (by decide)) hg rfl (pa_cons (pv 0) (pa_cons pe_int pa_nil)))))
   pss_nil)
  (pss_cons (ps_if (pt_cmpR op_eq (pv 2) pe_int (nomark _))
   (pss_cons (ps_set (i := 3) sc_law_tree.nd rfl (Or.inl rfl) (pe_use U_law_number (hr.mono (by decide)) hg rfl (pa_cons (pv 0) pa_nil)))
  (pss_one (ps_ret (pe_op op_add (pv 3) (pe_op op_mul pe_int (pe_callTy call_int1 (by rfl) T.b_int (by decide +kernel) (pa_cons (pe_or (pe_cmpR op_eq (pv 3) pe_int (nomark _)) (pe_one (pe_cmpR op_eq (pv 3) pe_int (nomark _)))) pa_nil)))))))
   pss_nil)
  (pss_cons (ps_if (pt_cmpR op_eq (pv 2) pe_int (nomark _))
   (pss_one (ps_ret (pe_cmpR op_eq (pe_use U_law_draw (hr.mono (by decide)) hg rfl (pa_cons (pv 0) (pa_cons pe_int pa_nil))) pe_int (nomark _))))
   pss_nil)
  (pss_cons (ps_if (PW.pt (pw_or (pt_cmpR op_eq (pv 2) pe_int (nomark _)) (pw_or1 (pt_cmpR op_eq (pv 1) pe_int (nomark _)))))
   (pss_one (ps_ret (pe_use U_law_name (hr.mono (by decide)) hg rfl (pa_cons (pv 0) pa_nil))))
   pss_nil)
  pss_never))))), ?_⟩
    refine ⟨_, rfl, p, dl, 8, rfl, B, by decide, fun kind H1 k0 k1 B1 K1 => ?_⟩
    refine ⟨_, rfl, rfl, _, rfl, ?_⟩
    refine ite3 (fun _ => ?_) fun _ => ?_
    · exact ⟨_, rfl, p, dl, 6, rfl, B1, by decide, fun js H2 hl hj B2 K2 => k _ _ _ (.str _) (.str js (by omega) hj) B2 (K1.trans K2)⟩
    refine ⟨_, rfl, rfl, _, rfl, ?_⟩
    refine ite3 (fun _ => ?_) fun _ => ?_
    · refine ⟨_, rfl, p, dl, rfl, B1, fun i H2 hi B2 K2 => ?_⟩
      have fin : ∀ b : Int, 0 ≤ b → b ≤ 1 → (b = 1 → i = 0 ∨ i = 1) → Q (.int (i + 2 * b)) H2 := fun b b0 b1 b2 => k _ _ _ (.int _) (.int _ (by
        have h2 : 10 < (2 : Nat) ^ 256 := by decide +kernel
        have hi := hi
        rcases (show b = 0 ∨ b = 1 by omega) with rfl | rfl
        · rw [Int.mul_zero, Int.add_zero]; exact hi
        · have := b2 rfl
          omega)) B2 (K1.trans K2)
      refine ⟨_, rfl, _, rfl, rfl, ?_⟩
      refine ⟨_, rfl, ?_⟩
      refine ite3 (fun ci => ?_) fun _ => ?_
      · refine .inr ⟨_, rfl, ?_⟩
        exact ⟨_, _, rfl, rfl, .inl ⟨by decide, by decide⟩, _, _, rfl, rfl, fin 1 (by decide) (by decide) fun _ => .inl (V.int.inj (of_decide_eq_true ci))⟩
      · refine ⟨_, rfl, rfl, .inr ⟨_, rfl, ?_⟩⟩
        obtain ⟨e, he, e0, e1, e2⟩ : ∃ e : Int, (if decide (V.int i = V.int 1) = true then (1 : Int) else 0) = e ∧ 0 ≤ e ∧ e ≤ 1 ∧ (e = 1 → i = 0 ∨ i = 1) := by
          split
          · rename_i hc
            exact ⟨_, rfl, by decide, by decide, fun _ => .inr (V.int.inj (of_decide_eq_true hc))⟩
          · exact ⟨_, rfl, by decide, by decide, fun h => by omega⟩
        rw [he]
        exact ⟨_, _, rfl, rfl, .inl ⟨by decide, by omega⟩, _, _, rfl, rfl, fin e e0 e1 e2⟩
    refine ⟨_, rfl, rfl, _, rfl, ?_⟩
    refine ite3 (fun _ => ?_) fun _ => ?_
    · exact ⟨_, rfl, p, dl, 2, rfl, B1, by decide, fun r H2 _ _ B2 K2 => ⟨rfl, k _ _ _ (.bl _) (.bool _) B2 (K1.trans K2)⟩⟩
    refine ⟨_, rfl, rfl, _, rfl, ?_⟩
    refine ite3 (fun _ => ?_) fun _ => ?_
    · exact ⟨_, rfl, p, dl, rfl, B1, fun js H2 hl hj B2 K2 => k _ _ _ (.str _) (.str js (by omega) hj) B2 (K1.trans K2)⟩
    refine ⟨_, rfl, rfl, _, rfl, iteTb (by decide) ?_⟩
    exact ⟨_, rfl, p, dl, rfl, B1, fun js H2 hl hj B2 K2 => k _ _ _ (.str _) (.str js (by omega) hj) B2 (K1.trans K2)⟩
theorem ok_treeN {n kk : Nat} (hk : 2 ≤ kk) {f : Addr} {fd : FuncData} (F : Fun K "_law_tree" "_law_tree" s_law_tree f fd) (T : Txt K mg) (U_law_draw : Use P w K mg base CX0 "_law_draw" 1 P_law_draw (spDraw K)) (U_law_text : Use P w K mg base CX0 "_law_text" 2 P_law_text (spText K)) (U_law_number : Use P w K mg base CX0 "_law_number" 2 P_law_number (spNumb K)) (U_law_name : Use P w K mg base CX0 "_law_name" 2 P_law_name (spName K)) (U_law_tree : Use P w K mg base CX0 "_law_tree" kk P_law_tree (spTree K n)) :
    FnG P w K mg base CX0 (kk + 1) f fd P_law_tree (spTree K (n + 1)) := by
  refine okG0 F sc_law_tree (fun vs H Q E h => ?_) fun cdv A outer s H vs Q E hr hg h => ?_
  · obtain ⟨p, dl, d, rfl, _⟩ := h
    rfl
  · obtain ⟨p, dl, d, rfl, rfl, B, k⟩ := h
    refine ⟨_, (pss_cons (ps_set (i := 2) sc_law_tree.nd rfl (Or.inl rfl) (pe_use U_law_draw (hr.mono (by omega)) hg rfl (pa_cons (pv 0) (pa_cons pe_int pa_nil))))
  (pss_cons (ps_if (pt_cmpR op_eq (pv 2) pe_int (nomark _))
   (pss_one (ps_ret (pe_use U_law_text (hr.mono (by omega)) hg rfl (pa_cons (pv 0) (pa_cons pe_int pa_nil)))))
   pss_nil)
  (pss_cons (ps_if (pt_cmpR op_eq (pv 2) pe_int (nomark _))
   (pss_cons (ps_set (i := 3) sc_law_tree.nd rfl (Or.inl rfl) (pe_use U_law_number (hr.mono (by omega)) hg rfl (pa_cons (pv 0) pa_nil)))
  (pss_one (ps_ret (pe_op op_add (pv 3) (pe_op op_mul pe_int (pe_callTy call_int1 (by rfl) T.b_int (by decide +kernel) (pa_cons (pe_or (pe_cmpR op_eq (pv 3) pe_int (nomark _)) (pe_one (pe_cmpR op_eq (pv 3) pe_int (nomark _)))) pa_nil)))))))
   pss_nil)
  (pss_cons (ps_if (pt_cmpR op_eq (pv 2) pe_int (nomark _))
   (pss_one (ps_ret (pe_cmpR op_eq (pe_use U_law_draw (hr.mono (by omega)) hg rfl (pa_cons (pv 0) (pa_cons pe_int pa_nil))) pe_int (nomark _))))
   pss_nil)
  (pss_cons (ps_if (PW.pt (pw_or (pt_cmpR op_eq (pv 2) pe_int (nomark _)) (pw_or1 (pt_cmpR op_eq (pv 1) pe_int (nomark _)))))
   (pss_one (ps_ret (pe_use U_law_name (hr.mono (by omega)) hg rfl (pa_cons (pv 0) pa_nil))))
   pss_nil)
  (pss_cons (ps_set (i := 4) sc_law_tree.nd rfl (Or.inl rfl) (pe_use U_law_draw (hr.mono (by omega)) hg rfl (pa_cons (pv 0) (pa_cons pe_int pa_nil))))
  (pss_one (ps_ret (pe_callTy call_tuple_of (by rfl) T.b_tuple (by decide +kernel) (pa_cons (pe_lc (own := [("k", 5)]) (g := (gName 5)) rfl sc_law_tree.nd (pi_range1 (by rfl) T.b_range (pa_cons (pv 4) pa_nil)) (blkOk_by (N := N_law_tree) (sc := defScope s_law_tree) (by decide +kernel)) (fun _ _ _ _ _ => (pg_name (i := 5) sc_law_tree.nd rfl (Or.inl rfl))) (fun _ _ _ _ _ => pts_nil) (fun _ _ _ _ _ => (pe_use U_law_tree (hr.mono (by omega)) hg rfl (pa_cons (pv 0) (pa_cons (pe_op op_sub (pv 1) pe_int) pa_nil))))) pa_nil)))))))))), ?_⟩
    refine ⟨_, rfl, p, dl, 8, rfl, B, by decide, fun kind H1 k0 k1 B1 K1 => ?_⟩
    refine ⟨_, rfl, rfl, _, rfl, ?_⟩
    refine ite3 (fun _ => ?_) fun _ => ?_
    · exact ⟨_, rfl, p, dl, 6, rfl, B1, by decide, fun js H2 hl hj B2 K2 => k _ _ _ (.str _) (.str js (by omega) hj) B2 (K1.trans K2)⟩
    refine ⟨_, rfl, rfl, _, rfl, ?_⟩
    refine ite3 (fun _ => ?_) fun _ => ?_
    · refine ⟨_, rfl, p, dl, rfl, B1, fun i H2 hi B2 K2 => ?_⟩
      have fin : ∀ b : Int, 0 ≤ b → b ≤ 1 → (b = 1 → i = 0 ∨ i = 1) → Q (.int (i + 2 * b)) H2 := fun b b0 b1 b2 => k _ _ _ (.int _) (.int _ (by
        have h2 : 10 < (2 : Nat) ^ 256 := by decide +kernel
        have hi := hi
        rcases (show b = 0 ∨ b = 1 by omega) with rfl | rfl
        · rw [Int.mul_zero, Int.add_zero]; exact hi
        · have := b2 rfl
          omega)) B2 (K1.trans K2)
      refine ⟨_, rfl, _, rfl, rfl, ?_⟩
      refine ⟨_, rfl, ?_⟩
      refine ite3 (fun ci => ?_) fun _ => ?_
      · refine .inr ⟨_, rfl, ?_⟩
        exact ⟨_, _, rfl, rfl, .inl ⟨by decide, by decide⟩, _, _, rfl, rfl, fin 1 (by decide) (by decide) fun _ => .inl (V.int.inj (of_decide_eq_true ci))⟩
      · refine ⟨_, rfl, rfl, .inr ⟨_, rfl, ?_⟩⟩
        obtain ⟨e, he, e0, e1, e2⟩ : ∃ e : Int, (if decide (V.int i = V.int 1) = true then (1 : Int) else 0) = e ∧ 0 ≤ e ∧ e ≤ 1 ∧ (e = 1 → i = 0 ∨ i = 1) := by
          split
          · rename_i hc
            exact ⟨_, rfl, by decide, by decide, fun _ => .inr (V.int.inj (of_decide_eq_true hc))⟩
          · exact ⟨_, rfl, by decide, by decide, fun h => by omega⟩
        rw [he]
        exact ⟨_, _, rfl, rfl, .inl ⟨by decide, by omega⟩, _, _, rfl, rfl, fin e e0 e1 e2⟩
    refine ⟨_, rfl, rfl, _, rfl, ?_⟩
    refine ite3 (fun _ => ?_) fun _ => ?_
    · exact ⟨_, rfl, p, dl, 2, rfl, B1, by decide, fun r H2 _ _ B2 K2 => ⟨rfl, k _ _ _ (.bl _) (.bool _) B2 (K1.trans K2)⟩⟩
    refine ⟨_, rfl, rfl, _, rfl, ?_⟩
    refine ite3 (fun _ => ?_) fun _ => ?_
    · exact ⟨_, rfl, p, dl, rfl, B1, fun js H2 hl hj B2 K2 => k _ _ _ (.str _) (.str js (by omega) hj) B2 (K1.trans K2)⟩
    refine ⟨_, rfl, rfl, _, rfl, iteFb (decide_eq_false fun e => by have := V.int.inj e; omega) ?_⟩
    refine ⟨_, rfl, p, dl, 4, rfl, B1, by decide, fun m H2 m0 m1 B2 K2 => ?_⟩
    obtain ⟨m, rfl⟩ := Int.eq_ofNat_of_zero_le m0
    refine ⟨_, rfl, m, rfl, by omega, by omega, fun D hD => ?_⟩
    rw [Int.toNat_natCast]
    refine lc_it (walk_range (lo := 0) (n := m)) (fun i H' => Acc K H2 D p dl (TreeD n) i H') (Acc.start hD B2) (fun _ _ _ _ => trivial) ?_ ?_
    · rintro i x H5 H6 hi A ⟨rfl, rfl⟩
      refine ⟨rfl, tYes_of ?_⟩
      obtain ⟨_, _, _, _, _, _, B5, _⟩ := id A
      refine ⟨_, rfl, _, rfl, _, _, rfl, rfl, p, dl, n, by dsimp only; rw [show (((n + 1 : Nat) : Int) - 1) = (n : Int) by omega], rfl, B5, fun v x H7 dv hx B7 K7 => ?_⟩
      exact A.put (by omega) hD B2 B7 K7 dv hx
    · rintro H5 ⟨acc, ds, e5, a5, hl5, hp5, B5, K5⟩
      refine ⟨D, _, rfl, .inl ⟨SqL.of e5, fun t ht => ?_⟩⟩
      exact k _ _ _ (Dt.made ht a5) (.tup ds (by omega) hp5) (B5.same (Same.new ht)) (((K1.trans K2).trans K5).trans (Same.keep (Same.new ht)))
def spTreeR (K : PySem.W.Frag) : Nat → Sp
  | 0 => fun _ _ _ _ => False
  | n + 1 => spTree K n
theorem ok_treeR : ∀ {n : Nat} {f : Addr} {fd : FuncData} (F : Fun K "_law_tree" "_law_tree" s_law_tree f fd) (T : Txt K mg) (U_law_tree : Use P w K mg base CX0 "_law_tree" (2 + n) P_law_tree (spTreeR K n)) (U_law_draw : Use P w K mg base CX0 "_law_draw" 1 P_law_draw (spDraw K)) (U_law_text : Use P w K mg base CX0 "_law_text" 2 P_law_text (spText K)) (U_law_number : Use P w K mg base CX0 "_law_number" 2 P_law_number (spNumb K)) (U_law_name : Use P w K mg base CX0 "_law_name" 2 P_law_name (spName K)),
    FnG P w K mg base CX0 (2 + n + 1) f fd P_law_tree (spTreeR K (n + 1))
  | 0, _, _, F, T, _, A, B, C, D => ok_tree0 F T A B C D
  | n + 1, _, _, F, T, V, A, B, C, D => ok_treeN (n := n) (kk := 2 + (n + 1)) (by omega) F T A B C D V
--SPLIT
end

section
--SPLIT
end
abbrev s_law_field : Stmt := top 58
abbrev N_law_field : List Str := ["box", "letter", "many", "size", "k", "kind"]
abbrev P_law_field : List Str := ["box", "letter", "many"]
theorem sc_law_field : FnScope N_law_field P_law_field (defScope s_law_field) := ⟨rfl, rfl, rfl, by decide +kernel, rfl, by decide +kernel, by decide +kernel⟩
abbrev s_law_shape : Stmt := top 59
abbrev N_law_shape : List Str := ["box", "table", "many", "row"]
abbrev P_law_shape : List Str := ["box", "table", "many"]
theorem sc_law_shape : FnScope N_law_shape P_law_shape (defScope s_law_shape) := ⟨rfl, rfl, rfl, by decide +kernel, rfl, by decide +kernel, by decide +kernel⟩
abbrev s_law_shape_of : Stmt := top 60
abbrev N_law_shape_of : List Str := ["box", "row", "many", "item", "letter"]
abbrev P_law_shape_of : List Str := ["box", "row", "many"]
theorem sc_law_shape_of : FnScope N_law_shape_of P_law_shape_of (defScope s_law_shape_of) := ⟨rfl, rfl, rfl, by decide +kernel, rfl, by decide +kernel, by decide +kernel⟩
abbrev s_law_frames : Stmt := top 63
abbrev N_law_frames : List Str := ["words", "rows", "word", "parts"]
abbrev P_law_frames : List Str := []
theorem sc_law_frames : FnScope N_law_frames P_law_frames (defScope s_law_frames) := ⟨rfl, rfl, rfl, by decide +kernel, rfl, by decide +kernel, by decide +kernel⟩
abbrev s_law_objects : Stmt := top 61
abbrev N_law_objects : List Str := []
abbrev P_law_objects : List Str := []
theorem sc_law_objects : FnScope N_law_objects P_law_objects (defScope s_law_objects) := ⟨rfl, rfl, rfl, by decide +kernel, rfl, by decide +kernel, by decide +kernel⟩
abbrev s_law_controls : Stmt := top 62
abbrev N_law_controls : List Str := []
abbrev P_law_controls : List Str := []
theorem sc_law_controls : FnScope N_law_controls P_law_controls (defScope s_law_controls) := ⟨rfl, rfl, rfl, by decide +kernel, rfl, by decide +kernel, by decide +kernel⟩
section
variable {P : Program} {w : World} {K : PySem.W.Frag} {mg : Str → Option Value} {base : Heap}
theorem ex_map {α : Type} {g : α → PyData} {q : α → Prop} : ∀ {ds : List PyData}, (∀ d ∈ ds, ∃ x, d = g x ∧ q x) → ∃ xs : List α, ds = xs.map g ∧ ∀ x ∈ xs, q x
  | [], _ => ⟨[], rfl, by simp⟩
  | d :: ds, h => by
    obtain ⟨x, rfl, hx⟩ := h d (by simp)
    obtain ⟨xs, rfl, hxs⟩ := ex_map (g := g) (q := q) (ds := ds) fun e he => h e (List.mem_cons_of_mem _ he)
    exact ⟨x :: xs, rfl, fun y hy => by
      rcases List.mem_cons.mp hy with rfl | hy
      · exact hx
      · exact hxs y hy⟩
/-! fields -/
inductive Fld
  | v (x : Val) | V (xs : List Val) | W (ps : List (Val × Val)) | X (ps : List (List Nat × Val)) | t (d : PyData) | a (k : Nat) | b (k : Int) | n (i : Int) | x (js : List Nat) | s0 | s1 (z : Str) | s2 (z : Str) (x : Val)
def fldD : Fld → PyData
  | .v x => valD x
  | .V xs => .tuple (xs.map valD)
  | .W ps => .tuple (ps.map fun p => .tuple [valD p.1, valD p.2])
  | .X ps => .tuple (ps.map fun p => .tuple [.str (tx p.1), valD p.2])
  | .t d => d
  | .a k => .int (k : Int)
  | .b k => .int k
  | .n i => .int i
  | .x js => .str (tx js)
  | .s0 => .tuple []
  | .s1 z => .tuple [.str z]
  | .s2 z x => .tuple [.str z, valD x]
/-- the letter of a field -/
def ltr : Fld → Nat
  | .v _ => 118
  | .V _ => 86
  | .W _ => 87
  | .X _ => 88
  | .t _ => 116
  | .a _ => 97
  | .b _ => 98
  | .n _ => 110
  | .x _ => 120
  | .s0 => 115
  | .s1 _ => 115
  | .s2 _ _ => 115
def FldSm (m : Nat) : Fld → Prop
  | .v x => ValSm x
  | .V xs => xs.length ≤ 4 ∧ ∀ x ∈ xs, ValSm x
  | .W ps => ps.length ≤ 3 ∧ ∀ p ∈ ps, ValSm p.1 ∧ ValSm p.2
  | .X ps => ps.length ≤ 3 ∧ ∀ p ∈ ps, TxSm p.1 ∧ ValSm p.2
  | .t d => TreeD 3 d
  | .a k => k < m
  | .b k => -1 ≤ k ∧ k < m
  | .n i => i.natAbs < 2 ^ 256
  | .x js => TxSm js
  | .s0 => True
  | .s1 z => z = "break" ∨ z = "continue"
  | .s2 z x => (z = "return" ∨ z = "raise") ∧ ValSm x
theorem sig_S {c : Nat} {z : Str} (h : z = S [c]) : V.str z = .str (S [c]) := by rw [h]
def flds : List Nat := [118, 86, 87, 88, 116, 97, 98, 110, 120, 115]
def spField0 (K : PySem.W.Frag) : Sp := fun vs H Q _ => ∃ (p dl : Addr) (c m : Nat), vs = [.ref p, .str (S [c]), .int (m : Int)] ∧ c ∈ flds ∧ 0 < m ∧ m ≤ 10 ^ 6 ∧ BoxAt H p dl ∧ ∀ v (x : Fld) H', Dt K H' v (fldD x) → ltr x = c → FldSm m x → BoxAt H' p dl → Keep p H H' → Q v H'
theorem ok_field0 {f : Addr} {fd : FuncData} (F : Fun K "_law_field" "_law_field" s_law_field f fd) (T : Txt K mg) (U_law_draw : Use P w K mg base CX0 "_law_draw" 1 P_law_draw (spDraw K)) (U_law_value : Use P w K mg base CX0 "_law_value" 3 P_law_value (spLVal K)) (U_law_name : Use P w K mg base CX0 "_law_name" 2 P_law_name (spName K))
    (U_law_number : Use P w K mg base CX0 "_law_number" 2 P_law_number (spNumb K)) (U_law_tree : Use P w K mg base CX0 "_law_tree" (2 + 4) P_law_tree (spTreeR K 4)) : FnG P w K mg base CX0 7 f fd P_law_field (spField0 K) := by
  refine okG0 F sc_law_field (fun vs H Q E h => ?_) fun cdv A outer s H vs Q E hr hg h => ?_
  · obtain ⟨p, dl, c, m, rfl, _⟩ := h
    rfl
  · obtain ⟨p, dl, c, m, rfl, hc, hm0, hm, B, k⟩ := h
    refine ⟨_, (pss_cons (ps_if (pt_cmpR op_eq (pv 1) pe_str (nomark _))
   (pss_one (ps_ret (pe_use U_law_value (hr.mono (by decide)) hg rfl (pa_cons (pv 0) (pa_cons (pv 2) pa_nil)))))
   pss_nil)
  (pss_cons (ps_if (pt_cmpR op_eq (pv 1) pe_str (nomark _))
   (pss_cons (ps_set (i := 3) sc_law_field.nd rfl (Or.inl rfl) (pe_use U_law_draw (hr.mono (by decide)) hg rfl (pa_cons (pv 0) (pa_cons pe_int pa_nil))))
  (pss_one (ps_ret (pe_callTy call_tuple_of (by rfl) T.b_tuple (by decide +kernel) (pa_cons (pe_lc (own := [("k", 4)]) (g := (gName 4)) rfl sc_law_field.nd (pi_range1 (by rfl) T.b_range (pa_cons (pv 3) pa_nil)) (blkOk_by (N := N_law_field) (sc := defScope s_law_field) (by decide +kernel)) (fun _ _ _ _ _ => (pg_name (i := 4) sc_law_field.nd rfl (Or.inl rfl))) (fun _ _ _ _ _ => pts_nil) (fun _ _ _ _ _ => (pe_use U_law_value (hr.mono (by decide)) hg rfl (pa_cons (pv 0) (pa_cons (pv 2) pa_nil))))) pa_nil)))))
   pss_nil)
  (pss_cons (ps_if (pt_cmpR op_eq (pv 1) pe_str (nomark _))
   (pss_cons (ps_set (i := 3) sc_law_field.nd rfl (Or.inl rfl) (pe_use U_law_draw (hr.mono (by decide)) hg rfl (pa_cons (pv 0) (pa_cons pe_int pa_nil))))
  (pss_one (ps_ret (pe_callTy call_tuple_of (by rfl) T.b_tuple (by decide +kernel) (pa_cons (pe_lc (own := [("k", 4)]) (g := (gName 4)) rfl sc_law_field.nd (pi_range1 (by rfl) T.b_range (pa_cons (pv 3) pa_nil)) (blkOk_by (N := N_law_field) (sc := defScope s_law_field) (by decide +kernel)) (fun _ _ _ _ _ => (pg_name (i := 4) sc_law_field.nd rfl (Or.inl rfl))) (fun _ _ _ _ _ => pts_nil) (fun _ _ _ _ _ => (pe_tup (pa_cons (pe_use U_law_value (hr.mono (by decide)) hg rfl (pa_cons (pv 0) (pa_cons (pv 2) pa_nil))) (pa_cons (pe_use U_law_value (hr.mono (by decide)) hg rfl (pa_cons (pv 0) (pa_cons (pv 2) pa_nil))) pa_nil))))) pa_nil)))))
   pss_nil)
  (pss_cons (ps_if (pt_cmpR op_eq (pv 1) pe_str (nomark _))
   (pss_cons (ps_set (i := 3) sc_law_field.nd rfl (Or.inl rfl) (pe_use U_law_draw (hr.mono (by decide)) hg rfl (pa_cons (pv 0) (pa_cons pe_int pa_nil))))
  (pss_one (ps_ret (pe_callTy call_tuple_of (by rfl) T.b_tuple (by decide +kernel) (pa_cons (pe_lc (own := [("k", 4)]) (g := (gName 4)) rfl sc_law_field.nd (pi_range1 (by rfl) T.b_range (pa_cons (pv 3) pa_nil)) (blkOk_by (N := N_law_field) (sc := defScope s_law_field) (by decide +kernel)) (fun _ _ _ _ _ => (pg_name (i := 4) sc_law_field.nd rfl (Or.inl rfl))) (fun _ _ _ _ _ => pts_nil) (fun _ _ _ _ _ => (pe_tup (pa_cons (pe_use U_law_name (hr.mono (by decide)) hg rfl (pa_cons (pv 0) pa_nil)) (pa_cons (pe_use U_law_value (hr.mono (by decide)) hg rfl (pa_cons (pv 0) (pa_cons (pv 2) pa_nil))) pa_nil))))) pa_nil)))))
   pss_nil)
  (pss_cons (ps_if (pt_cmpR op_eq (pv 1) pe_str (nomark _))
   (pss_one (ps_ret (pe_use U_law_tree (hr.mono (by decide)) hg rfl (pa_cons (pv 0) (pa_cons pe_int pa_nil)))))
   pss_nil)
  (pss_cons (ps_if (pt_cmpR op_eq (pv 1) pe_str (nomark _))
   (pss_one (ps_ret (pe_op op_mod (pe_callTy call_int1 (by rfl) T.b_int (by decide +kernel) (pa_cons (pe_op op_add (pe_op op_mul (pe_use U_law_draw (hr.mono (by decide)) hg rfl (pa_cons (pv 0) (pa_cons pe_int pa_nil))) pe_int) (pe_use U_law_draw (hr.mono (by decide)) hg rfl (pa_cons (pv 0) (pa_cons pe_int pa_nil)))) pa_nil)) (pv 2))))
   pss_nil)
  (pss_cons (ps_if (pt_cmpR op_eq (pv 1) pe_str (nomark _))
   (pss_one (ps_ret (pe_op op_sub (pe_op op_mod (pe_callTy call_int1 (by rfl) T.b_int (by decide +kernel) (pa_cons (pe_op op_add (pe_op op_mul (pe_use U_law_draw (hr.mono (by decide)) hg rfl (pa_cons (pv 0) (pa_cons pe_int pa_nil))) pe_int) (pe_use U_law_draw (hr.mono (by decide)) hg rfl (pa_cons (pv 0) (pa_cons pe_int pa_nil)))) pa_nil)) (pe_op op_add (pv 2) pe_int)) pe_int)))
   pss_nil)
  (pss_cons (ps_if (pt_cmpR op_eq (pv 1) pe_str (nomark _))
   (pss_one (ps_ret (pe_use U_law_number (hr.mono (by decide)) hg rfl (pa_cons (pv 0) pa_nil))))
   pss_nil)
  (pss_cons (ps_if (pt_cmpR op_eq (pv 1) pe_str (nomark _))
   (pss_one (ps_ret (pe_use U_law_name (hr.mono (by decide)) hg rfl (pa_cons (pv 0) pa_nil))))
   pss_nil)
  (pss_cons (ps_if (pt_cmpR op_eq (pv 1) pe_str (nomark _))
   (pss_cons (ps_set (i := 5) sc_law_field.nd rfl (Or.inl rfl) (pe_use U_law_draw (hr.mono (by decide)) hg rfl (pa_cons (pv 0) (pa_cons pe_int pa_nil))))
  (pss_cons (ps_if (pt_cmpR op_lt (pv 5) pe_int (nomark _))
   (pss_one (ps_ret (pe_ix ix_list (pe_lst (pa_cons (pe_tup pa_nil) (pa_cons (pe_tup (pa_cons pe_str pa_nil)) (pa_cons (pe_tup (pa_cons pe_str pa_nil)) pa_nil)))) (pv 5) (fun _ _ => rfl))))
   pss_nil)
  (pss_one (ps_ret (pe_tup (pa_cons (pe_ix ix_list (pe_lst (pa_cons pe_str (pa_cons pe_str pa_nil))) (pe_op op_sub (pv 5) pe_int) (fun _ _ => rfl)) (pa_cons (pe_use U_law_value (hr.mono (by decide)) hg rfl (pa_cons (pv 0) (pa_cons (pv 2) pa_nil))) pa_nil)))))))
   pss_nil)
  pss_never)))))))))), ?_⟩
    have hm20 : (10 : Nat) ^ 6 ≤ 10 ^ 20 := by decide
    simp only [flds, List.mem_cons, List.not_mem_nil, or_false] at hc
    rcases hc with rfl | rfl | rfl | rfl | rfl | rfl | rfl | rfl | rfl | rfl
    · refine ⟨_, rfl, rfl, _, rfl, iteTb (by decide +kernel) ?_⟩
      exact ⟨_, rfl, _, rfl, p, dl, m, rfl, B, hm0, by omega, fun v x H1 dv hx B1 K1 => k v (.v x) H1 dv rfl hx B1 K1⟩
    · refine ⟨_, rfl, rfl, _, rfl, iteFb (by decide +kernel) ?_⟩
      refine ⟨_, rfl, rfl, _, rfl, iteTb (by decide +kernel) ?_⟩
      refine ⟨_, rfl, p, dl, 5, rfl, B, by decide, fun n H1 n0 n1 B1 K1 => ?_⟩
      obtain ⟨n, rfl⟩ := Int.eq_ofNat_of_zero_le n0
      refine ⟨_, rfl, n, rfl, by omega, by omega, fun D hD => ?_⟩
      rw [Int.toNat_natCast]
      refine lc_it (walk_range (lo := 0) (n := n)) (fun i H' => Acc K H1 D p dl (fun d => ∃ x, d = valD x ∧ ValSm x) i H') (Acc.start hD B1) (fun _ _ _ _ => trivial) ?_ ?_
      · rintro i x H5 H6 hi A ⟨rfl, rfl⟩
        refine ⟨rfl, tYes_of ?_⟩
        obtain ⟨_, _, _, _, _, _, B5, _⟩ := id A
        exact ⟨_, rfl, _, rfl, p, dl, m, rfl, B5, hm0, by omega, fun v x H7 dv hx B7 K7 => A.put (by omega) hD B1 B7 K7 dv ⟨x, rfl, hx⟩⟩
      · rintro H5 ⟨acc, ds, e5, a5, hl5, hp5, B5, K5⟩
        obtain ⟨xs, rfl, hxs⟩ := ex_map hp5
        rw [List.length_map] at hl5
        refine ⟨D, _, rfl, .inl ⟨SqL.of e5, fun t ht => ?_⟩⟩
        exact k _ (.V xs) _ (Dt.made ht a5) rfl ⟨by omega, hxs⟩ (B5.same (Same.new ht)) ((K1.trans K5).trans (Same.keep (Same.new ht)))
    · refine ⟨_, rfl, rfl, _, rfl, iteFb (by decide +kernel) ?_⟩
      refine ⟨_, rfl, rfl, _, rfl, iteFb (by decide +kernel) ?_⟩
      refine ⟨_, rfl, rfl, _, rfl, iteTb (by decide +kernel) ?_⟩
      refine ⟨_, rfl, p, dl, 4, rfl, B, by decide, fun n H1 n0 n1 B1 K1 => ?_⟩
      obtain ⟨n, rfl⟩ := Int.eq_ofNat_of_zero_le n0
      refine ⟨_, rfl, n, rfl, by omega, by omega, fun D hD => ?_⟩
      rw [Int.toNat_natCast]
      refine lc_it (walk_range (lo := 0) (n := n)) (fun i H' => Acc K H1 D p dl (fun d => ∃ x, d = .tuple [valD (x : Val × Val).1, valD x.2] ∧ (ValSm x.1 ∧ ValSm x.2)) i H') (Acc.start hD B1) (fun _ _ _ _ => trivial) ?_ ?_
      · rintro i x H5 H6 hi A ⟨rfl, rfl⟩
        refine ⟨rfl, tYes_of ?_⟩
        obtain ⟨_, _, _, _, _, _, B5, _⟩ := id A
        refine ⟨_, rfl, _, rfl, p, dl, m, rfl, B5, hm0, by omega, fun v x H7 dv hx B7 K7 => ?_⟩
        refine ⟨_, rfl, _, rfl, p, dl, m, rfl, B7, hm0, by omega, fun u y H8 du hy B8 K8 => ⟨sz_2, fun t ht => ?_⟩⟩
        have S9 := Same.new (o := .tup [v, u]) ht
        exact A.put (by omega) hD B1 (B8.same S9) ((K7.trans K8).trans (Same.keep S9)) (Dt.made ht (.cons (dv.keepT (K8.keepT B7.at_)) (.cons du .nil))) ⟨(x, y), rfl, hx, hy⟩
      · rintro H5 ⟨acc, ds, e5, a5, hl5, hp5, B5, K5⟩
        obtain ⟨xs, rfl, hxs⟩ := ex_map hp5
        rw [List.length_map] at hl5
        refine ⟨D, _, rfl, .inl ⟨SqL.of e5, fun t ht => ?_⟩⟩
        exact k _ (.W xs) _ (Dt.made ht a5) rfl ⟨by omega, hxs⟩ (B5.same (Same.new ht)) ((K1.trans K5).trans (Same.keep (Same.new ht)))
    · refine ⟨_, rfl, rfl, _, rfl, iteFb (by decide +kernel) ?_⟩
      refine ⟨_, rfl, rfl, _, rfl, iteFb (by decide +kernel) ?_⟩
      refine ⟨_, rfl, rfl, _, rfl, iteFb (by decide +kernel) ?_⟩
      refine ⟨_, rfl, rfl, _, rfl, iteTb (by decide +kernel) ?_⟩
      refine ⟨_, rfl, p, dl, 4, rfl, B, by decide, fun n H1 n0 n1 B1 K1 => ?_⟩
      obtain ⟨n, rfl⟩ := Int.eq_ofNat_of_zero_le n0
      refine ⟨_, rfl, n, rfl, by omega, by omega, fun D hD => ?_⟩
      rw [Int.toNat_natCast]
      refine lc_it (walk_range (lo := 0) (n := n)) (fun i H' => Acc K H1 D p dl (fun d => ∃ x, d = .tuple [.str (tx (x : List Nat × Val).1), valD x.2] ∧ (TxSm x.1 ∧ ValSm x.2)) i H') (Acc.start hD B1) (fun _ _ _ _ => trivial) ?_ ?_
      · rintro i x H5 H6 hi A ⟨rfl, rfl⟩
        refine ⟨rfl, tYes_of ?_⟩
        obtain ⟨_, _, _, _, _, _, B5, _⟩ := id A
        refine ⟨_, rfl, p, dl, rfl, B5, fun js H7 hjl hj B7 K7 => ?_⟩
        refine ⟨_, rfl, _, rfl, p, dl, m, rfl, B7, hm0, by omega, fun u y H8 du hy B8 K8 => ⟨sz_2, fun t ht => ?_⟩⟩
        have S9 := Same.new (o := .tup [.str (tx js), u]) ht
        exact A.put (by omega) hD B1 (B8.same S9) ((K7.trans K8).trans (Same.keep S9)) (Dt.made ht (.cons (.str _) (.cons du .nil))) ⟨(js, y), rfl, ⟨Nat.le_trans hjl (by decide), hj⟩, hy⟩
      · rintro H5 ⟨acc, ds, e5, a5, hl5, hp5, B5, K5⟩
        obtain ⟨xs, rfl, hxs⟩ := ex_map hp5
        rw [List.length_map] at hl5
        refine ⟨D, _, rfl, .inl ⟨SqL.of e5, fun t ht => ?_⟩⟩
        exact k _ (.X xs) _ (Dt.made ht a5) rfl ⟨by omega, hxs⟩ (B5.same (Same.new ht)) ((K1.trans K5).trans (Same.keep (Same.new ht)))
    · refine ⟨_, rfl, rfl, _, rfl, iteFb (by decide +kernel) ?_⟩
      refine ⟨_, rfl, rfl, _, rfl, iteFb (by decide +kernel) ?_⟩
      refine ⟨_, rfl, rfl, _, rfl, iteFb (by decide +kernel) ?_⟩
      refine ⟨_, rfl, rfl, _, rfl, iteFb (by decide +kernel) ?_⟩
      refine ⟨_, rfl, rfl, _, rfl, iteTb (by decide +kernel) ?_⟩
      exact ⟨_, rfl, p, dl, 3, rfl, rfl, B, fun v x H1 dv hx B1 K1 => k v (.t x) H1 dv rfl hx B1 K1⟩
    · refine ⟨_, rfl, rfl, _, rfl, iteFb (by decide +kernel) ?_⟩
      refine ⟨_, rfl, rfl, _, rfl, iteFb (by decide +kernel) ?_⟩
      refine ⟨_, rfl, rfl, _, rfl, iteFb (by decide +kernel) ?_⟩
      refine ⟨_, rfl, rfl, _, rfl, iteFb (by decide +kernel) ?_⟩
      refine ⟨_, rfl, rfl, _, rfl, iteFb (by decide +kernel) ?_⟩
      refine ⟨_, rfl, rfl, _, rfl, iteTb (by decide +kernel) ?_⟩
      refine ⟨_, rfl, p, dl, 1000, rfl, B, by decide, fun r1 H1 q0 q1 B1 K1 => ?_⟩
      refine ⟨_, _, rfl, rfl, .inr ⟨by decide, by decide⟩, _, rfl, p, dl, 1000, rfl, B1, by decide, fun r2 H2 q2 q3 B2 K2 => ?_⟩
      refine ⟨_, _, rfl, rfl, .inl ⟨_, rfl, _, rfl, _, _, rfl, rfl, by omega, ?_⟩⟩
      obtain ⟨j, hj⟩ : ∃ j : Nat, (r1 * 1000 + r2) % (m : Int) = (j : Int) := ⟨_, (Int.toNat_of_nonneg (Int.emod_nonneg _ (by omega))).symm⟩
      have hjm := Int.emod_lt_of_pos (r1 * 1000 + r2) (show (0 : Int) < m by omega)
      dsimp only
      rw [hj] at hjm ⊢
      exact k _ (.a j) _ (.int _) rfl (show j < m by omega) B2 (K1.trans K2)
    · refine ⟨_, rfl, rfl, _, rfl, iteFb (by decide +kernel) ?_⟩
      refine ⟨_, rfl, rfl, _, rfl, iteFb (by decide +kernel) ?_⟩
      refine ⟨_, rfl, rfl, _, rfl, iteFb (by decide +kernel) ?_⟩
      refine ⟨_, rfl, rfl, _, rfl, iteFb (by decide +kernel) ?_⟩
      refine ⟨_, rfl, rfl, _, rfl, iteFb (by decide +kernel) ?_⟩
      refine ⟨_, rfl, rfl, _, rfl, iteFb (by decide +kernel) ?_⟩
      refine ⟨_, rfl, rfl, _, rfl, iteTb (by decide +kernel) ?_⟩
      refine ⟨_, rfl, p, dl, 1000, rfl, B, by decide, fun r1 H1 q0 q1 B1 K1 => ?_⟩
      refine ⟨_, _, rfl, rfl, .inr ⟨by decide, by decide⟩, _, rfl, p, dl, 1000, rfl, B1, by decide, fun r2 H2 q2 q3 B2 K2 => ?_⟩
      refine ⟨_, _, rfl, rfl, .inl ⟨_, rfl, _, rfl, _, _, rfl, rfl, _, _, rfl, rfl, by omega, _, _, rfl, rfl, ?_⟩⟩
      have hj0 := Int.emod_nonneg (r1 * 1000 + r2) (show (m : Int) + 1 ≠ 0 by omega)
      have hjm := Int.emod_lt_of_pos (r1 * 1000 + r2) (show (0 : Int) < (m : Int) + 1 by omega)
      exact k _ (.b _) _ (.int _) rfl (show -1 ≤ (r1 * 1000 + r2) % ((m : Int) + 1) - 1 ∧ (r1 * 1000 + r2) % ((m : Int) + 1) - 1 < m by omega) B2 (K1.trans K2)
    · refine ⟨_, rfl, rfl, _, rfl, iteFb (by decide +kernel) ?_⟩
      refine ⟨_, rfl, rfl, _, rfl, iteFb (by decide +kernel) ?_⟩
      refine ⟨_, rfl, rfl, _, rfl, iteFb (by decide +kernel) ?_⟩
      refine ⟨_, rfl, rfl, _, rfl, iteFb (by decide +kernel) ?_⟩
      refine ⟨_, rfl, rfl, _, rfl, iteFb (by decide +kernel) ?_⟩
      refine ⟨_, rfl, rfl, _, rfl, iteFb (by decide +kernel) ?_⟩
      refine ⟨_, rfl, rfl, _, rfl, iteFb (by decide +kernel) ?_⟩
      refine ⟨_, rfl, rfl, _, rfl, iteTb (by decide +kernel) ?_⟩
      exact ⟨_, rfl, p, dl, rfl, B, fun i H1 hi B1 K1 => k _ (.n i) H1 (.int _) rfl hi B1 K1⟩
    · refine ⟨_, rfl, rfl, _, rfl, iteFb (by decide +kernel) ?_⟩
      refine ⟨_, rfl, rfl, _, rfl, iteFb (by decide +kernel) ?_⟩
      refine ⟨_, rfl, rfl, _, rfl, iteFb (by decide +kernel) ?_⟩
      refine ⟨_, rfl, rfl, _, rfl, iteFb (by decide +kernel) ?_⟩
      refine ⟨_, rfl, rfl, _, rfl, iteFb (by decide +kernel) ?_⟩
      refine ⟨_, rfl, rfl, _, rfl, iteFb (by decide +kernel) ?_⟩
      refine ⟨_, rfl, rfl, _, rfl, iteFb (by decide +kernel) ?_⟩
      refine ⟨_, rfl, rfl, _, rfl, iteFb (by decide +kernel) ?_⟩
      refine ⟨_, rfl, rfl, _, rfl, iteTb (by decide +kernel) ?_⟩
      exact ⟨_, rfl, p, dl, rfl, B, fun js H1 hl hj B1 K1 => k _ (.x js) H1 (.str _) rfl ⟨by omega, hj⟩ B1 K1⟩
    · refine ⟨_, rfl, rfl, _, rfl, iteFb (by decide +kernel) ?_⟩
      refine ⟨_, rfl, rfl, _, rfl, iteFb (by decide +kernel) ?_⟩
      refine ⟨_, rfl, rfl, _, rfl, iteFb (by decide +kernel) ?_⟩
      refine ⟨_, rfl, rfl, _, rfl, iteFb (by decide +kernel) ?_⟩
      refine ⟨_, rfl, rfl, _, rfl, iteFb (by decide +kernel) ?_⟩
      refine ⟨_, rfl, rfl, _, rfl, iteFb (by decide +kernel) ?_⟩
      refine ⟨_, rfl, rfl, _, rfl, iteFb (by decide +kernel) ?_⟩
      refine ⟨_, rfl, rfl, _, rfl, iteFb (by decide +kernel) ?_⟩
      refine ⟨_, rfl, rfl, _, rfl, iteFb (by decide +kernel) ?_⟩
      refine ⟨_, rfl, rfl, _, rfl, iteTb (by decide +kernel) ?_⟩
      refine ⟨_, rfl, p, dl, 5, rfl, B, by decide, fun kd H1 k0 k1 B1 K1 => ?_⟩
      refine ⟨_, rfl, _, _, rfl, rfl, _, rfl, ?_⟩
      refine ite3 (fun c => ?_) fun c => ?_
      · have c := of_decide_eq_true c
        refine ⟨sz_0, fun u1 h1 => ⟨sz_1, fun u2 h2 => ⟨sz_1, fun u3 h3 => ⟨sz_3, fun u4 h4 => ?_⟩⟩⟩⟩
        have s1 := Same.new (o := .tup []) h1
        have s2 := Same.new (o := .tup [.str "break"]) h2
        have s3 := Same.new (o := .tup [.str "continue"]) h3
        have s4 := Same.new (o := .lst [.ref u1, .ref u2, .ref u3]) h4
        have sA := ((s1.trans s2).trans s3).trans s4
        have d1 := Dt.made (K := K) h1 .nil
        have d2 := Dt.made (K := K) h2 (.cons (.str "break") .nil)
        have d3 := Dt.made (K := K) h3 (.cons (.str "continue") .nil)
        obtain rfl | rfl | rfl : kd = 0 ∨ kd = 1 ∨ kd = 2 := by omega
        · exact ⟨_, rfl, u4, _, _, _, rfl, rfl, SqL.of upd_same, at0, k _ .s0 _ (d1.mono ((s2.trans s3).trans s4)) rfl trivial (B1.same sA) (K1.trans (Same.keep sA))⟩
        · exact ⟨_, rfl, u4, _, _, _, rfl, rfl, SqL.of upd_same, at1, k _ (.s1 "break") _ (d2.mono (s3.trans s4)) rfl (.inl rfl) (B1.same sA) (K1.trans (Same.keep sA))⟩
        · exact ⟨_, rfl, u4, _, _, _, rfl, rfl, SqL.of upd_same, at2, k _ (.s1 "continue") _ (d3.mono s4) rfl (.inr rfl) (B1.same sA) (K1.trans (Same.keep sA))⟩
      · have c := of_decide_eq_false c
        refine ⟨sz_2, fun u1 h1 => ?_⟩
        have s1 := Same.new (o := .lst [.str "return", .str "raise"]) h1
        have fin : ∀ z : Str, (z = "return" ∨ z = "raise") → ∀ (v : V) (x : Val) H2, Dt K H2 v (valD x) → ValSm x → BoxAt H2 p dl → Keep p (upd H1 u1 (.lst [.str "return", .str "raise"])) H2 → ∀ t, H2 t = none → Q (.ref t) (upd H2 t (.tup [.str z, v])) := fun z hz v x H2 dv hx B2 K2 t ht =>
          k _ (.s2 z x) _ (Dt.made ht (.cons (.str z) (.cons dv .nil))) rfl ⟨hz, hx⟩ (B2.same (Same.new ht)) (((K1.trans (Same.keep s1)).trans K2).trans (Same.keep (Same.new ht)))
        obtain rfl | rfl : kd = 3 ∨ kd = 4 := by omega
        · exact ⟨_, rfl, _, _, rfl, rfl, u1, _, _, _, rfl, rfl, SqL.of upd_same, at0, _, rfl, _, rfl, p, dl, m, rfl, B1.same s1, hm0, by omega, fun v x H2 dv hx B2 K2 => ⟨sz_2, fin _ (.inl rfl) v x H2 dv hx B2 K2⟩⟩
        · exact ⟨_, rfl, _, _, rfl, rfl, u1, _, _, _, rfl, rfl, SqL.of upd_same, at1, _, rfl, _, rfl, p, dl, m, rfl, B1.same s1, hm0, by omega, fun v x H2 dv hx B2 K2 => ⟨sz_2, fin _ (.inr rfl) v x H2 dv hx B2 K2⟩⟩
--SPLIT
/-! a row of fields -/
def spShapeOf0 (K : PySem.W.Frag) : Sp := fun vs H Q _ => ∃ (p dl r : Addr) (kd : Str) (ls : List Nat) (m : Nat), vs = [.ref p, .ref r, .int (m : Int)] ∧ H r = some (.lst [.str kd, .str (S ls)]) ∧ (∀ c ∈ ls, c ∈ flds) ∧ ls.length ≤ 10 ∧ 0 < m ∧ m ≤ 10 ^ 6 ∧ BoxAt H p dl ∧
  ∀ v (fs : List Fld) H', Dt K H' v (.tuple (.str kd :: fs.map fldD)) → fs.map ltr = ls → (∀ f ∈ fs, FldSm m f) → BoxAt H' p dl → Keep p H H' → Q v H'
theorem row_ne {H : Hp} {p dl r : Addr} {kd ls : Str} (B : BoxAt H p dl) (e : H r = some (.lst [.str kd, .str ls])) : r ≠ p := fun h => by
  subst h
  obtain ⟨_, _, e2, _⟩ := B
  rw [e] at e2
  cases HO.lst.inj (Option.some.inj e2)
theorem ok_shapeof0 {f : Addr} {fd : FuncData} (F : Fun K "_law_shape_of" "_law_shape_of" s_law_shape_of f fd) (T : Txt K mg) (U_law_field : Use P w K mg base CX0 "_law_field" 7 P_law_field (spField0 K)) : FnG P w K mg base CX0 8 f fd P_law_shape_of (spShapeOf0 K) := by
  refine okG0 F sc_law_shape_of (fun vs H Q E h => ?_) fun cdv A outer s H vs Q E hr hg h => ?_
  · obtain ⟨p, dl, r, kd, ls, m, rfl, _⟩ := h
    rfl
  · obtain ⟨p, dl, r, kd, ls, m, rfl, er, hls, hll, hm0, hm, B, k⟩ := h
    refine ⟨_, (pss_cons (ps_set (i := 3) sc_law_shape_of.nd rfl (Or.inl rfl) (pe_tup (pa_cons (pe_ix ix_list (pv 1) pe_int (fun _ _ => rfl)) pa_nil)))
  (pss_cons (ps_for PassesOwn.never rfl (pi_str (pe_ix ix_list (pv 1) pe_int (fun _ _ => rfl))) (pg_name (i := 4) sc_law_shape_of.nd rfl (Or.inl rfl))
   (pss_one (ps_set (i := 3) sc_law_shape_of.nd rfl (Or.inl rfl) (pe_op op_catA (pv 3) (pe_tup (pa_cons (pe_use U_law_field (hr.mono (by decide)) hg rfl (pa_cons (pv 0) (pa_cons (pv 4) (pa_cons (pv 2) pa_nil)))) pa_nil))))))
  (pss_one (ps_ret (pv 3))))), ?_⟩
    have hrp := row_ne B er
    refine ⟨_, rfl, r, _, _, _, rfl, rfl, SqL.of er, at0, sz_1, fun u0 hu0 => ?_⟩
    have S0 := Same.new (o := .tup [.str kd]) hu0
    refine ⟨_, rfl, r, _, _, _, rfl, rfl, SqL.of (S0 _ _ er), at1, _, rfl, ?_⟩
    refine for_it walk_str (fun i σ H5 => ∃ (u : Addr) (fs : List Fld) (x4 : Option V), σ = [some (.ref p), some (.ref r), some (.int m), some (.ref u), x4] ∧ Dt K H5 (.ref u) (.tuple (.str kd :: fs.map fldD)) ∧ fs.map ltr = ls.take i ∧ (∀ f ∈ fs, FldSm m f) ∧ BoxAt H5 p dl ∧ Keep p H H5) ⟨u0, [], none, rfl, Dt.made hu0 (.cons (.str _) .nil), rfl, by simp, B.same S0, Same.keep S0⟩ (fun _ _ _ _ _ => trivial) ?_ ?_
    · rintro i x σ H5 H6 hi ⟨u, fs, x4, rfl, du, hf, hfs, B5, K5⟩ ⟨rfl, c, hc, rfl⟩
      have hc' : ls[i]? = some c := by simpa [S] using hc
      refine ⟨_, rfl, _, rfl, _, rfl, _, rfl, p, dl, c, m, rfl, hls c (List.mem_of_getElem? hc'), hm0, hm, B5, fun v x H7 dv hl hx B7 K7 => ⟨sz_1, fun t ht => ?_⟩⟩
      obtain ⟨_, xs, eu, hs, ha⟩ := du.tuple_inv
      cases eu
      have hxn : xs ≠ [] := by
        obtain ⟨_, _, rfl, _, _⟩ := ha.cons_inv
        simp
      have hxl := ha.length
      have hfl : fs.length ≤ 10 := by
        have := congrArg List.length hf
        rw [List.length_map, List.length_take] at this
        omega
      have kT := K7.keepT (K := K) B5.at_
      have S8 := Same.new (o := .tup [v]) ht
      refine ⟨u, t, xs, [v], rfl, rfl, Same.tupl S8 (kT _ _ hs), SqT.of upd_same, Nat.le_trans (show _ ≤ 100 by simp at hxl ⊢; omega) (by decide), fun h => absurd h hxn, (fun _ h => by cases h), fun _ _ q hq => ?_⟩
      have S9 := Same.new (o := .tup (xs ++ [v])) hq
      have dq := Dt.made hq (DtAll.app ((ha.keepT kT).mono S8) (.cons (dv.mono S8) .nil))
      refine ⟨q, fs ++ [x], _, rfl, by rw [List.map_append]; exact dq, ?_, fun f hf' => ?_, (B7.same S8).same S9, (K5.trans K7).trans (Same.keep (S8.trans S9))⟩
      · rw [List.map_append, hf, List.take_succ, hc', List.map_cons, hl]; rfl
      · rcases List.mem_append.mp hf' with h | h
        · exact hfs f h
        · rw [List.mem_singleton.mp h]; exact hx
    · rintro σ H5 ⟨u, fs, x4, rfl, du, hf, hfs, B5, K5⟩
      have hz : (S ls).cps.size = ls.length := by simp [S]
      rw [hz, List.take_length] at hf
      exact ⟨_, rfl, k _ fs _ du hf hfs B5 K5⟩
/-! tables -/
abbrev Tab := List (Str × List Nat)
/-- a list of rows: a kind, its letters -/
def TabAt (H : Hp) (tl : Addr) (tab : Tab) : Prop := ∃ rs : List Addr, H tl = some (.lst (rs.map V.ref)) ∧ rs.length = tab.length ∧ ∀ (i : Nat) (r : Addr), rs[i]? = some r → ∃ kd ls, tab[i]? = some (kd, ls) ∧ H r = some (.lst [.str kd, .str (S ls)])
theorem TabAt.mono {H H' : Hp} {tl : Addr} {tab : Tab} (h : TabAt H tl tab) (e : Same H H') : TabAt H' tl tab := by
  obtain ⟨rs, e1, e2, e3⟩ := h
  exact ⟨rs, e _ _ e1, e2, fun i r hr => let ⟨kd, ls, a, b⟩ := e3 i r hr; ⟨kd, ls, a, e _ _ b⟩⟩
theorem TabAt.keep {H H' : Hp} {tl p dl : Addr} {tab : Tab} (h : TabAt H tl tab) (B : BoxAt H p dl) (k : Keep p H H') : TabAt H' tl tab := by
  obtain ⟨rs, e1, e2, e3⟩ := h
  have hne : tl ≠ p := fun e => by
    subst e
    obtain ⟨ds, n, e4, _⟩ := B
    rw [e1] at e4
    match rs, HO.lst.inj (Option.some.inj e4) with
    | [_, _], e => cases (List.cons.inj (List.cons.inj e).2).1
  exact ⟨rs, k _ _ e1 hne, e2, fun i r hr => let ⟨kd, ls, a, b⟩ := e3 i r hr; ⟨kd, ls, a, k _ _ b (row_ne B b)⟩⟩
def TabOk (al : List Nat) (tab : Tab) : Prop := ∀ t ∈ tab, (∀ c ∈ t.2, c ∈ al) ∧ t.2.length ≤ 10
def spShape (K : PySem.W.Frag) : Sp := fun vs H Q _ => ∃ (p dl tl : Addr) (tab : Tab) (m : Nat), vs = [.ref p, .ref tl, .int (m : Int)] ∧ TabAt H tl tab ∧ tab ≠ [] ∧ tab.length ≤ 100 ∧ TabOk flds tab ∧ 0 < m ∧ m ≤ 10 ^ 6 ∧ BoxAt H p dl ∧
  ∀ v (kd : Str) (fs : List Fld) H', (kd, fs.map ltr) ∈ tab → Dt K H' v (.tuple (.str kd :: fs.map fldD)) → (∀ f ∈ fs, FldSm m f) → BoxAt H' p dl → Keep p H H' → Q v H'
theorem ok_shape {f : Addr} {fd : FuncData} (F : Fun K "_law_shape" "_law_shape" s_law_shape f fd) (T : Txt K mg) (U_law_draw : Use P w K mg base CX0 "_law_draw" 1 P_law_draw (spDraw K)) (U_law_shape_of : Use P w K mg base CX0 "_law_shape_of" 8 P_law_shape_of (spShapeOf0 K)) : FnG P w K mg base CX0 9 f fd P_law_shape (spShape K) := by
  refine okG0 F sc_law_shape (fun vs H Q E h => ?_) fun cdv A outer s H vs Q E hr hg h => ?_
  · obtain ⟨p, dl, tl, tab, m, rfl, _⟩ := h
    rfl
  · obtain ⟨p, dl, tl, tab, m, rfl, hT, hne, htl, hok, hm0, hm, B, k⟩ := h
    refine ⟨_, (pss_cons (ps_set (i := 3) sc_law_shape.nd rfl (Or.inl rfl) (pe_ix ix_list (pv 1) (pe_op op_mod (pe_callTy call_int1 (by rfl) T.b_int (by decide +kernel) (pa_cons (pe_op op_add (pe_op op_mul (pe_use U_law_draw (hr.mono (by decide)) hg rfl (pa_cons (pv 0) (pa_cons pe_int pa_nil))) pe_int) (pe_use U_law_draw (hr.mono (by decide)) hg rfl (pa_cons (pv 0) (pa_cons pe_int pa_nil)))) pa_nil)) (pe_callB call_len (by rfl) T.b_len PySem.boot_len (pa_cons (pv 1) pa_nil))) (fun _ _ => rfl)))
  (pss_one (ps_ret (pe_use U_law_shape_of (hr.mono (by decide)) hg rfl (pa_cons (pv 0) (pa_cons (pv 3) (pa_cons (pv 2) pa_nil))))))), ?_⟩
    refine ⟨_, rfl, _, rfl, p, dl, 1000, rfl, B, by decide, fun r1 H1 q0 q1 B1 K1 => ?_⟩
    refine ⟨_, _, rfl, rfl, .inr ⟨by decide, by decide⟩, _, rfl, p, dl, 1000, rfl, B1, by decide, fun r2 H2 q2 q3 B2 K2 => ?_⟩
    have hT2 := (hT.keep B K1).keep B1 K2
    obtain ⟨rs, e1, e2, e3⟩ := id hT2
    have hrl : 0 < rs.length := by rw [e2]; exact List.length_pos_iff.mpr hne
    refine ⟨_, _, rfl, rfl, .inl ⟨_, rfl, _, rfl, _, _, rfl, .inl ⟨_, SqL.of e1, rfl⟩, _, _, rfl, rfl, by rw [List.length_map]; omega, ?_⟩⟩
    obtain ⟨j, hj⟩ : ∃ j : Nat, (r1 * 1000 + r2) % (((rs.map V.ref).length : Nat) : Int) = (j : Int) := ⟨_, (Int.toNat_of_nonneg (Int.emod_nonneg _ (by rw [List.length_map]; omega))).symm⟩
    have hjm := Int.emod_lt_of_pos (r1 * 1000 + r2) (show (0 : Int) < (((rs.map V.ref).length : Nat) : Int) by rw [List.length_map]; omega)
    rw [hj, List.length_map] at hjm
    have hr2 : rs[j]? = some rs[j] := List.getElem?_eq_getElem (by omega)
    obtain ⟨kd, ls, et, er⟩ := e3 j _ hr2
    have hmem := List.mem_of_getElem? et
    obtain ⟨o1, o2⟩ := hok _ hmem
    dsimp only
    rw [hj]
    refine ⟨tl, _, _, _, rfl, rfl, SqL.of e1, atI_nat (by rw [List.getElem?_map, hr2]; rfl), ?_⟩
    refine ⟨_, rfl, _, rfl, _, rfl, p, dl, _, kd, ls, m, rfl, er, o1, o2, hm0, hm, B2, fun v fs H3 dv hf hfs B3 K3 => ?_⟩
    exact k v kd fs H3 (by rw [hf]; exact hmem) dv hfs B3 ((K1.trans K2).trans K3)
--SPLIT
/-! the tables themselves -/
def frTab : Tab := ([("neg", []), ("not", []), ("bin1", [120, 116, 97]), ("bin2", [120, 118]), ("and", [116, 97]), ("or", [116, 97]), ("choice", [116, 116, 97]), ("cmp1", [116, 97]), ("cmp2", [118, 120, 116, 97]), ("cmp3", [118, 116, 97]), ("attr", [120]), ("item1", [116, 97])] : Tab) ++ ([("item2", [118]), ("part1", [116, 116, 97]), ("part2", [118, 116, 97]), ("part3", [118, 118]), ("items", [120, 86, 116, 97]), ("dict1", [87, 116, 116, 97]), ("dict2", [87, 118, 116, 97]), ("call1", [116, 116, 97]), ("args", [118, 86, 116, 88, 116, 97]), ("rest", [116, 97]), ("drop", []), ("put", [116, 97])] : Tab) ++ ([("del1", [116, 97]), ("del2", [118]), ("ret", []), ("throw", []), ("if", [116, 116, 97]), ("while1", [116, 116, 97, 110]), ("while2", [116, 116, 97, 110]), ("for1", [116, 116, 97, 110]), ("for2", [116, 116, 97, 110]), ("for3", [118, 116, 116, 97, 110]), ("for4", [118, 116, 116, 97, 110]), ("for5", [118, 116, 116, 97, 110])] : Tab) ++ ([("def", [120, 116, 116, 116, 88, 116, 97]), ("class1", [120, 116, 116, 97]), ("class2", [120, 98, 97, 97]), ("catch", [116, 97]), ("match", [118, 116, 97]), ("handling", [118]), ("final", [116, 97]), ("after", [115]), ("giving", [116, 97]), ("sent", [116, 97]), ("setattr", [120, 118]), ("seti1", [116, 118, 97])] : Tab) ++ ([("seti2", [118, 118]), ("unpack", [116, 86, 97]), ("forget", []), ("body", [120, 110]), ("init", [118]), ("genbody", [97, 120, 110, 120]), ("begin", [116, 97]), ("want", [120]), ("print", [118, 86]), ("gather1", [120]), ("gather", [120, 118, 86]), ("default", [118])] : Tab)
def obTab : Tab := [("list", [86]), ("tuple", [86]), ("dict", [87]), ("scope", [88, 116, 116, 98, 116]), ("func", [120, 116, 88, 116, 116, 97]), ("class", [120, 98, 88]), ("inst", [97, 88]), ("bound", [118, 118]), ("iter", [118, 110, 110]), ("gen", [120, 120, 70])]
def coTab : Tab := [("eval", [116, 97]), ("exec", [116, 97]), ("store", [116, 118, 97]), ("call", [118, 86, 88]), ("resume", [97, 120, 118]), ("value", [118]), ("done", []), ("leave", [115]), ("give", [118]), ("ask", [120, 86])]
def frWlN : List (List Nat) := ([[110, 101, 103], [110, 111, 116], [98, 105, 110, 49, 32, 120, 116, 97], [98, 105, 110, 50, 32, 120, 118], [97, 110, 100, 32, 116, 97], [111, 114, 32, 116, 97], [99, 104, 111, 105, 99, 101, 32, 116, 116, 97], [99, 109, 112, 49, 32, 116, 97], [99, 109, 112, 50, 32, 118, 120, 116, 97], [99, 109, 112, 51, 32, 118, 116, 97], [97, 116, 116, 114, 32, 120], [105, 116, 101, 109, 49, 32, 116, 97]] : List (List Nat)) ++ ([[105, 116, 101, 109, 50, 32, 118], [112, 97, 114, 116, 49, 32, 116, 116, 97], [112, 97, 114, 116, 50, 32, 118, 116, 97], [112, 97, 114, 116, 51, 32, 118, 118], [105, 116, 101, 109, 115, 32, 120, 86, 116, 97], [100, 105, 99, 116, 49, 32, 87, 116, 116, 97], [100, 105, 99, 116, 50, 32, 87, 118, 116, 97], [99, 97, 108, 108, 49, 32, 116, 116, 97], [97, 114, 103, 115, 32, 118, 86, 116, 88, 116, 97], [114, 101, 115, 116, 32, 116, 97], [100, 114, 111, 112], [112, 117, 116, 32, 116, 97]] : List (List Nat)) ++ ([[100, 101, 108, 49, 32, 116, 97], [100, 101, 108, 50, 32, 118], [114, 101, 116], [116, 104, 114, 111, 119], [105, 102, 32, 116, 116, 97], [119, 104, 105, 108, 101, 49, 32, 116, 116, 97, 110], [119, 104, 105, 108, 101, 50, 32, 116, 116, 97, 110], [102, 111, 114, 49, 32, 116, 116, 97, 110], [102, 111, 114, 50, 32, 116, 116, 97, 110], [102, 111, 114, 51, 32, 118, 116, 116, 97, 110], [102, 111, 114, 52, 32, 118, 116, 116, 97, 110], [102, 111, 114, 53, 32, 118, 116, 116, 97, 110]] : List (List Nat)) ++ ([[100, 101, 102, 32, 120, 116, 116, 116, 88, 116, 97], [99, 108, 97, 115, 115, 49, 32, 120, 116, 116, 97], [99, 108, 97, 115, 115, 50, 32, 120, 98, 97, 97], [99, 97, 116, 99, 104, 32, 116, 97], [109, 97, 116, 99, 104, 32, 118, 116, 97], [104, 97, 110, 100, 108, 105, 110, 103, 32, 118], [102, 105, 110, 97, 108, 32, 116, 97], [97, 102, 116, 101, 114, 32, 115], [103, 105, 118, 105, 110, 103, 32, 116, 97], [115, 101, 110, 116, 32, 116, 97], [115, 101, 116, 97, 116, 116, 114, 32, 120, 118], [115, 101, 116, 105, 49, 32, 116, 118, 97]] : List (List Nat)) ++ ([[115, 101, 116, 105, 50, 32, 118, 118], [117, 110, 112, 97, 99, 107, 32, 116, 86, 97], [102, 111, 114, 103, 101, 116], [98, 111, 100, 121, 32, 120, 110], [105, 110, 105, 116, 32, 118], [103, 101, 110, 98, 111, 100, 121, 32, 97, 120, 110, 120], [98, 101, 103, 105, 110, 32, 116, 97], [119, 97, 110, 116, 32, 120], [112, 114, 105, 110, 116, 32, 118, 86], [103, 97, 116, 104, 101, 114, 49, 32, 120], [103, 97, 116, 104, 101, 114, 32, 120, 118, 86], [100, 101, 102, 97, 117, 108, 116, 32, 118]] : List (List Nat))
def frWd : Str := ("neg|not|bin1 xta|bin2 xv|and ta|or ta|choice tta|cmp1 ta|cmp2 vxta|cmp3 vta|attr x|item1 ta|item2 v|" : Str) ++ ("part1 tta|part2 vta|part3 vv|items xVta|dict1 Wtta|dict2 Wvta|call1 tta|args vVtXta|rest ta|drop|" : Str) ++ ("put ta|del1 ta|del2 v|ret|throw|if tta|while1 ttan|while2 ttan|for1 ttan|for2 ttan|for3 vttan|" : Str) ++ ("for4 vttan|for5 vttan|def xtttXta|class1 xtta|class2 xbaa|catch ta|match vta|handling v|final ta|" : Str) ++ ("after s|giving ta|sent ta|setattr xv|seti1 tva|seti2 vv|unpack tVa|forget|body xn|init v|" : Str) ++ ("genbody axnx|begin ta|want x|print vV|gather1 x|gather xvV|default v" : Str)
/-- rows made so far -/
def RowsAt (H : Hp) (rs : List Addr) (tab : Tab) : Prop := rs.length = tab.length ∧ ∀ (i : Nat) (r : Addr), rs[i]? = some r → ∃ kd ls, tab[i]? = some (kd, ls) ∧ H r = some (.lst [.str kd, .str (S ls)])
theorem RowsAt.nil {H : Hp} : RowsAt H [] [] := ⟨rfl, fun i r h => by simp at h⟩
theorem RowsAt.app {H : Hp} {rs : List Addr} {tab : Tab} {r : Addr} {kd z : Str} {ls : List Nat} (h : RowsAt H rs tab) (hr : H r = none) (hz : z = S ls) : RowsAt (upd H r (.lst [.str kd, .str z])) (rs ++ [r]) (tab ++ [(kd, ls)]) := by
  subst hz
  refine ⟨by simp [h.1], fun i q hq => ?_⟩
  rcases Nat.lt_trichotomy i rs.length with hi | hi | hi
  · rw [List.getElem?_append_left hi] at hq
    obtain ⟨kd', ls', a, b⟩ := h.2 i q hq
    exact ⟨kd', ls', by rw [List.getElem?_append_left (by rw [← h.1]; exact hi)]; exact a, by rw [upd_ne (ne_of_none b hr)]; exact b⟩
  · subst hi
    rw [List.getElem?_append_right (Nat.le_refl _), Nat.sub_self] at hq
    cases hq
    exact ⟨kd, ls, by rw [h.1, List.getElem?_append_right (Nat.le_refl _), Nat.sub_self]; rfl, upd_same⟩
  · have := (List.getElem?_eq_some_iff.mp hq).1
    simp at this
    omega
theorem RowsAt.mono {H H' : Hp} {rs : List Addr} {tab : Tab} (h : RowsAt H rs tab) (e : Same H H') : RowsAt H' rs tab := ⟨h.1, fun i r hr => let ⟨kd, ls, a, b⟩ := h.2 i r hr; ⟨kd, ls, a, e _ _ b⟩⟩
theorem RowsAt.tab {H : Hp} {rs : List Addr} {tab : Tab} {tl : Addr} (h : RowsAt H rs tab) (ht : H tl = none) : TabAt (upd H tl (.lst (rs.map V.ref))) tl tab := ⟨rs, upd_same, h.1, (h.mono (Same.new ht)).2⟩
def spTab (tab : Tab) : Sp := fun vs H Q _ => vs = [] ∧ ∀ tl H', Same H H' → TabAt H' tl tab → Q (.ref tl) H'
theorem ok_objects {f : Addr} {fd : FuncData} (F : Fun K "_law_objects" "_law_objects" s_law_objects f fd) (T : Txt K mg) : FnG P w K mg base CX0 1 f fd P_law_objects (spTab obTab) := by
  refine okG0 F sc_law_objects (fun vs H Q E h => ?_) fun cdv A outer s H vs Q E hr hg h => ?_
  · obtain ⟨rfl, _⟩ := h
    rfl
  · obtain ⟨rfl, k⟩ := h
    refine ⟨_, (pss_one (ps_ret (pe_lst (pa_cons (pe_lst (pa_cons pe_str (pa_cons pe_str pa_nil))) (pa_cons (pe_lst (pa_cons pe_str (pa_cons pe_str pa_nil))) (pa_cons (pe_lst (pa_cons pe_str (pa_cons pe_str pa_nil))) (pa_cons (pe_lst (pa_cons pe_str (pa_cons pe_str pa_nil))) (pa_cons (pe_lst (pa_cons pe_str (pa_cons pe_str pa_nil))) (pa_cons (pe_lst (pa_cons pe_str (pa_cons pe_str pa_nil))) (pa_cons (pe_lst (pa_cons pe_str (pa_cons pe_str pa_nil))) (pa_cons (pe_lst (pa_cons pe_str (pa_cons pe_str pa_nil))) (pa_cons (pe_lst (pa_cons pe_str (pa_cons pe_str pa_nil))) (pa_cons (pe_lst (pa_cons pe_str (pa_cons pe_str pa_nil))) pa_nil))))))))))))), ?_⟩
    refine ⟨sz_2, fun r0 h0 => ⟨sz_2, fun r1 h1 => ⟨sz_2, fun r2 h2 => ⟨sz_2, fun r3 h3 => ⟨sz_2, fun r4 h4 => ⟨sz_2, fun r5 h5 => ⟨sz_2, fun r6 h6 => ⟨sz_2, fun r7 h7 => ⟨sz_2, fun r8 h8 => ⟨sz_2, fun r9 h9 => ⟨(show 10 ≤ sizeLine by decide), fun tl htl => ?_⟩⟩⟩⟩⟩⟩⟩⟩⟩⟩⟩
    have R0 := (RowsAt.nil (H := H)).app (kd := "list") (ls := [86]) (z := "V") h0 (by decide +kernel)
    have R1 := R0.app (kd := "tuple") (ls := [86]) (z := "V") h1 (by decide +kernel)
    have R2 := R1.app (kd := "dict") (ls := [87]) (z := "W") h2 (by decide +kernel)
    have R3 := R2.app (kd := "scope") (ls := [88, 116, 116, 98, 116]) (z := "Xttbt") h3 (by decide +kernel)
    have R4 := R3.app (kd := "func") (ls := [120, 116, 88, 116, 116, 97]) (z := "xtXtta") h4 (by decide +kernel)
    have R5 := R4.app (kd := "class") (ls := [120, 98, 88]) (z := "xbX") h5 (by decide +kernel)
    have R6 := R5.app (kd := "inst") (ls := [97, 88]) (z := "aX") h6 (by decide +kernel)
    have R7 := R6.app (kd := "bound") (ls := [118, 118]) (z := "vv") h7 (by decide +kernel)
    have R8 := R7.app (kd := "iter") (ls := [118, 110, 110]) (z := "vnn") h8 (by decide +kernel)
    have R9 := R8.app (kd := "gen") (ls := [120, 120, 70]) (z := "xxF") h9 (by decide +kernel)
    exact k tl _ (((((((((((Same.new (o := .lst [.str "list", .str "V"]) h0).trans (Same.new (o := .lst [.str "tuple", .str "V"]) h1)).trans (Same.new (o := .lst [.str "dict", .str "W"]) h2)).trans (Same.new (o := .lst [.str "scope", .str "Xttbt"]) h3)).trans (Same.new (o := .lst [.str "func", .str "xtXtta"]) h4)).trans (Same.new (o := .lst [.str "class", .str "xbX"]) h5)).trans (Same.new (o := .lst [.str "inst", .str "aX"]) h6)).trans (Same.new (o := .lst [.str "bound", .str "vv"]) h7)).trans (Same.new (o := .lst [.str "iter", .str "vnn"]) h8)).trans (Same.new (o := .lst [.str "gen", .str "xxF"]) h9)).trans (Same.new htl)) (R9.tab htl)
theorem ok_controls {f : Addr} {fd : FuncData} (F : Fun K "_law_controls" "_law_controls" s_law_controls f fd) (T : Txt K mg) : FnG P w K mg base CX0 1 f fd P_law_controls (spTab coTab) := by
  refine okG0 F sc_law_controls (fun vs H Q E h => ?_) fun cdv A outer s H vs Q E hr hg h => ?_
  · obtain ⟨rfl, _⟩ := h
    rfl
  · obtain ⟨rfl, k⟩ := h
    refine ⟨_, (pss_one (ps_ret (pe_lst (pa_cons (pe_lst (pa_cons pe_str (pa_cons pe_str pa_nil))) (pa_cons (pe_lst (pa_cons pe_str (pa_cons pe_str pa_nil))) (pa_cons (pe_lst (pa_cons pe_str (pa_cons pe_str pa_nil))) (pa_cons (pe_lst (pa_cons pe_str (pa_cons pe_str pa_nil))) (pa_cons (pe_lst (pa_cons pe_str (pa_cons pe_str pa_nil))) (pa_cons (pe_lst (pa_cons pe_str (pa_cons pe_str pa_nil))) (pa_cons (pe_lst (pa_cons pe_str (pa_cons pe_str pa_nil))) (pa_cons (pe_lst (pa_cons pe_str (pa_cons pe_str pa_nil))) (pa_cons (pe_lst (pa_cons pe_str (pa_cons pe_str pa_nil))) (pa_cons (pe_lst (pa_cons pe_str (pa_cons pe_str pa_nil))) pa_nil))))))))))))), ?_⟩
    refine ⟨sz_2, fun r0 h0 => ⟨sz_2, fun r1 h1 => ⟨sz_2, fun r2 h2 => ⟨sz_2, fun r3 h3 => ⟨sz_2, fun r4 h4 => ⟨sz_2, fun r5 h5 => ⟨sz_2, fun r6 h6 => ⟨sz_2, fun r7 h7 => ⟨sz_2, fun r8 h8 => ⟨sz_2, fun r9 h9 => ⟨(show 10 ≤ sizeLine by decide), fun tl htl => ?_⟩⟩⟩⟩⟩⟩⟩⟩⟩⟩⟩
    have R0 := (RowsAt.nil (H := H)).app (kd := "eval") (ls := [116, 97]) (z := "ta") h0 (by decide +kernel)
    have R1 := R0.app (kd := "exec") (ls := [116, 97]) (z := "ta") h1 (by decide +kernel)
    have R2 := R1.app (kd := "store") (ls := [116, 118, 97]) (z := "tva") h2 (by decide +kernel)
    have R3 := R2.app (kd := "call") (ls := [118, 86, 88]) (z := "vVX") h3 (by decide +kernel)
    have R4 := R3.app (kd := "resume") (ls := [97, 120, 118]) (z := "axv") h4 (by decide +kernel)
    have R5 := R4.app (kd := "value") (ls := [118]) (z := "v") h5 (by decide +kernel)
    have R6 := R5.app (kd := "done") (ls := []) (z := "") h6 (by decide +kernel)
    have R7 := R6.app (kd := "leave") (ls := [115]) (z := "s") h7 (by decide +kernel)
    have R8 := R7.app (kd := "give") (ls := [118]) (z := "v") h8 (by decide +kernel)
    have R9 := R8.app (kd := "ask") (ls := [120, 86]) (z := "xV") h9 (by decide +kernel)
    exact k tl _ (((((((((((Same.new (o := .lst [.str "eval", .str "ta"]) h0).trans (Same.new (o := .lst [.str "exec", .str "ta"]) h1)).trans (Same.new (o := .lst [.str "store", .str "tva"]) h2)).trans (Same.new (o := .lst [.str "call", .str "vVX"]) h3)).trans (Same.new (o := .lst [.str "resume", .str "axv"]) h4)).trans (Same.new (o := .lst [.str "value", .str "v"]) h5)).trans (Same.new (o := .lst [.str "done", .str ""]) h6)).trans (Same.new (o := .lst [.str "leave", .str "s"]) h7)).trans (Same.new (o := .lst [.str "give", .str "v"]) h8)).trans (Same.new (o := .lst [.str "ask", .str "xV"]) h9)).trans (Same.new htl)) (R9.tab htl)
def frWl : List Str := frWlN.map S
theorem frWd_S : frWd = S (TL.joinL [124] frWlN) := by decide +kernel
theorem fr_split : Txt.split frWd "|" = frWl := by
  rw [frWd_S, show ("|" : Str) = S [124] by decide +kernel, split_S (by simp) (by decide), SX.spl_join (c := 124) (sep := []) (by decide) (by decide)]
  rfl
theorem fr_words : (List.zip frWl frTab).all (fun t => KWd.fin (KWd.scan t.1) == (if t.2.2 = [] then [t.2.1] else [t.2.1, S t.2.2])) = true := by decide +kernel
theorem fr_len : frWl.length = 60 ∧ frTab.length = 60 := by decide +kernel
theorem fr_word {i : Nat} {w : Str} (h : frWl[i]? = some w) : ∃ kd ls, frTab[i]? = some (kd, ls) ∧ Txt.words w = (if ls = [] then [kd] else [kd, S ls]) := by
  have hi := (List.getElem?_eq_some_iff.mp h).1
  rw [fr_len.1] at hi
  have hj : frTab[i]? = some (frTab[i]'(by rw [fr_len.2]; exact hi)) := List.getElem?_eq_getElem _
  generalize frTab[i]'_ = t at hj
  refine ⟨t.1, t.2, hj, ?_⟩
  have hz : (w, t) ∈ List.zip frWl frTab := by
    refine List.mem_of_getElem? (i := i) ?_
    rw [List.getElem?_zip_eq_some]
    exact ⟨h, hj⟩
  rw [KWd.words_scan]
  exact eq_of_beq (List.all_eq_true.mp fr_words _ hz)
theorem fr_wlN : ∀ l ∈ frWlN, l.length ≤ 1000 := by decide
theorem fr_wlen : ∀ z ∈ frWl, z.length ≤ 1000 := fun z hz => by
  obtain ⟨l, hl, rfl⟩ := List.mem_map.mp hz
  rw [S_len]; exact fr_wlN l hl
theorem frWd_len : frWd.length ≤ 1000 := by decide +kernel
--SPLIT
theorem ok_frames {f : Addr} {fd : FuncData} (F : Fun K "_law_frames" "_law_frames" s_law_frames f fd) (T : Txt K mg) : FnG P w K mg base CX0 1 f fd P_law_frames (spTab frTab) := by
  refine okG0 F sc_law_frames (fun vs H Q E h => ?_) fun cdv A outer s H vs Q E hr hg h => ?_
  · obtain ⟨rfl, _⟩ := h
    rfl
  · obtain ⟨rfl, k⟩ := h
    refine ⟨_, (pss_cons (ps_set (i := 0) sc_law_frames.nd rfl (Or.inl rfl) pe_str)
  (pss_cons (ps_set (i := 0) sc_law_frames.nd rfl (Or.inl rfl) (pe_op op_add_str (pv 0) pe_str))
  (pss_cons (ps_set (i := 0) sc_law_frames.nd rfl (Or.inl rfl) (pe_op op_add_str (pv 0) pe_str))
  (pss_cons (ps_set (i := 0) sc_law_frames.nd rfl (Or.inl rfl) (pe_op op_add_str (pv 0) pe_str))
  (pss_cons (ps_set (i := 0) sc_law_frames.nd rfl (Or.inl rfl) (pe_op op_add_str (pv 0) pe_str))
  (pss_cons (ps_set (i := 0) sc_law_frames.nd rfl (Or.inl rfl) (pe_op op_add_str (pv 0) pe_str))
  (pss_cons (ps_set (i := 1) sc_law_frames.nd rfl (Or.inl rfl) (pe_lst pa_nil))
  (pss_cons (ps_for PassesOwn.never rfl (pi_list (pe_bm PySem.F.plainAttrs_str PySem.F.slot_str_split PySem.F.type_str_split mt_split (pv 0) (pa_cons pe_str pa_nil))) (pg_name (i := 2) sc_law_frames.nd rfl (Or.inl rfl))
   (pss_cons (ps_set (i := 3) sc_law_frames.nd rfl (Or.inl rfl) (pe_bm0 PySem.F.plainAttrs_str PySem.F.slot_str_split PySem.F.type_str_split mt_split0 (pv 2)))
  (pss_one (ps_if (pt_cmpR op_eq (pe_callB call_len (by rfl) T.b_len PySem.boot_len (pa_cons (pv 3) pa_nil)) pe_int (nomark _))
   (pss_one (ps_expr (pe_bm PySem.F.plainAttrs_list PySem.F.slot_list_append PySem.F.type_list_append mt_append (pv 1) (pa_cons (pe_lst (pa_cons (pe_ix ix_list (pv 3) pe_int (fun _ _ => rfl)) (pa_cons pe_str pa_nil))) pa_nil))))
   (pss_one (ps_expr (pe_bm PySem.F.plainAttrs_list PySem.F.slot_list_append PySem.F.type_list_append mt_append (pv 1) (pa_cons (pe_lst (pa_cons (pe_ix ix_list (pv 3) pe_int (fun _ _ => rfl)) (pa_cons (pe_ix ix_list (pv 3) pe_int (fun _ _ => rfl)) pa_nil))) pa_nil))))))))
  (pss_one (ps_ret (pv 1))))))))))), ?_⟩
    refine ⟨_, rfl, _, _, rfl, rfl, by decide +kernel, _, rfl, _, _, rfl, rfl, by decide +kernel, _, rfl, _, _, rfl, rfl, by decide +kernel, _, rfl, _, _, rfl, rfl, by decide +kernel, _, rfl, _, _, rfl, rfl, by decide +kernel, ?_⟩
    refine ⟨sz_0, fun rl hrl => ?_⟩
    have S0 := Same.new (o := .lst []) hrl
    refine ⟨_, rfl, rfl, _, _, rfl, rfl, by decide +kernel, Nat.le_trans (Nat.add_le_add_right frWd_len 2) (by decide), fun lp hlp => ?_⟩
    rw [show (("neg|not|bin1 xta|bin2 xv|and ta|or ta|choice tta|cmp1 ta|cmp2 vxta|cmp3 vta|attr x|item1 ta|item2 v|" : Str) ++ ("part1 tta|part2 vta|part3 vv|items xVta|dict1 Wtta|dict2 Wvta|call1 tta|args vVtXta|rest ta|drop|" : Str) ++ ("put ta|del1 ta|del2 v|ret|throw|if tta|while1 ttan|while2 ttan|for1 ttan|for2 ttan|for3 vttan|" : Str) ++ ("for4 vttan|for5 vttan|def xtttXta|class1 xtta|class2 xbaa|catch ta|match vta|handling v|final ta|" : Str) ++ ("after s|giving ta|sent ta|setattr xv|seti1 tva|seti2 vv|unpack tVa|forget|body xn|init v|" : Str) ++ ("genbody axnx|begin ta|want x|print vV|gather1 x|gather xvV|default v" : Str) : Str) = frWd from rfl, fr_split]
    have S1 := Same.new (o := .lst (frWl.map V.str)) hlp
    have nrl : lp ≠ rl := fun e => by subst e; rw [upd_same] at hlp; cases hlp
    refine ⟨lp, rfl, ⟨_, SqL.of upd_same⟩, ?_⟩
    refine for_list (xs := frWl.map V.str) (fun i σ H5 => ∃ (rs : List Addr) (x2 x3 : Option V), σ = [some (.str frWd), some (.ref rl), x2, x3] ∧ H5 rl = some (.lst (rs.map V.ref)) ∧ RowsAt H5 rs (frTab.take i) ∧ H5 lp = some (.lst (frWl.map V.str)) ∧ Same H H5) ⟨[], none, none, rfl, S1 _ _ upd_same, RowsAt.nil, upd_same, S0.trans S1⟩ ?_ ?_ ?_
    · rintro i σ H5 hi ⟨rs, x2, x3, rfl, e5, R5, l5, S5⟩
      exact SqL.of l5
    · rintro i y σ H5 hy ⟨rs, x2, x3, rfl, e5, R5, l5, S5⟩
      rw [List.getElem?_map] at hy
      obtain ⟨w', hw, rfl⟩ := Option.map_eq_some_iff.mp hy
      obtain ⟨kd, ls, ht, hws⟩ := fr_word hw
      have hi : i < 60 := by rw [← fr_len.1]; exact (List.getElem?_eq_some_iff.mp hw).1
      have hrs : rs.length ≤ 60 := by rw [R5.1, List.length_take]; omega
      have hwl : w'.length ≤ 1000 := fr_wlen _ (List.mem_of_getElem? hw)
      have htk : frTab.take (i + 1) = frTab.take i ++ [(kd, ls)] := by rw [List.take_succ, ht]; rfl
      refine ⟨_, rfl, rfl, _, rfl, rfl, Nat.le_trans (Nat.add_le_add_right hwl 2) (by decide), fun q hq => ?_⟩
      rw [hws]
      have nqr : rl ≠ q := ne_of_none e5 hq
      have fin : ∀ (H6 : Hp) (r : Addr), Same H5 H6 → H6 r = none → ∃ (rs' : List Addr) (x2 x3 : Option V), ([some (.str frWd), some (.ref rl), some (.str w'), some (.ref q)] : L2.St) = [some (.str frWd), some (.ref rl), x2, x3] ∧ upd (upd H6 r (.lst [.str kd, .str (S ls)])) rl (.lst (rs.map V.ref ++ [.ref r])) rl = some (.lst (rs'.map V.ref)) ∧ RowsAt (upd (upd H6 r (.lst [.str kd, .str (S ls)])) rl (.lst (rs.map V.ref ++ [.ref r]))) rs' (frTab.take (i + 1)) ∧
          upd (upd H6 r (.lst [.str kd, .str (S ls)])) rl (.lst (rs.map V.ref ++ [.ref r])) lp = some (.lst (frWl.map V.str)) ∧ Same H (upd (upd H6 r (.lst [.str kd, .str (S ls)])) rl (.lst (rs.map V.ref ++ [.ref r]))) := fun H6 r S6 hr => by
        have R7 := (R5.mono S6).app (kd := kd) (ls := ls) (z := S ls) hr rfl
        have S7 := Same.new (o := .lst [.str kd, .str (S ls)]) hr
        rw [← htk] at R7
        refine ⟨rs ++ [r], _, _, rfl, by rw [upd_same, List.map_append]; rfl, ⟨R7.1, fun j z hz => ?_⟩, by rw [upd_ne nrl]; exact S7 _ _ (S6 _ _ l5), fun b o hb => ?_⟩
        · obtain ⟨kd', ls', a, b⟩ := R7.2 j z hz
          refine ⟨kd', ls', a, ?_⟩
          have hzr : z ≠ rl := fun e => by
            subst e
            rw [S7 _ _ (S6 _ _ e5)] at b
            have e := HO.lst.inj (Option.some.inj b)
            match rs, e with
            | [_, _], e => cases (List.cons.inj e).1
          rw [upd_ne hzr]; exact b
        · rw [upd_ne (ne_of_none hb hrl)]; exact S7 _ _ (S6 _ _ (S5 _ _ hb))
      by_cases h0 : ls = []
      · subst h0
        rw [if_pos rfl]
        have Sq := Same.new (o := .lst ([kd].map V.str)) hq
        refine ⟨_, rfl, _, _, rfl, .inl ⟨_, SqL.of upd_same, rfl⟩, rfl, _, rfl, iteTb (decide_eq_true rfl) ?_⟩
        refine ⟨_, rfl, .inl ⟨rfl, _, SqL.of (Sq _ _ e5)⟩, _, rfl, q, _, _, _, rfl, rfl, SqL.of upd_same, at0, sz_2, fun r hr => ⟨rl, _, _, rfl, rfl, Same.new hr _ _ (Sq _ _ e5), by rw [List.length_map]; exact Nat.lt_of_le_of_lt hrs (by decide), ?_⟩⟩
        exact fin _ r Sq hr
      · rw [if_neg h0]
        have Sq := Same.new (o := .lst ([kd, S ls].map V.str)) hq
        refine ⟨_, rfl, _, _, rfl, .inl ⟨_, SqL.of upd_same, rfl⟩, rfl, _, rfl, iteFb (decide_eq_false fun e => by cases e) ?_⟩
        refine ⟨_, rfl, .inl ⟨rfl, _, SqL.of (Sq _ _ e5)⟩, _, rfl, q, _, _, _, rfl, rfl, SqL.of upd_same, at0, _, rfl, q, _, _, _, rfl, rfl, SqL.of upd_same, at1, sz_2, fun r hr => ⟨rl, _, _, rfl, rfl, Same.new hr _ _ (Sq _ _ e5), by rw [List.length_map]; exact Nat.lt_of_le_of_lt hrs (by decide), ?_⟩⟩
        exact fin _ r Sq hr
    · rintro σ H5 ⟨rs, x2, x3, rfl, e5, R5, l5, S5⟩
      have e60 : frTab.take (frWl.map V.str).length = frTab := by rw [List.length_map, fr_len.1, ← fr_len.2, List.take_length]
      rw [e60] at R5
      exact ⟨_, rfl, k rl H5 S5 ⟨rs, e5, R5.1, R5.2⟩⟩

end

section
--SPLIT
end
abbrev s_law_row : Stmt := top 72
abbrev N_law_row : List Str := ["box", "size", "k"]
abbrev P_law_row : List Str := ["box"]
theorem sc_law_row : FnScope N_law_row P_law_row (defScope s_law_row) := ⟨rfl, rfl, rfl, by decide +kernel, rfl, by decide +kernel, by decide +kernel⟩
section
variable {P : Program} {w : World} {K : PySem.W.Frag} {mg : Str → Option Value} {base : Heap}
def spLRow (K : PySem.W.Frag) : Sp := fun vs H Q _ => ∃ (p dl : Addr), vs = [.ref p] ∧ BoxAt H p dl ∧ ∀ l H' ns, H l = none → BoxAt H' p dl → Keep p H H' → H' l = some (.lst (nV ns)) → ns.length ≤ 9 → Q (.ref l) H'
theorem ok_row {f : Addr} {fd : FuncData} (F : Fun K "_law_row" "_law_row" s_law_row f fd) (T : Txt K mg) (U_law_draw : Use P w K mg base CX0 "_law_draw" 1 P_law_draw (spDraw K)) : FnG P w K mg base CX0 2 f fd P_law_row (spLRow K) := by
  refine okG0 F sc_law_row (fun vs H Q E h => ?_) fun cdv A outer s H vs Q E hr hg h => ?_
  · obtain ⟨p, dl, rfl, _⟩ := h
    rfl
  · obtain ⟨p, dl, rfl, B, k⟩ := h
    refine ⟨_, (pss_cons (ps_set (i := 1) sc_law_row.nd rfl (Or.inl rfl) (pe_use U_law_draw (hr.mono (by decide)) hg rfl (pa_cons (pv 0) (pa_cons pe_int pa_nil))))
  (pss_one (ps_ret (pe_lc (own := [("k", 2)]) (g := (gName 2)) rfl sc_law_row.nd (pi_range1 (by rfl) T.b_range (pa_cons (pv 1) pa_nil)) (blkOk_by (N := N_law_row) (sc := defScope s_law_row) (by decide +kernel)) (fun _ _ _ _ _ => (pg_name (i := 2) sc_law_row.nd rfl (Or.inl rfl))) (fun _ _ _ _ _ => pts_nil) (fun _ _ _ _ _ => (pe_use U_law_draw (hr.mono (by decide)) hg rfl (pa_cons (pv 0) (pa_cons pe_int pa_nil)))))))), ?_⟩
    refine ⟨_, rfl, p, dl, 10, rfl, B, by decide, fun r H1 r0 r1 B1 K1 => ?_⟩
    obtain ⟨n, rfl⟩ := Int.eq_ofNat_of_zero_le r0
    refine ⟨_, rfl, n, rfl, by omega, by omega, fun D hD => ?_⟩
    rw [Int.toNat_natCast]
    obtain ⟨hDp, hDd⟩ := B1.ne_new hD
    have nD0 : H D = none := none_back0 K1 B1.at_ hD
    refine lc_it (walk_range (lo := 0) (n := n)) (fun i H' => ∃ ns : List Nat, H' D = some (.lst (nV ns)) ∧ ns.length = i ∧ BoxAt H' p dl ∧ Keep p H1 H') ⟨[], upd_same, rfl, B1.same (Same.new hD), Same.keep (Same.new hD)⟩ (fun _ _ _ _ => trivial) ?_ ?_
    · rintro i x H5 H6 hi ⟨ns, e5, hl5, B5, K5⟩ ⟨rfl, rfl⟩
      refine ⟨rfl, tYes_of ?_⟩
      refine ⟨_, rfl, p, dl, 301, rfl, B5, by decide, fun r H7 q0 q1 B7 K7 => ?_⟩
      obtain ⟨j, rfl⟩ := Int.eq_ofNat_of_zero_le q0
      have e7 := K7 _ _ e5 hDp
      refine ⟨nV ns, e7, ?_, ns ++ [j], ?_, by simp [hl5], B7.upd hDp hDd, fun b o e hb => ?_⟩
      · rw [nV_len]; exact Nat.lt_of_le_of_lt (show ns.length ≤ 10 by omega) (by decide)
      · rw [upd_same, nV_app]; rfl
      · rw [upd_ne (ne_of_none e hD)]; exact K7 _ _ (K5 _ _ e hb) hb
    · rintro H5 ⟨ns, e5, hl5, B5, K5⟩
      exact k D H5 ns nD0 B5 (K1.trans K5) e5 (by omega)
end

abbrev s_law_list_is : Stmt := top 47
abbrev N_law_list_is : List Str := ["actual", "due", "k"]
abbrev P_law_list_is : List Str := ["actual", "due"]
theorem sc_law_list_is : FnScope N_law_list_is P_law_list_is (defScope s_law_list_is) := ⟨rfl, rfl, rfl, by decide +kernel, rfl, by decide +kernel, by decide +kernel⟩
section
variable {P : Program} {w : World} {K : PySem.W.Frag} {mg : Str → Option Value} {base : Heap}
def spListIs (K : PySem.W.Frag) : Sp := fun vs H Q _ => ∃ (a b : Addr) (ns : List Int), vs = [.ref a, .ref b] ∧ H a = some (.lst (ns.map V.int)) ∧ H b = some (.lst (ns.map V.int)) ∧ ns.length ≤ 1000000 ∧ Q (.bl true) H
theorem ok_listis {f : Addr} {fd : FuncData} (F : Fun K "_law_list_is" "_law_list_is" s_law_list_is f fd) (T : Txt K mg) (U_law_is_integer : Use P w K mg base CX0 "_law_is_integer" 1 P_law_is_integer (spIsInt K)) : FnG P w K mg base CX0 2 f fd P_law_list_is (spListIs K) := by
  refine okG0 F sc_law_list_is (fun vs H Q E h => ?_) fun cdv A outer s H vs Q E hr hg h => ?_
  · obtain ⟨a, b, ns, rfl, _⟩ := h
    rfl
  · obtain ⟨a, b, ns, rfl, ea, eb, hl, k⟩ := h
    refine ⟨_, (pss_cons (ps_if (PW.pt (pw_or (pt_not (pt_val (pe_callB call_isi (by rfl) T.b_isinstance (by decide +kernel) (pa_cons (pv 0) (pa_cons (pe_bltn (v := .ty "list") (by rfl) T.b_list (by decide +kernel) rfl) pa_nil))))) (pw_or1 (pt_cmpR op_ne (pe_callB call_len (by rfl) T.b_len PySem.boot_len (pa_cons (pv 0) pa_nil)) (pe_callB call_len (by rfl) T.b_len PySem.boot_len (pa_cons (pv 1) pa_nil)) (nomark _)))))
   (pss_one (ps_ret pe_bl))
   pss_nil)
  (pss_cons (ps_for PassesOwn.never rfl (pi_range1 (by rfl) T.b_range (pa_cons (pe_callB call_len (by rfl) T.b_len PySem.boot_len (pa_cons (pv 1) pa_nil)) pa_nil)) (pg_name (i := 2) sc_law_list_is.nd rfl (Or.inl rfl))
   (pss_one (ps_if (PW.pt (pw_or (pt_not (pt_val (pe_use U_law_is_integer (hr.mono (by decide)) hg rfl (pa_cons (pe_ix ix_list (pv 0) (pv 2) (fun _ _ => rfl)) pa_nil)))) (pw_or1 (pt_cmpR op_ne (pe_ix ix_list (pv 0) (pv 2) (fun _ _ => rfl)) (pe_ix ix_list (pv 1) (pv 2) (fun _ _ => rfl)) (nomark _)))))
   (pss_one (ps_ret pe_bl))
   pss_nil)))
  (pss_one (ps_ret pe_bl)))), ?_⟩
    refine ⟨_, rfl, _, _, _, _, true, rfl, .ty _, .base (.lst ea), if_pos (beq_self_eq_true _), _, rfl, iteFb rfl ?_⟩
    refine ⟨_, rfl, _, _, rfl, .inl ⟨_, SqL.of ea, rfl⟩, _, rfl, _, _, rfl, .inl ⟨_, SqL.of eb, rfl⟩, rfl, _, rfl, ?_⟩
    rw [decide_eq_true rfl]
    refine iteFb rfl ?_
    refine ⟨_, rfl, _, _, rfl, .inl ⟨_, SqL.of eb, rfl⟩, _, rfl, by omega, by rw [List.length_map]; omega, ?_⟩
    rw [Int.toNat_natCast]
    refine for_range (lo := 0) (n := (ns.map V.int).length) (fun i σ H1 => ∃ x2, σ = [some (.ref a), some (.ref b), x2] ∧ H1 = H) ⟨none, rfl, rfl⟩ ?_ ?_
    · rintro i σ H1 hi ⟨x2, rfl, rfl⟩
      have hx : (ns.map V.int)[i]? = some (ns.map V.int)[i] := List.getElem?_eq_getElem hi
      have hv : (ns.map V.int)[i] = V.int (ns[i]'(by simpa using hi)) := List.getElem_map ..
      rw [hv] at hx
      generalize ns[i]'(by simpa using hi) = z at hx
      refine ⟨_, rfl, _, rfl, a, _, _, _, rfl, rfl, SqL.of ea, at_of' (j := i) (by omega) hx, z, rfl, true, rfl, iteFb rfl ?_⟩
      refine ⟨_, rfl, _, rfl, a, _, _, _, rfl, rfl, SqL.of ea, at_of' (j := i) (by omega) hx, _, rfl, _, rfl, b, _, _, _, rfl, rfl, SqL.of eb, at_of' (j := i) (by omega) hx, rfl, _, rfl, ?_⟩
      rw [decide_eq_true rfl]
      exact iteFb rfl ⟨_, rfl, rfl⟩
    · rintro σ H1 ⟨x2, rfl, rfl⟩
      exact k
end

abbrev s_law_pair_is : Stmt := top 49
abbrev N_law_pair_is : List Str := ["actual", "thing", "index"]
abbrev P_law_pair_is : List Str := ["actual", "thing", "index"]
theorem sc_law_pair_is : FnScope N_law_pair_is P_law_pair_is (defScope s_law_pair_is) := ⟨rfl, rfl, rfl, by decide +kernel, rfl, by decide +kernel, by decide +kernel⟩
section
variable {P : Program} {w : World} {K : PySem.W.Frag} {mg : Str → Option Value} {base : Heap}
def spPairT (K : PySem.W.Frag) : Sp := fun vs H Q _ => ∃ (q : Addr) (a th : V) (d : PyData) (m : Int), vs = [.ref q, th, .int m] ∧ SqT K H q [a, .int m] ∧ Dt K H a d ∧ Dt K H th d ∧ Wd 209 d ∧ Q (.bl true) H
theorem ok_pairt {f : Addr} {fd : FuncData} (F : Fun K "_law_pair_is" "_law_pair_is" s_law_pair_is f fd) (T : Txt K mg) (U_law_same : Use P w K mg base CX0 "_law_same" 211 P_law_same (spSameR K 210)) (U_law_is_integer : Use P w K mg base CX0 "_law_is_integer" 1 P_law_is_integer (spIsInt K)) : FnG P w K mg base CX0 212 f fd P_law_pair_is (spPairT K) := by
  refine okG0 F sc_law_pair_is (fun vs H Q E h => ?_) fun cdv A outer s H vs Q E hr hg h => ?_
  · obtain ⟨q, a, th, d, m, rfl, _⟩ := h
    rfl
  · obtain ⟨q, a, th, d, m, rfl, hq, da, dt, wd, k⟩ := h
    refine ⟨_, (pss_cons (ps_if (PW.pt (pw_or (pt_not (pt_val (pe_callB call_isi (by rfl) T.b_isinstance (by decide +kernel) (pa_cons (pv 0) (pa_cons (pe_bltn (v := .ty "tuple") (by rfl) T.b_tuple (by decide +kernel) rfl) pa_nil))))) (pw_or1 (pt_cmpR op_ne (pe_callB call_len (by rfl) T.b_len PySem.boot_len (pa_cons (pv 0) pa_nil)) pe_int (nomark _)))))
   (pss_one (ps_ret pe_bl))
   pss_nil)
  (pss_one (ps_ret (pe_and (pe_use U_law_same (hr.mono (by decide)) hg rfl (pa_cons (pe_ix ix_tup (pv 0) pe_int (fun _ _ => rfl)) (pa_cons (pv 1) pa_nil))) (pe_and (pe_use U_law_is_integer (hr.mono (by decide)) hg rfl (pa_cons (pe_ix ix_tup (pv 0) pe_int (fun _ _ => rfl)) pa_nil)) (pe_one (pe_cmpR op_eq (pe_ix ix_tup (pv 0) pe_int (fun _ _ => rfl)) (pv 2) (nomark _)))))))), ?_⟩
    refine ⟨_, rfl, _, _, _, _, true, rfl, .ty _, SqT.tyX hq, if_pos (beq_self_eq_true _), _, rfl, iteFb rfl ?_⟩
    refine ⟨_, rfl, _, _, rfl, .inr ⟨_, hq, rfl⟩, rfl, _, rfl, iteFb rfl ?_⟩
    refine ⟨_, rfl, q, _, _, _, rfl, rfl, hq, at0, _, rfl, a, th, d, rfl, da, dt, wd, _, rfl, iteTb rfl ?_⟩
    refine ⟨_, rfl, q, _, _, _, rfl, rfl, hq, at1, m, rfl, true, rfl, iteTb rfl ?_⟩
    refine ⟨_, rfl, q, _, _, _, rfl, rfl, hq, at1, _, rfl, rfl, ?_⟩
    rw [decide_eq_true rfl]
    exact k
--SPLIT
end

section
variable {P : Program} {w : World} {K : PySem.W.Frag} {mg : Str → Option Value} {base : Heap}
def natL (ns : List Nat) : List PyData := ns.map fun (d : Nat) => PyData.int (d : Int)
theorem eqvAll_nat : ∀ a b : List Nat, PyData.eqvAll (natL a) (natL b) = decide (a = b)
  | [], [] => by simp [natL, PyData.eqvAll]
  | [], _ :: _ => by simp [natL, PyData.eqvAll]
  | _ :: _, [] => by simp [natL, PyData.eqvAll]
  | x :: a, y :: b => by
    have ih := eqvAll_nat a b
    unfold natL at ih ⊢
    simp only [List.map_cons, PyData.eqvAll, PyData.eqv, ih]
    by_cases h : x = y
    · subst h; simp
    · simp [h]; intro h2; omega
theorem dp_nV {H : Hp} (ns : List Nat) : DpAll K H (nV ns) (natL ns) := by
  induction ns with
  | nil => exact .nil
  | cons d r ih => exact .cons (.int _) ih
theorem sh_natL (ns : List Nat) : SeqAt.shaped (.list (natL ns)) = true := by
  have h1 : PyData.canLayAll0 (natL ns) = true := canLayAll0_of fun d hd => by obtain ⟨z, _, rfl⟩ := List.mem_map.mp hd; rfl
  have h2 : PyData.depthAll (natL ns) ≤ 0 := depthAll_of fun d hd => by obtain ⟨z, _, rfl⟩ := List.mem_map.mp hd; exact Nat.zero_le _
  unfold SeqAt.shaped
  simp only [PyData.canLay0, PyData.depth, h1, Nat.le_zero.mp h2]
  rfl
theorem cut_nV (ns : List Nat) (n : Nat) : cutV (nV ns) none (some (n : Int)) = nV (ns.take n) := by
  unfold cutV
  rw [HT.sIx_nat, HT.sIx_none, List.drop_zero, Nat.sub_zero, nV_len]
  unfold nV
  rw [List.map_take]
  by_cases h : n ≤ ns.length
  · rw [Nat.min_eq_left h]
  · rw [Nat.min_eq_right (by omega), List.take_of_length_le (by simp), List.take_of_length_le (by simp; omega)]
theorem nV_int (ns : List Nat) : nV ns = (ns.map fun (d : Nat) => (d : Int)).map V.int := by unfold nV; rw [List.map_map]; rfl
end

section
def objectsL : List (Str × Str) := ([("list", "V"), ("tuple", "V"), ("dict", "W"), ("scope", "Xttbt"), ("func", "xtXtta"), ("class", "xbX"), ("inst", "aX"), ("bound", "vv"), ("iter", "vnn"), ("gen", "xxF")] : List (Str × Str))
def controlsL : List (Str × Str) := ([("eval", "ta"), ("exec", "ta"), ("store", "tva"), ("call", "vVX"), ("resume", "axv"), ("value", "v"), ("done", ""), ("leave", "s"), ("give", "v"), ("ask", "xV")] : List (Str × Str))
def fieldsL : List (Str × Str) := ([("neg", ""), ("not", ""), ("bin1", "xta"), ("bin2", "xv"), ("and", "ta"), ("or", "ta"), ("choice", "tta"), ("cmp1", "ta"), ("cmp2", "vxta"), ("cmp3", "vta"), ("attr", "x"), ("item1", "ta")] : List (Str × Str)) ++ ([("item2", "v"), ("part1", "tta"), ("part2", "vta"), ("part3", "vv"), ("items", "xVta"), ("dict1", "Wtta"), ("dict2", "Wvta"), ("call1", "tta"), ("args", "vVtXta"), ("rest", "ta"), ("drop", ""), ("put", "ta")] : List (Str × Str)) ++ ([("del1", "ta"), ("del2", "v"), ("ret", ""), ("throw", ""), ("if", "tta"), ("while1", "ttan"), ("while2", "ttan"), ("for1", "ttan"), ("for2", "ttan"), ("for3", "vttan"), ("for4", "vttan"), ("for5", "vttan")] : List (Str × Str)) ++ ([("def", "xtttXta"), ("class1", "xtta"), ("class2", "xbaa"), ("catch", "ta"), ("match", "vta"), ("handling", "v"), ("final", "ta"), ("after", "s"), ("giving", "ta"), ("sent", "ta"), ("setattr", "xv"), ("seti1", "tva")] : List (Str × Str)) ++ ([("seti2", "vv"), ("unpack", "tVa"), ("forget", ""), ("body", "xn"), ("init", "v"), ("genbody", "axnx"), ("begin", "ta"), ("want", "x"), ("print", "vV"), ("gather1", "x"), ("gather", "xvV"), ("default", "v")] : List (Str × Str))
theorem fields_at : frTab.all (fun t => valV (txtKV fieldsL) (.inr t.1) == some (.str (S t.2))) = true := by decide +kernel
theorem objects_at : obTab.all (fun t => valV (txtKV objectsL) (.inr t.1) == some (.str (S t.2))) = true := by decide +kernel
theorem controls_at : coTab.all (fun t => valV (txtKV controlsL) (.inr t.1) == some (.str (S t.2))) = true := by decide +kernel
theorem tab_val {fl : List (Str × Str)} {tab : Tab} (h : tab.all (fun t => valV (txtKV fl) (.inr t.1) == some (.str (S t.2))) = true) {kd : Str} {ls : List Nat} (hm : (kd, ls) ∈ tab) : valV (txtKV fl) (.inr kd) = some (.str (S ls)) :=
  eq_of_beq (List.all_eq_true.mp h _ hm)
theorem frTab_ok : TabOk flds frTab := by unfold TabOk; decide +kernel
theorem frTab_len : frTab.length ≤ 100 := by rw [fr_len.2]; decide
theorem frTab_ne : frTab ≠ [] := fun e => by have := fr_len.2; rw [e] at this; cases this
theorem obTab_ok : TabOk (70 :: flds) obTab := by unfold TabOk; decide +kernel
theorem coTab_ok : TabOk flds coTab := by unfold TabOk; decide +kernel
theorem frTab_nd : (frTab.map (·.1)).Nodup := by decide +kernel
end

section
variable {P : Program} {w : World} {K : PySem.W.Frag} {mg : Str → Option Value} {base : Heap}
/-! fields that hold frames -/
theorem FnG.up {CX : CXT} {j k : Nat} {f : Addr} {fd : FuncData} {ps : List Str} {sp : Sp} (F : FnG P w K mg base CX j f fd ps sp) (h : j ≤ k) : FnG P w K mg base CX k f fd ps sp where
  len := F.len
  run := fun A outer s H args us vs Q E hr hg he hb hv hs => F.run A outer s H args us vs Q E (hr.mono h) hg he hb hv hs
structure Fr where
  kd : Str
  fs : List Fld
inductive Fl2
  | one (x : Fld) | fr (l : List Fr)
def frD (f : Fr) : PyData := .tuple (.str f.kd :: f.fs.map fldD)
def fl2D : Fl2 → PyData
  | .one x => fldD x
  | .fr l => .tuple (l.map frD)
def ltr2 : Fl2 → Nat
  | .one x => ltr x
  | .fr _ => 70
def FrSm (m : Nat) (f : Fr) : Prop := (f.kd, f.fs.map ltr) ∈ frTab ∧ ∀ x ∈ f.fs, FldSm m x
def Fl2Sm (m : Nat) : Fl2 → Prop
  | .one x => FldSm m x
  | .fr l => l.length ≤ 2 ∧ ∀ f ∈ l, FrSm m f
def spField (K : PySem.W.Frag) : Sp := fun vs H Q _ => ∃ (p dl : Addr) (c m : Nat), vs = [.ref p, .str (S [c]), .int (m : Int)] ∧ c ∈ 70 :: flds ∧ 0 < m ∧ m ≤ 10 ^ 6 ∧ BoxAt H p dl ∧ ∀ v (x : Fl2) H', Dt K H' v (fl2D x) → ltr2 x = c → Fl2Sm m x → BoxAt H' p dl → Keep p H H' → Q v H'
def spFieldF (K : PySem.W.Frag) : Sp := fun vs H Q _ => ∃ (p dl : Addr) (m : Nat), vs = [.ref p, .str (S [70]), .int (m : Int)] ∧ 0 < m ∧ m ≤ 10 ^ 6 ∧ BoxAt H p dl ∧ ∀ v (l : List Fr) H', Dt K H' v (.tuple (l.map frD)) → Fl2Sm m (.fr l) → BoxAt H' p dl → Keep p H H' → Q v H'
theorem ok_fieldF {f : Addr} {fd : FuncData} (F : Fun K "_law_field" "_law_field" s_law_field f fd) (T : Txt K mg) (U_law_draw : Use P w K mg base CX0 "_law_draw" 1 P_law_draw (spDraw K)) (U_law_value : Use P w K mg base CX0 "_law_value" 3 P_law_value (spLVal K)) (U_law_name : Use P w K mg base CX0 "_law_name" 2 P_law_name (spName K))
    (U_law_number : Use P w K mg base CX0 "_law_number" 2 P_law_number (spNumb K)) (U_law_tree : Use P w K mg base CX0 "_law_tree" (2 + 4) P_law_tree (spTreeR K 4)) (U_law_frames : Use P w K mg base CX0 "_law_frames" 1 P_law_frames (spTab frTab)) (U_law_shape : Use P w K mg base CX0 "_law_shape" 9 P_law_shape (spShape K)) : FnG P w K mg base CX0 10 f fd P_law_field (spFieldF K) := by
  refine okG0 F sc_law_field (fun vs H Q E h => ?_) fun cdv A outer s H vs Q E hr hg h => ?_
  · obtain ⟨p, dl, m, rfl, _⟩ := h
    rfl
  · obtain ⟨p, dl, m, rfl, hm0, hm, B, k⟩ := h
    refine ⟨_, (pss_cons (ps_if (pt_cmpR op_eq (pv 1) pe_str (nomark _))
   (pss_one (ps_ret (pe_use U_law_value (hr.mono (by decide)) hg rfl (pa_cons (pv 0) (pa_cons (pv 2) pa_nil)))))
   pss_nil)
  (pss_cons (ps_if (pt_cmpR op_eq (pv 1) pe_str (nomark _))
   (pss_cons (ps_set (i := 3) sc_law_field.nd rfl (Or.inl rfl) (pe_use U_law_draw (hr.mono (by decide)) hg rfl (pa_cons (pv 0) (pa_cons pe_int pa_nil))))
  (pss_one (ps_ret (pe_callTy call_tuple_of (by rfl) T.b_tuple (by decide +kernel) (pa_cons (pe_lc (own := [("k", 4)]) (g := (gName 4)) rfl sc_law_field.nd (pi_range1 (by rfl) T.b_range (pa_cons (pv 3) pa_nil)) (blkOk_by (N := N_law_field) (sc := defScope s_law_field) (by decide +kernel)) (fun _ _ _ _ _ => (pg_name (i := 4) sc_law_field.nd rfl (Or.inl rfl))) (fun _ _ _ _ _ => pts_nil) (fun _ _ _ _ _ => (pe_use U_law_value (hr.mono (by decide)) hg rfl (pa_cons (pv 0) (pa_cons (pv 2) pa_nil))))) pa_nil)))))
   pss_nil)
  (pss_cons (ps_if (pt_cmpR op_eq (pv 1) pe_str (nomark _))
   (pss_cons (ps_set (i := 3) sc_law_field.nd rfl (Or.inl rfl) (pe_use U_law_draw (hr.mono (by decide)) hg rfl (pa_cons (pv 0) (pa_cons pe_int pa_nil))))
  (pss_one (ps_ret (pe_callTy call_tuple_of (by rfl) T.b_tuple (by decide +kernel) (pa_cons (pe_lc (own := [("k", 4)]) (g := (gName 4)) rfl sc_law_field.nd (pi_range1 (by rfl) T.b_range (pa_cons (pv 3) pa_nil)) (blkOk_by (N := N_law_field) (sc := defScope s_law_field) (by decide +kernel)) (fun _ _ _ _ _ => (pg_name (i := 4) sc_law_field.nd rfl (Or.inl rfl))) (fun _ _ _ _ _ => pts_nil) (fun _ _ _ _ _ => (pe_tup (pa_cons (pe_use U_law_value (hr.mono (by decide)) hg rfl (pa_cons (pv 0) (pa_cons (pv 2) pa_nil))) (pa_cons (pe_use U_law_value (hr.mono (by decide)) hg rfl (pa_cons (pv 0) (pa_cons (pv 2) pa_nil))) pa_nil))))) pa_nil)))))
   pss_nil)
  (pss_cons (ps_if (pt_cmpR op_eq (pv 1) pe_str (nomark _))
   (pss_cons (ps_set (i := 3) sc_law_field.nd rfl (Or.inl rfl) (pe_use U_law_draw (hr.mono (by decide)) hg rfl (pa_cons (pv 0) (pa_cons pe_int pa_nil))))
  (pss_one (ps_ret (pe_callTy call_tuple_of (by rfl) T.b_tuple (by decide +kernel) (pa_cons (pe_lc (own := [("k", 4)]) (g := (gName 4)) rfl sc_law_field.nd (pi_range1 (by rfl) T.b_range (pa_cons (pv 3) pa_nil)) (blkOk_by (N := N_law_field) (sc := defScope s_law_field) (by decide +kernel)) (fun _ _ _ _ _ => (pg_name (i := 4) sc_law_field.nd rfl (Or.inl rfl))) (fun _ _ _ _ _ => pts_nil) (fun _ _ _ _ _ => (pe_tup (pa_cons (pe_use U_law_name (hr.mono (by decide)) hg rfl (pa_cons (pv 0) pa_nil)) (pa_cons (pe_use U_law_value (hr.mono (by decide)) hg rfl (pa_cons (pv 0) (pa_cons (pv 2) pa_nil))) pa_nil))))) pa_nil)))))
   pss_nil)
  (pss_cons (ps_if (pt_cmpR op_eq (pv 1) pe_str (nomark _))
   (pss_one (ps_ret (pe_use U_law_tree (hr.mono (by decide)) hg rfl (pa_cons (pv 0) (pa_cons pe_int pa_nil)))))
   pss_nil)
  (pss_cons (ps_if (pt_cmpR op_eq (pv 1) pe_str (nomark _))
   (pss_one (ps_ret (pe_op op_mod (pe_callTy call_int1 (by rfl) T.b_int (by decide +kernel) (pa_cons (pe_op op_add (pe_op op_mul (pe_use U_law_draw (hr.mono (by decide)) hg rfl (pa_cons (pv 0) (pa_cons pe_int pa_nil))) pe_int) (pe_use U_law_draw (hr.mono (by decide)) hg rfl (pa_cons (pv 0) (pa_cons pe_int pa_nil)))) pa_nil)) (pv 2))))
   pss_nil)
  (pss_cons (ps_if (pt_cmpR op_eq (pv 1) pe_str (nomark _))
   (pss_one (ps_ret (pe_op op_sub (pe_op op_mod (pe_callTy call_int1 (by rfl) T.b_int (by decide +kernel) (pa_cons (pe_op op_add (pe_op op_mul (pe_use U_law_draw (hr.mono (by decide)) hg rfl (pa_cons (pv 0) (pa_cons pe_int pa_nil))) pe_int) (pe_use U_law_draw (hr.mono (by decide)) hg rfl (pa_cons (pv 0) (pa_cons pe_int pa_nil)))) pa_nil)) (pe_op op_add (pv 2) pe_int)) pe_int)))
   pss_nil)
  (pss_cons (ps_if (pt_cmpR op_eq (pv 1) pe_str (nomark _))
   (pss_one (ps_ret (pe_use U_law_number (hr.mono (by decide)) hg rfl (pa_cons (pv 0) pa_nil))))
   pss_nil)
  (pss_cons (ps_if (pt_cmpR op_eq (pv 1) pe_str (nomark _))
   (pss_one (ps_ret (pe_use U_law_name (hr.mono (by decide)) hg rfl (pa_cons (pv 0) pa_nil))))
   pss_nil)
  (pss_cons (ps_if (pt_cmpR op_eq (pv 1) pe_str (nomark _))
   (pss_cons (ps_set (i := 5) sc_law_field.nd rfl (Or.inl rfl) (pe_use U_law_draw (hr.mono (by decide)) hg rfl (pa_cons (pv 0) (pa_cons pe_int pa_nil))))
  (pss_cons (ps_if (pt_cmpR op_lt (pv 5) pe_int (nomark _))
   (pss_one (ps_ret (pe_ix ix_list (pe_lst (pa_cons (pe_tup pa_nil) (pa_cons (pe_tup (pa_cons pe_str pa_nil)) (pa_cons (pe_tup (pa_cons pe_str pa_nil)) pa_nil)))) (pv 5) (fun _ _ => rfl))))
   pss_nil)
  (pss_one (ps_ret (pe_tup (pa_cons (pe_ix ix_list (pe_lst (pa_cons pe_str (pa_cons pe_str pa_nil))) (pe_op op_sub (pv 5) pe_int) (fun _ _ => rfl)) (pa_cons (pe_use U_law_value (hr.mono (by decide)) hg rfl (pa_cons (pv 0) (pa_cons (pv 2) pa_nil))) pa_nil)))))))
   pss_nil)
  (pss_cons (ps_set (i := 3) sc_law_field.nd rfl (Or.inl rfl) (pe_use U_law_draw (hr.mono (by decide)) hg rfl (pa_cons (pv 0) (pa_cons pe_int pa_nil))))
  (pss_one (ps_ret (pe_callTy call_tuple_of (by rfl) T.b_tuple (by decide +kernel) (pa_cons (pe_lc (own := [("k", 4)]) (g := (gName 4)) rfl sc_law_field.nd (pi_range1 (by rfl) T.b_range (pa_cons (pv 3) pa_nil)) (blkOk_by (N := N_law_field) (sc := defScope s_law_field) (by decide +kernel)) (fun _ _ _ _ _ => (pg_name (i := 4) sc_law_field.nd rfl (Or.inl rfl))) (fun _ _ _ _ _ => pts_nil) (fun _ _ _ _ _ => (pe_use U_law_shape (hr.mono (by decide)) hg rfl (pa_cons (pv 0) (pa_cons (pe_use0 U_law_frames (hr.mono (by decide)) hg rfl) (pa_cons (pv 2) pa_nil)))))) pa_nil))))))))))))))), ?_⟩
    refine ⟨_, rfl, rfl, _, rfl, iteFb (by decide +kernel) ?_⟩
    refine ⟨_, rfl, rfl, _, rfl, iteFb (by decide +kernel) ?_⟩
    refine ⟨_, rfl, rfl, _, rfl, iteFb (by decide +kernel) ?_⟩
    refine ⟨_, rfl, rfl, _, rfl, iteFb (by decide +kernel) ?_⟩
    refine ⟨_, rfl, rfl, _, rfl, iteFb (by decide +kernel) ?_⟩
    refine ⟨_, rfl, rfl, _, rfl, iteFb (by decide +kernel) ?_⟩
    refine ⟨_, rfl, rfl, _, rfl, iteFb (by decide +kernel) ?_⟩
    refine ⟨_, rfl, rfl, _, rfl, iteFb (by decide +kernel) ?_⟩
    refine ⟨_, rfl, rfl, _, rfl, iteFb (by decide +kernel) ?_⟩
    refine ⟨_, rfl, rfl, _, rfl, iteFb (by decide +kernel) ?_⟩
    refine ⟨_, rfl, p, dl, 3, rfl, B, by decide, fun n H1 n0 n1 B1 K1 => ?_⟩
    obtain ⟨n, rfl⟩ := Int.eq_ofNat_of_zero_le n0
    refine ⟨_, rfl, n, rfl, by omega, by omega, fun D hD => ?_⟩
    rw [Int.toNat_natCast]
    refine lc_it (walk_range (lo := 0) (n := n)) (fun i H' => Acc K H1 D p dl (fun d => ∃ x, d = frD x ∧ FrSm m x) i H') (Acc.start hD B1) (fun _ _ _ _ => trivial) ?_ ?_
    · rintro i x H5 H6 hi A ⟨rfl, rfl⟩
      refine ⟨rfl, tYes_of ?_⟩
      obtain ⟨_, _, _, _, _, _, B5, _⟩ := id A
      refine ⟨_, rfl, rfl, fun tl H7 S7 T7 => ⟨_, rfl, p, dl, tl, frTab, m, rfl, T7, frTab_ne, frTab_len, frTab_ok, hm0, hm, B5.same S7, fun v kd fs H8 hmem dv hfs B8 K8 => ?_⟩⟩
      exact A.put (by omega) hD B1 B8 ((Same.keep S7).trans K8) dv ⟨⟨kd, fs⟩, rfl, hmem, hfs⟩
    · rintro H5 ⟨acc, ds, e5, a5, hl5, hp5, B5, K5⟩
      obtain ⟨xs, rfl, hxs⟩ := ex_map hp5
      rw [List.length_map] at hl5
      refine ⟨D, _, rfl, .inl ⟨SqL.of e5, fun t ht => ?_⟩⟩
      exact k _ xs _ (Dt.made ht a5) ⟨by omega, hxs⟩ (B5.same (Same.new ht)) ((K1.trans K5).trans (Same.keep (Same.new ht)))
theorem ok_field {f : Addr} {fd : FuncData} (F : Fun K "_law_field" "_law_field" s_law_field f fd) (T : Txt K mg) (U_law_draw : Use P w K mg base CX0 "_law_draw" 1 P_law_draw (spDraw K)) (U_law_value : Use P w K mg base CX0 "_law_value" 3 P_law_value (spLVal K)) (U_law_name : Use P w K mg base CX0 "_law_name" 2 P_law_name (spName K))
    (U_law_number : Use P w K mg base CX0 "_law_number" 2 P_law_number (spNumb K)) (U_law_tree : Use P w K mg base CX0 "_law_tree" (2 + 4) P_law_tree (spTreeR K 4)) (U_law_frames : Use P w K mg base CX0 "_law_frames" 1 P_law_frames (spTab frTab)) (U_law_shape : Use P w K mg base CX0 "_law_shape" 9 P_law_shape (spShape K)) : FnG P w K mg base CX0 10 f fd P_law_field (spField K) :=
  ((FnG.up (ok_field0 F T U_law_draw U_law_value U_law_name U_law_number U_law_tree) (by decide)).or (ok_fieldF F T U_law_draw U_law_value U_law_name U_law_number U_law_tree U_law_frames U_law_shape)).imp fun vs H Q E h => by
    obtain ⟨p, dl, c, m, rfl, hc, hm0, hm, B, k⟩ := h
    rcases List.mem_cons.mp hc with rfl | hc
    · exact .inr ⟨p, dl, m, rfl, hm0, hm, B, fun v l H' dv hl B' K' => k v (.fr l) H' dv rfl hl B' K'⟩
    · exact .inl ⟨p, dl, c, m, rfl, hc, hm0, hm, B, fun v x H' dv hl hx B' K' => k v (.one x) H' dv hl hx B' K'⟩
def spShapeOf (K : PySem.W.Frag) : Sp := fun vs H Q _ => ∃ (p dl r : Addr) (kd : Str) (ls : List Nat) (m : Nat), vs = [.ref p, .ref r, .int (m : Int)] ∧ H r = some (.lst [.str kd, .str (S ls)]) ∧ (∀ c ∈ ls, c ∈ 70 :: flds) ∧ ls.length ≤ 10 ∧ 0 < m ∧ m ≤ 10 ^ 6 ∧ BoxAt H p dl ∧
  ∀ v (fs : List Fl2) H', Dt K H' v (.tuple (.str kd :: fs.map fl2D)) → fs.map ltr2 = ls → (∀ f ∈ fs, Fl2Sm m f) → BoxAt H' p dl → Keep p H H' → Q v H'
theorem ok_shapeof {f : Addr} {fd : FuncData} (F : Fun K "_law_shape_of" "_law_shape_of" s_law_shape_of f fd) (T : Txt K mg) (U_law_field : Use P w K mg base CX0 "_law_field" 10 P_law_field (spField K)) : FnG P w K mg base CX0 11 f fd P_law_shape_of (spShapeOf K) := by
  refine okG0 F sc_law_shape_of (fun vs H Q E h => ?_) fun cdv A outer s H vs Q E hr hg h => ?_
  · obtain ⟨p, dl, r, kd, ls, m, rfl, _⟩ := h
    rfl
  · obtain ⟨p, dl, r, kd, ls, m, rfl, er, hls, hll, hm0, hm, B, k⟩ := h
    refine ⟨_, (pss_cons (ps_set (i := 3) sc_law_shape_of.nd rfl (Or.inl rfl) (pe_tup (pa_cons (pe_ix ix_list (pv 1) pe_int (fun _ _ => rfl)) pa_nil)))
  (pss_cons (ps_for PassesOwn.never rfl (pi_str (pe_ix ix_list (pv 1) pe_int (fun _ _ => rfl))) (pg_name (i := 4) sc_law_shape_of.nd rfl (Or.inl rfl))
   (pss_one (ps_set (i := 3) sc_law_shape_of.nd rfl (Or.inl rfl) (pe_op op_catA (pv 3) (pe_tup (pa_cons (pe_use U_law_field (hr.mono (by decide)) hg rfl (pa_cons (pv 0) (pa_cons (pv 4) (pa_cons (pv 2) pa_nil)))) pa_nil))))))
  (pss_one (ps_ret (pv 3))))), ?_⟩
    have hrp := row_ne B er
    refine ⟨_, rfl, r, _, _, _, rfl, rfl, SqL.of er, at0, sz_1, fun u0 hu0 => ?_⟩
    have S0 := Same.new (o := .tup [.str kd]) hu0
    refine ⟨_, rfl, r, _, _, _, rfl, rfl, SqL.of (S0 _ _ er), at1, _, rfl, ?_⟩
    refine for_it walk_str (fun i σ H5 => ∃ (u : Addr) (fs : List Fl2) (x4 : Option V), σ = [some (.ref p), some (.ref r), some (.int m), some (.ref u), x4] ∧ Dt K H5 (.ref u) (.tuple (.str kd :: fs.map fl2D)) ∧ fs.map ltr2 = ls.take i ∧ (∀ f ∈ fs, Fl2Sm m f) ∧ BoxAt H5 p dl ∧ Keep p H H5) ⟨u0, [], none, rfl, Dt.made hu0 (.cons (.str _) .nil), rfl, by simp, B.same S0, Same.keep S0⟩ (fun _ _ _ _ _ => trivial) ?_ ?_
    · rintro i x σ H5 H6 hi ⟨u, fs, x4, rfl, du, hf, hfs, B5, K5⟩ ⟨rfl, c, hc, rfl⟩
      have hc' : ls[i]? = some c := by simpa [S] using hc
      refine ⟨_, rfl, _, rfl, _, rfl, _, rfl, p, dl, c, m, rfl, hls c (List.mem_of_getElem? hc'), hm0, hm, B5, fun v x H7 dv hl hx B7 K7 => ⟨sz_1, fun t ht => ?_⟩⟩
      obtain ⟨_, xs, eu, hs, ha⟩ := du.tuple_inv
      cases eu
      have hxn : xs ≠ [] := by
        obtain ⟨_, _, rfl, _, _⟩ := ha.cons_inv
        simp
      have hxl := ha.length
      have hfl : fs.length ≤ 10 := by
        have := congrArg List.length hf
        rw [List.length_map, List.length_take] at this
        omega
      have kT := K7.keepT (K := K) B5.at_
      have S8 := Same.new (o := .tup [v]) ht
      refine ⟨u, t, xs, [v], rfl, rfl, Same.tupl S8 (kT _ _ hs), SqT.of upd_same, Nat.le_trans (show _ ≤ 100 by simp at hxl ⊢; omega) (by decide), fun h => absurd h hxn, (fun _ h => by cases h), fun _ _ q hq => ?_⟩
      have S9 := Same.new (o := .tup (xs ++ [v])) hq
      have dq := Dt.made hq (DtAll.app ((ha.keepT kT).mono S8) (.cons (dv.mono S8) .nil))
      refine ⟨q, fs ++ [x], _, rfl, by rw [List.map_append]; exact dq, ?_, fun f hf' => ?_, (B7.same S8).same S9, (K5.trans K7).trans (Same.keep (S8.trans S9))⟩
      · rw [List.map_append, hf, List.take_succ, hc', List.map_cons, hl]; rfl
      · rcases List.mem_append.mp hf' with h | h
        · exact hfs f h
        · rw [List.mem_singleton.mp h]; exact hx
    · rintro σ H5 ⟨u, fs, x4, rfl, du, hf, hfs, B5, K5⟩
      have hz : (S ls).cps.size = ls.length := by simp [S]
      rw [hz, List.take_length] at hf
      exact ⟨_, rfl, k _ fs _ du hf hfs B5 K5⟩
--SPLIT
end

section
--SPLIT
end
section
theorem tx_inj {a b : List Nat} (ha : ∀ j ∈ a, j < 95) (hb : ∀ j ∈ b, j < 95) (e : tx a = tx b) : a = b := by
  have e2 : (a.map ch).toArray = (b.map ch).toArray := congrArg Str.cps e
  have e3 : a.map ch = b.map ch := by simpa using e2
  clear e e2
  induction a generalizing b with
  | nil => cases b with
    | nil => rfl
    | cons j b => simp at e3
  | cons i a ih => cases b with
    | nil => simp at e3
    | cons j b =>
      rw [List.map_cons, List.map_cons] at e3
      obtain ⟨e1, e2⟩ := List.cons.inj e3
      rw [ch_inj (ha i (by simp)) (hb j (by simp)) e1, ih (fun z h => ha z (List.mem_cons_of_mem _ h)) (fun z h => hb z (List.mem_cons_of_mem _ h)) e2]
mutual
/-- the numbers of a tree that can be read -/
inductive TrR : PyData → List Nat → Prop
  | str (js : List Nat) : js.length ≤ 200 → (∀ j ∈ js, j < 95) → TrR (.str (tx js)) (1 :: strN js)
  | int (i : Int) : i.natAbs < 2 ^ 256 → TrR (.int i) (2 :: cnt (zig i))
  | bool (b : Bool) : TrR (.bool b) [3 + if b = true then 1 else 0]
  | tup (ds : List PyData) (ns : List Nat) : ds.length ≤ 1000 → TrRs ds ns → TrR (.tuple ds) (0 :: (cnt ds.length ++ ns))
inductive TrRs : List PyData → List Nat → Prop
  | nil : TrRs [] []
  | cons {d : PyData} {ds : List PyData} {a b : List Nat} : TrR d a → TrRs ds b → TrRs (d :: ds) (a ++ b)
end
mutual
theorem TrR.det : ∀ {d : PyData} {a b : List Nat}, TrR d a → TrR d b → a = b
  | _, _, _, .str js h1 h2, h => by
    generalize e : PyData.str (tx js) = d at h
    cases h with
    | str js' g1 g2 =>
      have := tx_inj h2 g2 (PyData.str.inj e)
      subst this
      rfl
    | int i g => cases e
    | bool b => cases e
    | tup ds ns g1 g2 => cases e
  | _, _, _, .int i h1, .int _ h => rfl
  | _, _, _, .bool b, .bool _ => rfl
  | _, _, _, .tup ds ns h1 h2, .tup _ ms g1 g2 => by rw [TrRs.det h2 g2]
theorem TrRs.det : ∀ {ds : List PyData} {a b : List Nat}, TrRs ds a → TrRs ds b → a = b
  | _, _, _, .nil, .nil => rfl
  | _, _, _, .cons h t, .cons g u => by rw [TrR.det h g, TrRs.det t u]
end
theorem trrs_of : ∀ {ds : List PyData} {ls : List (List Nat)}, ls.length = ds.length → (∀ (i : Nat) (d : PyData) (l : List Nat), ds[i]? = some d → ls[i]? = some l → TrR d l) → TrRs ds ls.flatten
  | [], [], _, _ => .nil
  | [], _ :: _, h, _ => by simp at h
  | _ :: _, [], h, _ => by simp at h
  | d :: ds, l :: ls, h, hp => by
    rw [List.flatten_cons]
    exact .cons (hp 0 d l rfl rfl) (trrs_of (by simpa using h) fun i e m he hm => hp (i + 1) e m (by simpa using he) (by simpa using hm))
theorem TrL.rd : ∀ {n : Nat} {d : PyData} {a : List Nat}, TrL n d a → TrR d a
  | _, _, _, .str js h1 h2 => .str js h1 h2
  | _, _, _, .int i h => .int i h
  | _, _, _, .bool b => .bool b
  | _, _, _, .tup ds ls h1 h2 h3 => .tup ds _ h1 (trrs_of h2 fun i d l hd hl => TrL.rd (h3 i d l hd hl))
/-- r tuples around are still allowed; the place of the first tuple beyond them -/
inductive Deep : Nat → PyData → List Nat → Nat → Prop
  | here {ds : List PyData} {a : List Nat} : TrR (.tuple ds) a → Deep 0 (.tuple ds) a 0
  | down {r : Nat} {es : List PyData} {d : PyData} {fs : List PyData} {ea da fa : List Nat} {pl : Nat} : TrRs es ea → PyData.depthAll es ≤ r → Deep r d da pl → TrRs fs fa → (es ++ d :: fs).length ≤ 1000 →
    Deep (r + 1) (.tuple (es ++ d :: fs)) (0 :: (cnt (es ++ d :: fs).length ++ (ea ++ (da ++ fa)))) (1 + (cnt (es ++ d :: fs).length).length + ea.length + pl)
theorem TrRs.app : ∀ {ds es : List PyData} {a b : List Nat}, TrRs ds a → TrRs es b → TrRs (ds ++ es) (a ++ b)
  | [], _, _, _, .nil, h => h
  | _ :: _, _, _, _, .cons (a := x) (b := y) h t, g => by
    rw [List.cons_append, List.append_assoc]
    exact .cons h (TrRs.app t g)
theorem Deep.rd {r : Nat} {d : PyData} {a : List Nat} {pl : Nat} (h : Deep r d a pl) : TrR d a := by
  induction h with
  | here h => exact h
  | down h1 h2 h3 h4 h5 ih => exact .tup _ _ h5 (TrRs.app h1 (.cons ih h4))
theorem Deep.dep {r : Nat} {d : PyData} {a : List Nat} {pl : Nat} (h : Deep r d a pl) : r + 1 ≤ d.depth := by
  induction h with
  | here h => rw [PyData.depth]; omega
  | @down r es d fs ea da fa pl h1 h2 h3 h4 h5 ih =>
    have : ∀ es : List PyData, d.depth ≤ PyData.depthAll (es ++ d :: fs) := fun es => by
      induction es with
      | nil => rw [List.nil_append, PyData.depthAll]; omega
      | cons e es ih => rw [List.cons_append, PyData.depthAll]; omega
    have := this es
    rw [PyData.depth]
    omega
/-- the trees still to be read, each with the tuples around it; where the refusal comes -/
inductive Rd : List (Nat × PyData) → List Nat → Option Nat → Prop
  | nil : Rd [] [] none
  | ok {l : Nat} {d : PyData} {a : List Nat} {ps : List (Nat × PyData)} {b : List Nat} {o : Option Nat} : TrR d a → l + d.depth ≤ 200 → Rd ps b o → Rd ((l, d) :: ps) (a ++ b) (o.map (a.length + ·))
  | bad {l : Nat} {d : PyData} {a : List Nat} {ps : List (Nat × PyData)} {b : List Nat} {pl : Nat} : l ≤ 200 → Deep (200 - l) d a pl → Rd ((l, d) :: ps) (a ++ b) (some pl)
theorem rd_oks : ∀ {ds : List PyData} {ms : List Nat} {l : Nat} {ps : List (Nat × PyData)} {b : List Nat} {o : Option Nat}, TrRs ds ms → l + PyData.depthAll ds ≤ 200 → Rd ps b o → Rd (ds.map (fun d => (l, d)) ++ ps) (ms ++ b) (o.map (ms.length + ·))
  | [], _, _, _, _, o, .nil, _, h => by
    cases o with
    | none => exact h
    | some z => rw [Option.map_some, List.length_nil, Nat.zero_add]; exact h
  | d :: ds, _, l, _, _, o, .cons (a := x) (b := y) h t, hl, g => by
    rw [PyData.depthAll] at hl
    have r := rd_oks (ds := ds) (l := l) t (by omega) g
    have q := Rd.ok (l := l) h (by omega) r
    rw [List.map_cons, List.cons_append, List.append_assoc]
    cases o with
    | none => exact q
    | some z =>
      rw [Option.map_some, Option.map_some] at q
      rw [Option.map_some, List.length_append, Nat.add_assoc]
      exact q
/-- a tuple is opened -/
theorem Rd.open_ {l : Nat} {ds : List PyData} {ps : List (Nat × PyData)} {ns : List Nat} {o : Option Nat} (h : Rd ((l, .tuple ds) :: ps) ns o) (hl : l < 200) :
    ∃ rest o', ns = 0 :: (cnt ds.length ++ rest) ∧ ds.length ≤ 1000 ∧ Rd (ds.map (fun d => (l + 1, d)) ++ ps) rest o' ∧ o = o'.map ((1 + (cnt ds.length).length) + ·) := by
  generalize e : (l, PyData.tuple ds) :: ps = qs at h
  cases h with
  | nil => cases e
  | @ok l' d' a ps' b o' h1 h2 h3 =>
    obtain ⟨e1, rfl⟩ := List.cons.inj e
    obtain ⟨rfl, rfl⟩ := Prod.mk.inj e1
    cases h1 with
    | tup _ ms g1 g2 =>
      rw [PyData.depth] at h2
      refine ⟨ms ++ b, o'.map (ms.length + ·), by simp, g1, rd_oks g2 (by omega) h3, ?_⟩
      cases o' with
      | none => rfl
      | some z =>
        simp only [Option.map_some, List.length_cons, List.length_append]
        congr 1
        omega
  | @bad l' d' a ps' b pl h1 h2 =>
    obtain ⟨e1, rfl⟩ := List.cons.inj e
    obtain ⟨rfl, rfl⟩ := Prod.mk.inj e1
    obtain ⟨r, hr⟩ : ∃ r, 200 - l = r + 1 := ⟨199 - l, by omega⟩
    rw [hr] at h2
    generalize e2 : PyData.tuple ds = dd at h2
    cases h2 with
    | @down _ es d fs ea da fa pl g1 g2 g3 g4 g5 =>
      obtain rfl := PyData.tuple.inj e2
      have q := rd_oks (ps := (l + 1, d) :: (fs.map (fun d => (l + 1, d)) ++ ps)) (l := l + 1) g1 (by omega) (Rd.bad (b := fa ++ b) (by omega) (by rw [show 200 - (l + 1) = r by omega]; exact g3))
      refine ⟨ea ++ (da ++ (fa ++ b)), some (ea.length + pl), by simp, g5, ?_, ?_⟩
      · rw [List.map_append, List.map_cons, List.append_assoc]
        exact q
      · rw [Option.map_some]
        congr 1
        omega
/-- a leaf is read -/
theorem Rd.leaf {l : Nat} {d : PyData} {ps : List (Nat × PyData)} {ns : List Nat} {o : Option Nat} (h : Rd ((l, d) :: ps) ns o) (hd : ∀ ds, d ≠ .tuple ds) : ∃ a b o', ns = a ++ b ∧ TrR d a ∧ Rd ps b o' ∧ o = o'.map (a.length + ·) := by
  generalize e : (l, d) :: ps = qs at h
  cases h with
  | nil => cases e
  | @ok l' d' a ps' b o' h1 h2 h3 =>
    obtain ⟨e1, rfl⟩ := List.cons.inj e
    obtain ⟨rfl, rfl⟩ := Prod.mk.inj e1
    exact ⟨a, b, o', rfl, h1, h3, rfl⟩
  | @bad l' d' a ps' b pl h1 h2 =>
    obtain ⟨e1, rfl⟩ := List.cons.inj e
    obtain ⟨rfl, rfl⟩ := Prod.mk.inj e1
    generalize 200 - l = r at h2
    cases h2 with
    | here h => exact absurd rfl (hd _)
    | down => exact absurd rfl (hd _)
/-- a tuple within 200 is refused where it begins -/
theorem Rd.over {ds : List PyData} {ps : List (Nat × PyData)} {ns : List Nat} {o : Option Nat} (h : Rd ((200, .tuple ds) :: ps) ns o) : o = some 0 := by
  generalize e : (200, PyData.tuple ds) :: ps = qs at h
  cases h with
  | nil => cases e
  | @ok l' d' a ps' b o' h1 h2 h3 =>
    obtain ⟨e1, rfl⟩ := List.cons.inj e
    obtain ⟨rfl, rfl⟩ := Prod.mk.inj e1
    rw [PyData.depth] at h2
    omega
  | @bad l' d' a ps' b pl h1 h2 =>
    obtain ⟨e1, rfl⟩ := List.cons.inj e
    obtain ⟨rfl, rfl⟩ := Prod.mk.inj e1
    cases h2 with
    | here h => rfl
/-- the tuples that are open: what they have, what they wait for behind the tree that is read -/
abbrev Stk := List (List PyData × List PyData)
def restOf : Stk → List (Nat × PyData)
  | [] => []
  | (dn, rs) :: st => rs.map (fun d => (st.length + 1, d)) ++ restOf st
def plug : Stk → PyData → PyData
  | [], d => d
  | (dn, rs) :: st, d => plug st (.tuple (dn ++ d :: rs))
/-- the tuples that end with this tree are closed -/
def closeF : Stk → PyData → Stk × PyData
  | (dn, []) :: st, d => closeF st (.tuple (dn ++ [d]))
  | st, d => (st, d)
theorem closeF_nil (d : PyData) : closeF [] d = ([], d) := by unfold closeF; rfl
theorem closeF_more (dn : List PyData) (r : PyData) (rs : List PyData) (st : Stk) (d : PyData) : closeF ((dn, r :: rs) :: st) d = ((dn, r :: rs) :: st, d) := by unfold closeF; rfl
theorem closeF_end (dn : List PyData) (st : Stk) (d : PyData) : closeF ((dn, []) :: st) d = closeF st (.tuple (dn ++ [d])) := by rw [closeF]
theorem closeF_rest : ∀ (st : Stk) (d : PyData), restOf (closeF st d).1 = restOf st ∧ plug (closeF st d).1 (closeF st d).2 = plug st d ∧ (closeF st d).1.length ≤ st.length ∧ (∀ dn rs st', (closeF st d).1 = (dn, rs) :: st' → rs ≠ [])
  | [], d => by rw [closeF_nil]; exact ⟨rfl, rfl, Nat.le_refl _, fun _ _ _ h => by cases h⟩
  | (dn, []) :: st, d => by
    rw [closeF_end]
    obtain ⟨h1, h2, h3, h4⟩ := closeF_rest st (.tuple (dn ++ [d]))
    refine ⟨?_, ?_, Nat.le_trans h3 (by simp), h4⟩
    · rw [h1]; rfl
    · rw [h2]; rfl
  | (dn, r :: rs) :: st, d => by
    rw [closeF_more]
    refine ⟨rfl, rfl, Nat.le_refl _, fun dn' rs' st' h => ?_⟩
    obtain ⟨e, _⟩ := List.cons.inj h
    obtain ⟨rfl, rfl⟩ := Prod.mk.inj e
    simp
--SPLIT
end

section
variable {P : Program} {w : World} {K : PySem.W.Frag} {mg : Str → Option Value} {base : Heap}
theorem all_ex {α β : Type} {R : α → β → Prop} : ∀ {ds : List α}, (∀ d ∈ ds, ∃ l, R d l) → ∃ ls : List β, ls.length = ds.length ∧ ∀ (i : Nat) (d : α) (l : β), ds[i]? = some d → ls[i]? = some l → R d l
  | [], _ => ⟨[], rfl, fun i d l h => by simp at h⟩
  | d :: ds, h => by
    obtain ⟨l, hl⟩ := h d (by simp)
    obtain ⟨ls, h1, h2⟩ := all_ex (R := R) (ds := ds) fun e he => h e (List.mem_cons_of_mem _ he)
    refine ⟨l :: ls, by simp [h1], fun i e m he hm => ?_⟩
    cases i with
    | zero =>
      have he := Option.some.inj he
      have hm := Option.some.inj hm
      subst he; subst hm
      exact hl
    | succ i => exact h2 i e m (by simpa using he) (by simpa using hm)
theorem flat_le {b : Nat} : ∀ {ls : List (List Nat)}, (∀ l ∈ ls, l.length ≤ b) → ls.flatten.length ≤ ls.length * b
  | [], _ => by simp
  | l :: ls, h => by
    have h1 := h l (by simp)
    have h2 := flat_le (ls := ls) fun x hx => h x (List.mem_cons_of_mem _ hx)
    rw [List.flatten_cons, List.length_append, List.length_cons, Nat.succ_mul]
    omega
/-- how many numbers a drawn tree has at most -/
def bnd : Nat → Nat
  | 0 => 60
  | n + 1 => 3 * bnd n + 60
theorem cnt_small {n : Nat} (h : n ≤ 1000) : (cnt n).length ≤ 3 := cnt_len 2 _ (Nat.lt_of_le_of_lt h (by decide))
theorem TreeD.le {n m : Nat} {d : PyData} (h : n ≤ m) (t : TreeD n d) : TreeD m d := by
  obtain ⟨k, rfl⟩ := Nat.le.dest h
  induction k with
  | zero => exact t
  | succ k ih => exact (ih (by omega)).up
theorem tree_wd {n : Nat} {d : PyData} (h : TreeD n d) : Wd n d := by
  induction h with
  | str js h1 h2 => exact .str _
  | int i h => exact .int _
  | bool b => exact .bool _
  | tup ds h1 _ ih => exact .tup (by omega) ih
theorem depthAll_le {n : Nat} : ∀ {ds : List PyData}, (∀ d ∈ ds, d.depth ≤ n) → PyData.depthAll ds ≤ n
  | [], _ => Nat.zero_le _
  | d :: ds, h => by
    rw [PyData.depthAll]
    have h1 := h d (by simp)
    have h2 := depthAll_le (ds := ds) fun e he => h e (List.mem_cons_of_mem _ he)
    omega
theorem tree_dep {n : Nat} {d : PyData} (h : TreeD n d) : d.depth ≤ n := by
  induction h with
  | str js h1 h2 => exact Nat.zero_le _
  | int i h => exact Nat.zero_le _
  | bool b => exact Nat.zero_le _
  | tup ds h1 _ ih =>
    rw [PyData.depth]
    have := depthAll_le ih
    omega
mutual
theorem TrR.trn : ∀ {d : PyData} {a : List Nat}, TrR d a → TrN d a
  | _, _, .str js h1 h2 => .str js (by omega) h2
  | _, _, .int i h => .int i (Nat.le_trans (Nat.le_of_lt h) (by decide +kernel))
  | _, _, .bool b => .bool b
  | _, _, .tup ds ns h1 h2 => .tup ds ns h1 h2.trn
theorem TrRs.trn : ∀ {ds : List PyData} {a : List Nat}, TrRs ds a → TrNs ds a
  | _, _, .nil => .nil
  | _, _, .cons h t => .cons h.trn t.trn
end
theorem tree_enc {n : Nat} {d : PyData} (h : TreeD n d) : ∃ ns, TrL n d ns ∧ ns.length ≤ bnd n := by
  have base : ∀ n, 60 ≤ bnd n := fun n => by cases n <;> simp only [bnd] <;> omega
  induction h with
  | @str n js h1 h2 =>
    refine ⟨_, .str js (by omega) h2, ?_⟩
    have := cnt_small (n := js.length) (by omega)
    have hb := base n
    simp only [List.length_cons, strN, List.length_append]
    omega
  | @int n i h =>
    refine ⟨_, .int i h, ?_⟩
    have := cnt_len 39 (zig i) (zig40 h)
    have hb := base n
    simp only [List.length_cons]
    omega
  | @bool n b => exact ⟨_, .bool b, Nat.le_trans (by simp) (base n)⟩
  | @tup n ds hl _ ih =>
    obtain ⟨ps, h1, h2⟩ := all_ex (R := fun d (p : List Nat) => TrL n d p ∧ p.length ≤ bnd n) ih
    refine ⟨0 :: (cnt ds.length ++ ps.flatten), .tup ds _ (by omega) h1 fun i d l hd hl => (h2 i d l hd hl).1, ?_⟩
    have hf := flat_le (b := bnd n) (ls := ps) fun l hl2 => by
      obtain ⟨i, hi, e⟩ := List.mem_iff_getElem.mp hl2
      have hd : ds[i]? = some (ds[i]'(by omega)) := List.getElem?_eq_getElem (by omega)
      exact (h2 i _ l hd (by rw [List.getElem?_eq_getElem hi, e])).2
    have hc := cnt_small (n := ds.length) (by omega)
    have h3 : ps.length * bnd n ≤ 3 * bnd n := Nat.mul_le_mul_right _ (by omega)
    simp only [List.length_cons, List.length_append, bnd]
    omega
end

section
--SPLIT
end
abbrev s_NumberReader___init__ : Stmt := inClass (top 39) 0
abbrev N_NumberReader___init__ : List Str := ["self", "numbers", "at"]
abbrev P_NumberReader___init__ : List Str := ["self", "numbers", "at"]
theorem sc_NumberReader___init__ : FnScope N_NumberReader___init__ P_NumberReader___init__ (defScope s_NumberReader___init__) := ⟨rfl, rfl, rfl, by decide +kernel, rfl, by decide +kernel, by decide +kernel⟩
abbrev s_NumberReader_read_number : Stmt := inClass (top 39) 1
abbrev N_NumberReader_read_number : List Str := ["self", "end", "number"]
abbrev P_NumberReader_read_number : List Str := ["self", "end"]
theorem sc_NumberReader_read_number : FnScope N_NumberReader_read_number P_NumberReader_read_number (defScope s_NumberReader_read_number) := ⟨rfl, rfl, rfl, by decide +kernel, rfl, by decide +kernel, by decide +kernel⟩
abbrev s_NumberReader_read_count : Stmt := inClass (top 39) 3
abbrev N_NumberReader_read_count : List Str := ["self", "count", "place", "digit"]
abbrev P_NumberReader_read_count : List Str := ["self"]
theorem sc_NumberReader_read_count : FnScope N_NumberReader_read_count P_NumberReader_read_count (defScope s_NumberReader_read_count) := ⟨rfl, rfl, rfl, by decide +kernel, rfl, by decide +kernel, by decide +kernel⟩
section
variable {P : Program} {w : World} {K : PySem.W.Frag} {mg : Str → Option Value} {base : Heap}
abbrev fR : List Str := ["numbers", "at", "references"]
def rf (n a r : V) : List (Str × V) := [("numbers", n), ("at", a), ("references", r)]
theorem rf_numbers {n a r : V} : (rf n a r).lookup ("numbers" : Str) = some n := by rfl
theorem rf_at {n a r : V} : (rf n a r).lookup ("at" : Str) = some a := by rfl
theorem rf_refs {n a r : V} : (rf n a r).lookup ("references" : Str) = some r := by rfl
theorem rf_set {n a r x : V} : putF "at" x (rf n a r) = rf n x r := by rfl
def spRInit (C : Addr) : Sp := fun vs H Q _ => ∃ (p dx nl : Addr) (a : Int), vs = [.ref p, .ref nl, .int a] ∧ H p = some (.ins C dx []) ∧ ∀ rl H', H rl = none → H' rl = some (.lst []) → H' p = some (.ins C dx (rf (.ref nl) (.int a) (.ref rl))) → (∀ b u, H b = some u → b ≠ p → H' b = some u) → Q .non H'
theorem ok_rinit {C : Addr} {f : Addr} {fd : FuncData} (F : Fun K "__init__" "NumberReader.__init__" s_NumberReader___init__ f fd) (T : Txt K mg) (UC_NumberReader : UseC K mg "NumberReader" fR C) : FnOk P w K mg base CX0 1 f fd P_NumberReader___init__ (spRInit C) := by
  refine F.ok sc_NumberReader___init__ (fun vs H Q E h => ?_) fun cdv A outer s H vs Q E hr h => ?_
  · obtain ⟨p, dx, nl, a, rfl, _⟩ := h
    rfl
  · obtain ⟨p, dx, nl, a, rfl, hp, k⟩ := h
    refine ⟨_, (pss_cons (ps_fd UC_NumberReader (by decide +kernel) (pv 0) (pv 1))
  (pss_cons (ps_fd UC_NumberReader (by decide +kernel) (pv 0) (pv 2))
  (pss_one (ps_fd UC_NumberReader (by decide +kernel) (pv 0) (pe_lst pa_nil))))), ?_⟩
    refine ⟨_, rfl, _, rfl, p, dx, _, rfl, hp, Nat.le_of_ble_eq_true rfl, ?_⟩
    refine ⟨_, rfl, _, rfl, p, dx, _, rfl, upd_same, Nat.le_of_ble_eq_true rfl, ?_⟩
    refine ⟨sz_0, fun rl hrl => ?_⟩
    have np : rl ≠ p := fun e => (by subst e; rw [upd_same] at hrl; cases hrl)
    refine ⟨_, rfl, p, dx, _, rfl, by rw [upd_ne np.symm]; exact upd_same, Nat.le_of_ble_eq_true rfl, ?_⟩
    rw [upd_ne np, upd_ne np] at hrl
    refine k rl _ hrl (by rw [upd_ne np]; exact upd_same) (by rw [upd_same]; rfl) fun b u e1 hb => ?_
    rw [upd_ne hb, upd_ne (ne_of_none e1 hrl), upd_ne hb, upd_ne hb]
    exact e1
def spRNum (C : Addr) : Sp := fun vs H Q _ => ∃ (p dx nl rl : Addr) (ns : List Nat) (i d m : Nat), vs = [.ref p, .int (m : Int)] ∧ H p = some (.ins C dx (rf (.ref nl) (.int (i : Int)) (.ref rl))) ∧ H nl = some (.lst (nV ns)) ∧ ns[i]? = some d ∧ d < m ∧
  Q (.int (d : Int)) (upd H p (.ins C dx (rf (.ref nl) (.int ((i + 1 : Nat) : Int)) (.ref rl))))
theorem ok_rnum {C : Addr} {f : Addr} {fd : FuncData} (F : Fun K "read_number" "NumberReader.read_number" s_NumberReader_read_number f fd) (T : Txt K mg) (UC_NumberReader : UseC K mg "NumberReader" fR C) : FnG P w K mg base CX0 1 f fd P_NumberReader_read_number (spRNum C) := by
  refine okG0 F sc_NumberReader_read_number (fun vs H Q E h => ?_) fun cdv A outer s H vs Q E hr hg h => ?_
  · obtain ⟨p, dx, nl, rl, ns, i, d, m, rfl, _⟩ := h
    rfl
  · obtain ⟨p, dx, nl, rl, ns, i, d, m, rfl, hp, hn, hd, hm, k⟩ := h
    refine ⟨_, (pss_cons (ps_if (pt_cmpR op_ge (pe_fd UC_NumberReader (by decide +kernel) (pv 0)) (pe_callB call_len (by rfl) T.b_len PySem.boot_len (pa_cons (pe_fd UC_NumberReader (by decide +kernel) (pv 0)) pa_nil)) (nomark _))
   pss_never
   pss_nil)
  (pss_cons (ps_set (i := 2) sc_NumberReader_read_number.nd rfl (Or.inl rfl) (pe_ix ix_list (pe_fd UC_NumberReader (by decide +kernel) (pv 0)) (pe_fd UC_NumberReader (by decide +kernel) (pv 0)) (fun _ _ => rfl)))
  (pss_cons (ps_if (PW.pt (pw_or (pt_cmpR op_lt (pv 2) pe_int (nomark _)) (pw_or1 (pt_cmpR op_ge (pv 2) (pv 1) (nomark _)))))
   pss_never
   pss_nil)
  (pss_cons (ps_fdaug UC_NumberReader (by decide +kernel) (pv 0) pe_int iop_add)
  (pss_one (ps_ret (pv 2))))))), ?_⟩
    have hi : i < ns.length := (List.getElem?_eq_some_iff.mp hd).1
    refine ⟨_, rfl, p, dx, _, _, rfl, hp, rf_at, _, rfl, p, dx, _, _, rfl, hp, rf_numbers, _, _, rfl, .inl ⟨_, SqL.of hn, rfl⟩, _, _, rfl, rfl, _, rfl, iteFb (decide_eq_false (by rw [nV_len]; omega)) ?_⟩
    refine ⟨_, rfl, p, dx, _, _, rfl, hp, rf_numbers, _, rfl, p, dx, _, _, rfl, hp, rf_at, nl, _, _, _, rfl, rfl, SqL.of hn, at_of' (j := i) rfl (nV_get hd), ?_⟩
    refine ⟨_, rfl, _, _, rfl, rfl, _, rfl, iteFb (decide_eq_false (by omega)) ?_⟩
    refine ⟨_, rfl, _, rfl, _, _, rfl, rfl, _, rfl, iteFb (decide_eq_false (by omega)) ?_⟩
    refine ⟨_, rfl, p, dx, _, _, rfl, hp, rf_at, _, _, rfl, rfl, dx, _, hp, Nat.le_of_ble_eq_true rfl, ?_⟩
    exact ⟨_, rfl, k⟩
theorem shl_val (c d j : Nat) : (c : Int) + ((d : Int) % 128) * 2 ^ ((7 * (0 + (j : Int))).toNat) = ((c + d % 128 * 128 ^ j : Nat) : Int) := by
  have e : (7 * (0 + (j : Int))).toNat = 7 * j := by omega
  have p : (128 : Nat) ^ j = 2 ^ (7 * j) := by rw [Nat.pow_mul]
  rw [e, p]
  simp only [Int.natCast_add, Int.natCast_mul, Int.natCast_emod, Int.natCast_pow]
  rfl
def spRCnt (C : Addr) : Sp := fun vs H Q _ => ∃ (p dx nl rl : Addr) (ns tl : List Nat) (i n : Nat), vs = [.ref p] ∧ H p = some (.ins C dx (rf (.ref nl) (.int (i : Int)) (.ref rl))) ∧ H nl = some (.lst (nV ns)) ∧ ns.drop i = cnt n ++ tl ∧ n < 128 ^ 40 ∧
  ∀ H', H' p = some (.ins C dx (rf (.ref nl) (.int ((i + (cnt n).length : Nat) : Int)) (.ref rl))) → (∀ b o, H b = some o → b ≠ p → H' b = some o) → Q (.int (n : Int)) H'
theorem ok_rcnt {C : Addr} {f : Addr} {fd : FuncData} (F : Fun K "read_count" "NumberReader.read_count" s_NumberReader_read_count f fd) (T : Txt K mg) (UC_NumberReader : UseC K mg "NumberReader" fR C) (U_NumberReader_read_number : UseM P w K mg base CX0 C "read_number" 1 P_NumberReader_read_number (spRNum C)) :
    FnG P w K mg base CX0 2 f fd P_NumberReader_read_count (spRCnt C) := by
  refine okG0 F sc_NumberReader_read_count (fun vs H Q E h => ?_) fun cdv A outer s H vs Q E hr hg h => ?_
  · obtain ⟨p, dx, nl, rl, ns, tl, i, n, rfl, _⟩ := h
    rfl
  · obtain ⟨p, dx, nl, rl, ns, tl, i, n, rfl, hp, hn, hdr, hlt, k⟩ := h
    refine ⟨_, (pss_cons (ps_set (i := 1) sc_NumberReader_read_count.nd rfl (Or.inl rfl) pe_int)
  (pss_cons (ps_for PassesOwn.never rfl (pi_range1 (by rfl) T.b_range (pa_cons (pe_globI T.c_MOST_DIGITS (by rfl)) pa_nil)) (pg_name (i := 2) sc_NumberReader_read_count.nd rfl (Or.inl rfl))
   (pss_cons (ps_set (i := 3) sc_NumberReader_read_count.nd rfl (Or.inl rfl) (pe_mc UC_NumberReader U_NumberReader_read_number pass0 (hr.mono (by decide)) hg (pv 0) (pa_cons (pe_globI T.c_NUMBER_END (by rfl)) pa_nil)))
  (pss_cons (ps_if (PW.pt (pw_and (pt_cmpR op_eq (pv 3) pe_int (nomark _)) (pw_and1 (pt_cmpR op_gt (pv 2) pe_int (nomark _)))))
   pss_never
   pss_nil)
  (pss_cons (ps_aug (i := 1) sc_NumberReader_read_count.nd rfl (Or.inl rfl) (pe_op op_shl (pe_op op_mod (pv 3) (pe_globI T.c_BASE_reader (by rfl))) (pe_op op_mul pe_int (pv 2))) ip_add)
  (pss_one (ps_if (pt_cmpR op_lt (pv 3) (pe_globI T.c_BASE_reader (by rfl)) (nomark _))
   (pss_one (ps_ret (pv 1)))
   pss_nil))))))
  (pss_one (ps_ret (pe_mc UC_NumberReader U_NumberReader_read_number pass0 (hr.mono (by decide)) hg (pv 0) (pa_cons pe_int pa_nil)))))), ?_⟩
    have npn : nl ≠ p := ne_of hn hp (by intro z; cases z)
    have hlen := cnt_len 39 n hlt
    refine ⟨40, rfl, by decide, by decide, ?_⟩
    refine for_range (lo := 0) (n := 40) (fun j σ H1 => ∃ (c m : Nat) (x2 x3 : Option V), σ = [some (.ref p), some (.int (c : Int)), x2, x3] ∧ c + m * 128 ^ j = n ∧ (0 < j → 0 < m) ∧ ns.drop (i + j) = cnt m ++ tl ∧ j + (cnt m).length = (cnt n).length ∧
        H1 p = some (.ins C dx (rf (.ref nl) (.int ((i + j : Nat) : Int)) (.ref rl))) ∧ ∀ b o, H b = some o → b ≠ p → H1 b = some o)
      ⟨0, n, none, none, rfl, by simp, by simp, hdr, by simp, hp, fun _ _ h _ => h⟩ ?_ ?_
    · rintro j σ H1 hj ⟨c, m, x2, x3, rfl, hc, hm, hd, hl, hp1, kp⟩
      have hn1 := kp _ _ hn npn
      obtain ⟨d, rest, hcm, hd0, hd1⟩ : ∃ d rest, cnt m = d :: rest ∧ d < 256 ∧ (d = 0 → m = 0) := by
        by_cases h1 : m < 128
        · exact ⟨m, [], cnt_lt h1, by omega, fun h => h⟩
        · exact ⟨128 + m % 128, _, cnt_ge h1, by have := Nat.mod_lt m (show 0 < 128 by decide); omega, fun h => by omega⟩
      have hget : ns[i + j]? = some d := by
        have : (ns.drop (i + j))[0]? = some d := by rw [hd, hcm]; rfl
        rw [List.getElem?_drop] at this
        exact this
      refine ⟨_, rfl, p, dx, _, rfl, hp1, by rfl, p, dx, nl, rl, ns, i + j, d, 256, rfl, hp1, hn1, hget, hd0, ?_⟩
      have hp2 : upd H1 p (.ins C dx (rf (.ref nl) (.int ((i + j + 1 : Nat) : Int)) (.ref rl))) p = _ := upd_same
      have kp2 : ∀ b o, H b = some o → b ≠ p → upd H1 p (.ins C dx (rf (.ref nl) (.int ((i + j + 1 : Nat) : Int)) (.ref rl))) b = some o := fun b o e hb => by rw [upd_ne hb]; exact kp _ _ e hb
      generalize upd H1 p (.ins C dx (rf (.ref nl) (.int ((i + j + 1 : Nat) : Int)) (.ref rl))) = H2 at hp2 kp2 ⊢
      refine ⟨_, rfl, rfl, _, rfl, ?_⟩
      refine ite3 (fun c0 => ⟨_, rfl, _, _, rfl, rfl, _, rfl, iteFb (decide_eq_false ?A) ?B⟩) fun c0 => ?C
      case A =>
        have c0 : d = 0 := by have := V.int.inj (of_decide_eq_true c0); omega
        have := hd1 c0
        omega
      case' C => refine iteFb rfl ?_
      all_goals
        refine ⟨_, rfl, _, rfl, _, _, rfl, rfl, (by show (0 : Int) < 128; decide), _, rfl, _, _, rfl, rfl, .inl ⟨by decide, by decide⟩, _, _, rfl, rfl, ⟨by omega, by omega, by omega⟩, _, _, rfl, rfl, ?_⟩
        refine ⟨_, rfl, _, _, rfl, rfl, _, rfl, ?_⟩
        refine ite3 (fun c1 => ?_) fun c1 => ?_
        · have c1 := of_decide_eq_true c1
          have h1 : m < 128 := by
            by_cases h1 : m < 128
            · exact h1
            · rw [cnt_ge h1] at hcm
              have := (List.cons.inj hcm).1
              omega
          have ed : m = d := by rw [cnt_lt h1] at hcm; exact (List.cons.inj hcm).1
          have e : c + d % 128 * 128 ^ j = n := by rw [← ed, Nat.mod_eq_of_lt h1]; exact hc
          have e := (shl_val c d j).trans (congrArg (fun z : Nat => (z : Int)) e)
          refine ⟨_, rfl, (congrArg (fun z : Int => Q (V.int z) H2) e).mpr ?_⟩
          refine k H2 ?_ kp2
          rw [hp2]
          have : i + j + 1 = i + (cnt n).length := by rw [← hl, hcm]; rw [cnt_lt h1] at hcm; rw [← (List.cons.inj hcm).2]; simp; omega
          rw [this]
        · have c1 := of_decide_eq_false c1
          have h1 : ¬ m < 128 := fun h1 => by
            rw [cnt_lt h1] at hcm
            have := (List.cons.inj hcm).1
            omega
          have ed := hcm
          rw [cnt_ge h1] at ed
          obtain ⟨ed, er⟩ := List.cons.inj ed
          refine ⟨c + d % 128 * 128 ^ j, m / 128, some (.int (0 + (j : Int))), some (.int (d : Int)), ?_, ?_, ?_, ?_, ?_, hp2, kp2⟩
          · rw [← shl_val]; rfl
          · rw [← hc, show d % 128 = m % 128 by omega, Nat.pow_succ, Nat.add_assoc]
            congr 1
            have := Nat.div_add_mod m 128
            calc m % 128 * 128 ^ j + m / 128 * (128 ^ j * 128) = (128 * (m / 128) + m % 128) * 128 ^ j := by rw [Nat.add_mul, Nat.mul_comm (128 ^ j) 128, ← Nat.mul_assoc, Nat.mul_comm (m / 128) 128, Nat.add_comm]
              _ = m * 128 ^ j := by rw [this]
          · intro _; omega
          · have e2 : ns.drop (i + (j + 1)) = (ns.drop (i + j)).drop 1 := by rw [List.drop_drop]; congr 1
            rw [e2, hd, hcm, ← er]; rfl
          · rw [← hl, hcm, ← er, List.length_cons]; omega
    · rintro σ H1 ⟨c, m, x2, x3, rfl, hc, hm, hd, hl, hp1, kp⟩
      have := List.length_pos_iff.mpr (cnt_ne m)
      omega
end

abbrev s_NumberReader_read_integer : Stmt := inClass (top 39) 4
abbrev N_NumberReader_read_integer : List Str := ["self", "first", "count", "number"]
abbrev P_NumberReader_read_integer : List Str := ["self"]
theorem sc_NumberReader_read_integer : FnScope N_NumberReader_read_integer P_NumberReader_read_integer (defScope s_NumberReader_read_integer) := ⟨rfl, rfl, rfl, by decide +kernel, rfl, by decide +kernel, by decide +kernel⟩
abbrev s_NumberReader_read_count_below : Stmt := inClass (top 39) 6
abbrev N_NumberReader_read_count_below : List Str := ["self", "end", "first", "count"]
abbrev P_NumberReader_read_count_below : List Str := ["self", "end"]
theorem sc_NumberReader_read_count_below : FnScope N_NumberReader_read_count_below P_NumberReader_read_count_below (defScope s_NumberReader_read_count_below) := ⟨rfl, rfl, rfl, by decide +kernel, rfl, by decide +kernel, by decide +kernel⟩
abbrev s_NumberReader_read_string : Stmt := inClass (top 39) 5
abbrev N_NumberReader_read_string : List Str := ["self", "most", "size", "_"]
abbrev P_NumberReader_read_string : List Str := ["self", "most"]
theorem sc_NumberReader_read_string : FnScope N_NumberReader_read_string P_NumberReader_read_string (defScope s_NumberReader_read_string) := ⟨rfl, rfl, rfl, by decide +kernel, rfl, by decide +kernel, by decide +kernel⟩
abbrev s_NumberReader_read_reference : Stmt := inClass (top 39) 7
abbrev N_NumberReader_read_reference : List Str := ["self", "shift", "first", "k"]
abbrev P_NumberReader_read_reference : List Str := ["self", "shift"]
theorem sc_NumberReader_read_reference : FnScope N_NumberReader_read_reference P_NumberReader_read_reference (defScope s_NumberReader_read_reference) := ⟨rfl, rfl, rfl, by decide +kernel, rfl, by decide +kernel, by decide +kernel⟩
abbrev s_NumberReader_read_value : Stmt := inClass (top 39) 8
abbrev N_NumberReader_read_value : List Str := ["self", "number", "kind", "low"]
abbrev P_NumberReader_read_value : List Str := ["self"]
theorem sc_NumberReader_read_value : FnScope N_NumberReader_read_value P_NumberReader_read_value (defScope s_NumberReader_read_value) := ⟨rfl, rfl, rfl, by decide +kernel, rfl, by decide +kernel, by decide +kernel⟩
section
variable {P : Program} {w : World} {K : PySem.W.Frag} {mg : Str → Option Value} {base : Heap}
/-- the reader stands at p, before the i-th number -/
def RAt (C p dx nl rl : Addr) (H : Hp) (i : Nat) : Prop := H p = some (.ins C dx (rf (.ref nl) (.int (i : Int)) (.ref rl)))
def KeepR (p : Addr) (H H' : Hp) : Prop := ∀ b o, H b = some o → b ≠ p → H' b = some o
def spRInt (C : Addr) : Sp := fun vs H Q _ => ∃ (p dx nl rl : Addr) (ns tl : List Nat) (i : Nat) (z : Int), vs = [.ref p] ∧ RAt C p dx nl rl H i ∧ H nl = some (.lst (nV ns)) ∧ ns.drop i = cnt (zig z) ++ tl ∧ z.natAbs < 2 ^ 256 ∧
  ∀ H', RAt C p dx nl rl H' (i + (cnt (zig z)).length) → KeepR p H H' → Q (.int z) H'
theorem zig_half (z : Int) : (((zig z : Nat) : Int) / 2, ((zig z : Nat) : Int) % 2) = if 0 ≤ z then (z, 0) else (-z - 1, 1) := by
  by_cases h : 0 ≤ z
  · rw [if_pos h, ← zig_pos h]
    congr 1 <;> omega
  · rw [if_neg h, ← zig_neg h]
    congr 1 <;> omega
theorem ok_rint {C : Addr} {f : Addr} {fd : FuncData} (F : Fun K "read_integer" "NumberReader.read_integer" s_NumberReader_read_integer f fd) (T : Txt K mg) (UC_NumberReader : UseC K mg "NumberReader" fR C) (U_NumberReader_read_count : UseM P w K mg base CX0 C "read_count" 2 P_NumberReader_read_count (spRCnt C)) :
    FnG P w K mg base CX0 3 f fd P_NumberReader_read_integer (spRInt C) := by
  refine okG0 F sc_NumberReader_read_integer (fun vs H Q E h => ?_) fun cdv A outer s H vs Q E hr hg h => ?_
  · obtain ⟨p, dx, nl, rl, ns, tl, i, z, rfl, _⟩ := h
    rfl
  · obtain ⟨p, dx, nl, rl, ns, tl, i, z, rfl, hp, hn, hd, hz, k⟩ := h
    refine ⟨_, (pss_cons (ps_set (i := 1) sc_NumberReader_read_integer.nd rfl (Or.inl rfl) (pe_fd UC_NumberReader (by decide +kernel) (pv 0)))
  (pss_cons (ps_set (i := 2) sc_NumberReader_read_integer.nd rfl (Or.inl rfl) (pe_mc0 UC_NumberReader U_NumberReader_read_count pass0 (hr.mono (by decide)) hg (pv 0)))
  (pss_cons (ps_set (i := 3) sc_NumberReader_read_integer.nd rfl (Or.inl rfl) (pe_op op_fdiv (pv 2) pe_int))
  (C8.pss_cut (ps_if (pt_cmpR op_eq (pe_op op_mod (pv 2) pe_int) pe_int (nomark _))
   (pss_one (ps_set (i := 3) sc_NumberReader_read_integer.nd rfl (Or.inl rfl) (pe_op op_sub (pe_un un_neg (pv 3)) pe_int)))
   pss_nil)
  (pss_cons (ps_if (pt_cmpR op_ge (pe_callB call_abs (by rfl) T.b_abs (by decide +kernel) (pa_cons (pv 3) pa_nil)) (pe_globI T.c_INTEGER_END (by rfl)) (nomark _))
   pss_never
   pss_nil)
  (pss_one (ps_ret (pv 3)))))))), ?_⟩
    have h40 : zig z < 128 ^ 40 := Nat.lt_of_le_of_lt (zig_lt (k := 256) (Nat.le_of_lt hz)) (by decide +kernel)
    refine ⟨_, rfl, p, dx, _, _, rfl, hp, rf_at, ?_⟩
    refine ⟨_, rfl, p, dx, _, rfl, hp, by rfl, p, dx, nl, rl, ns, tl, i, zig z, rfl, hp, hn, hd, h40, fun H1 hp1 kp1 => ?_⟩
    have e := zig_half z
    clear hd h40
    generalize zig z = c at e hp1 k ⊢
    refine ⟨_, rfl, _, _, rfl, rfl, ⟨by decide, by decide⟩, ?_⟩
    refine ⟨fun σ H' => σ = [some (.ref p), some (.int (i : Int)), some (.int ((c : Nat) : Int)), some (.int z)] ∧ H' = H1, ?_, ?_⟩
    · refine ⟨_, rfl, _, _, rfl, rfl, (by show (0 : Int) < 2; decide), rfl, _, rfl, ?_⟩
      by_cases h : 0 ≤ z
      · rw [if_pos h] at e
        have e1 := congrArg Prod.fst e
        have e2 := congrArg Prod.snd e
        simp only at e1 e2
        refine iteFb (decide_eq_false fun q => by have := V.int.inj q; omega) ⟨by rw [← e1]; rfl, rfl⟩
      · rw [if_neg h] at e
        have e1 := congrArg Prod.fst e
        have e2 := congrArg Prod.snd e
        simp only at e1 e2
        refine iteTb (decide_eq_true (by show V.int ((c : Int) % 2) = V.int 1; rw [e2])) ⟨_, rfl, _, rfl, _, _, rfl, rfl, ?_, rfl⟩
        have e3 : -((c : Int) / 2) - 1 = z := by omega
        conv => rhs; rw [← e3]
        rfl
    rintro _ _ ⟨rfl, rfl⟩
    refine ⟨_, rfl, z, rfl, _, _, rfl, rfl, _, rfl, iteFb (decide_eq_false ?_) ?_⟩
    · have : ((2 : Int) ^ 256) = ((2 ^ 256 : Nat) : Int) := by decide +kernel
      rw [this]
      split <;> omega
    · exact ⟨_, rfl, k _ hp1 kp1⟩
def spRBelow (C : Addr) : Sp := fun vs H Q _ => ∃ (p dx nl rl : Addr) (ns tl : List Nat) (i n m : Nat), vs = [.ref p, .int (m : Int)] ∧ RAt C p dx nl rl H i ∧ H nl = some (.lst (nV ns)) ∧ ns.drop i = cnt n ++ tl ∧ n < 128 ^ 40 ∧ n < m ∧
  ∀ H', RAt C p dx nl rl H' (i + (cnt n).length) → KeepR p H H' → Q (.int (n : Int)) H'
theorem ok_rbelow {C : Addr} {f : Addr} {fd : FuncData} (F : Fun K "read_count_below" "NumberReader.read_count_below" s_NumberReader_read_count_below f fd) (T : Txt K mg) (UC_NumberReader : UseC K mg "NumberReader" fR C) (U_NumberReader_read_count : UseM P w K mg base CX0 C "read_count" 2 P_NumberReader_read_count (spRCnt C)) :
    FnG P w K mg base CX0 3 f fd P_NumberReader_read_count_below (spRBelow C) := by
  refine okG0 F sc_NumberReader_read_count_below (fun vs H Q E h => ?_) fun cdv A outer s H vs Q E hr hg h => ?_
  · obtain ⟨p, dx, nl, rl, ns, tl, i, n, m, rfl, _⟩ := h
    rfl
  · obtain ⟨p, dx, nl, rl, ns, tl, i, n, m, rfl, hp, hn, hd, h40, hm, k⟩ := h
    refine ⟨_, (pss_cons (ps_set (i := 2) sc_NumberReader_read_count_below.nd rfl (Or.inl rfl) (pe_fd UC_NumberReader (by decide +kernel) (pv 0)))
  (pss_cons (ps_set (i := 3) sc_NumberReader_read_count_below.nd rfl (Or.inl rfl) (pe_mc0 UC_NumberReader U_NumberReader_read_count pass0 (hr.mono (by decide)) hg (pv 0)))
  (pss_cons (ps_if (pt_cmpR op_ge (pv 3) (pv 1) (nomark _))
   pss_never
   pss_nil)
  (pss_one (ps_ret (pv 3)))))), ?_⟩
    refine ⟨_, rfl, p, dx, _, _, rfl, hp, rf_at, ?_⟩
    refine ⟨_, rfl, p, dx, _, rfl, hp, by rfl, p, dx, nl, rl, ns, tl, i, n, rfl, hp, hn, hd, h40, fun H1 hp1 kp1 => ?_⟩
    refine ⟨_, rfl, _, rfl, _, _, rfl, rfl, _, rfl, iteFb (decide_eq_false (by omega)) ?_⟩
    exact ⟨_, rfl, k _ hp1 kp1⟩
def spRStr (C : Addr) : Sp := fun vs H Q _ => ∃ (p dx nl rl : Addr) (ns tl js : List Nat) (i m : Nat), vs = [.ref p, .int (m : Int)] ∧ RAt C p dx nl rl H i ∧ H nl = some (.lst (nV ns)) ∧ ns.drop i = strN js ++ tl ∧ (∀ j ∈ js, j < 95) ∧ js.length ≤ m ∧ m ≤ 100000 ∧
  ∀ H', RAt C p dx nl rl H' (i + (strN js).length) → KeepR p H H' → Q (.str (tx js)) H'
theorem ok_rstr {C : Addr} {f : Addr} {fd : FuncData} (F : Fun K "read_string" "NumberReader.read_string" s_NumberReader_read_string f fd) (T : Txt K mg) (UC_NumberReader : UseC K mg "NumberReader" fR C) (U_NumberReader_read_count_below : UseM P w K mg base CX0 C "read_count_below" 3 P_NumberReader_read_count_below (spRBelow C))
    (U_NumberReader_read_number : UseM P w K mg base CX0 C "read_number" 1 P_NumberReader_read_number (spRNum C)) : FnG P w K mg base CX0 4 f fd P_NumberReader_read_string (spRStr C) := by
  refine okG0 F sc_NumberReader_read_string (fun vs H Q E h => ?_) fun cdv A outer s H vs Q E hr hg h => ?_
  · obtain ⟨p, dx, nl, rl, ns, tl, js, i, m, rfl, _⟩ := h
    rfl
  · obtain ⟨p, dx, nl, rl, ns, tl, js, i, m, rfl, hp, hn, hd, hj, hm, hm2, k⟩ := h
    refine ⟨_, (pss_cons (ps_set (i := 2) sc_NumberReader_read_string.nd rfl (Or.inl rfl) (pe_mc UC_NumberReader U_NumberReader_read_count_below pass0 (hr.mono (by decide)) hg (pv 0) (pa_cons (pe_op op_add (pv 1) pe_int) pa_nil)))
  (pss_one (ps_ret (pe_bm PySem.F.plainAttrs_str PySem.F.slot_str_join PySem.F.type_str_join mt_join pe_str (pa_cons (pe_lc (own := [("_", 3)]) (g := (gName 3)) rfl sc_NumberReader_read_string.nd (pi_range1 (by rfl) T.b_range (pa_cons (pv 2) pa_nil)) (blkOk_by (N := N_NumberReader_read_string) (sc := defScope s_NumberReader_read_string) (by decide +kernel)) (fun _ _ _ _ _ => (pg_name (i := 3) sc_NumberReader_read_string.nd rfl (Or.inl rfl))) (fun _ _ _ _ _ => pts_nil) (fun _ _ _ _ _ => (pe_ix ix_str (pe_globS T.c_CHARACTERS (by rfl)) (pe_mc UC_NumberReader U_NumberReader_read_number pass0 (hr.mono (by decide)) hg (pv 0) (pa_cons (pe_callB (call_lenK (K := K) rfl) (by rfl) T.b_len PySem.boot_len (pa_cons (pe_globS T.c_CHARACTERS (by rfl)) pa_nil)) pa_nil)) (fun _ _ => rfl)))) pa_nil))))), ?_⟩
    unfold strN at hd
    rw [List.append_assoc] at hd
    refine ⟨_, rfl, p, dx, _, rfl, hp, by rfl, _, rfl, _, _, rfl, rfl, p, dx, nl, rl, ns, js ++ tl, i, js.length, m + 1, rfl, hp, hn, hd, Nat.lt_of_le_of_lt (Nat.le_trans hm hm2) (by decide +kernel), by omega, fun H1 hp1 kp1 => ?_⟩
    refine ⟨rfl, _, rfl, js.length, rfl, by omega, by omega, fun D hD => ?_⟩
    rw [Int.toNat_natCast]
    have npn : nl ≠ p := ne_of hn hp (by intro z; cases z)
    have hn1 := kp1 _ _ hn npn
    have nDp : D ≠ p := fun e => (by subst e; rw [RAt] at hp1; rw [hD] at hp1; cases hp1)
    have nDn : D ≠ nl := fun e => (by subst e; rw [hD] at hn1; cases hn1)
    have hd2 : ns.drop (i + (cnt js.length).length) = js ++ tl := by rw [← List.drop_drop, hd, List.drop_left]
    refine lc_it (walk_range (lo := 0) (n := js.length)) (fun j H' => H' D = some (.lst (chV ((js.take j).map ch))) ∧ RAt C p dx nl rl H' (i + (cnt js.length).length + j) ∧ (∀ b o, H1 b = some o → b ≠ p → H' b = some o))
      ⟨upd_same, by show upd H1 D _ p = _; rw [upd_ne nDp.symm]; exact hp1, fun b o e hb => by rw [upd_ne (ne_of_none e hD)]; exact e⟩ (fun _ _ _ _ => trivial) ?_ ?_
    · rintro j x H5 H6 hjl ⟨e5, hp5, kp5⟩ ⟨rfl, rfl⟩
      refine ⟨rfl, tYes_of ?_⟩
      have hjs : js[j]? = some js[j] := List.getElem?_eq_getElem hjl
      have hj95 := hj _ (List.getElem_mem hjl)
      generalize js[j] = c at hjs hj95
      have hget : ns[i + (cnt js.length).length + j]? = some c := by
        have : (ns.drop (i + (cnt js.length).length))[j]? = some c := by rw [hd2, List.getElem?_append_left hjl]; exact hjs
        rw [List.getElem?_drop] at this
        exact this
      have cl : chStr.length = 95 := by decide +kernel
      refine ⟨_, rfl, p, dx, _, rfl, hp5, by rfl, _, chStr.length, rfl, ⟨by decide +kernel, rfl⟩, p, dx, nl, rl, ns, _, c, 95, by rw [cl], hp5, kp5 _ _ hn1 npn, hget, hj95, ?_⟩
      refine ⟨chStr, (c : Int), ch c, rfl, rfl, by decide +kernel, atI_nat (ch_at hj95), chV ((js.take j).map ch), ?_, ?_, ?_, ?_⟩
      · rw [upd_ne nDp]; exact e5
      · rw [chV_len, List.length_map, List.length_take]; exact Nat.lt_of_le_of_lt (Nat.le_trans (Nat.min_le_right _ _) (Nat.le_trans hm hm2)) (by decide)
      · rw [upd_same, List.take_succ, hjs, List.map_append, chV_app]; rfl
      · refine ⟨(upd_ne nDp.symm).trans upd_same, fun b o e hb => by rw [upd_ne (ne_of_none e hD), upd_ne hb]; exact kp5 _ _ e hb⟩
    · rintro H5 ⟨e5, hp5, kp5⟩
      rw [List.take_length] at e5
      refine ⟨_, D, _, rfl, rfl, .inl (SqL.of e5), ?_, ?_⟩
      · rw [one_len, List.length_map, List.length_map, show ("" : Str).length = 0 by decide +kernel]; omega
      · rw [join_chars]
        refine k H5 ?_ fun b o e hb => kp5 _ _ (kp1 _ _ e hb) hb
        rw [show i + (strN js).length = i + (cnt js.length).length + js.length by rw [strN, List.length_append]; omega]
        exact hp5
/-- a reference is added -/
def spRRef (K : PySem.W.Frag) (C : Addr) : Sp := fun vs H Q _ => ∃ (p dx nl rl : Addr) (ns tl : List Nat) (rs : List V) (i n : Nat), vs = [.ref p, .int 0] ∧ RAt C p dx nl rl H i ∧ H nl = some (.lst (nV ns)) ∧ H rl = some (.lst rs) ∧ rs.length ≤ 1000000 ∧ nl ≠ rl ∧ ns.drop i = cnt n ++ tl ∧ n < 128 ^ 40 ∧
  ∀ H' t, RAt C p dx nl rl H' (i + (cnt n).length) → H' rl = some (.lst (rs ++ [.ref t])) → Dt K H' (.ref t) (.tuple [.int (i : Int), .int (n : Int)]) → (∀ b o, H b = some o → b ≠ p → b ≠ rl → H' b = some o) → Q (.int (n : Int)) H'
theorem ok_rref {C : Addr} {f : Addr} {fd : FuncData} (F : Fun K "read_reference" "NumberReader.read_reference" s_NumberReader_read_reference f fd) (T : Txt K mg) (UC_NumberReader : UseC K mg "NumberReader" fR C) (U_NumberReader_read_count : UseM P w K mg base CX0 C "read_count" 2 P_NumberReader_read_count (spRCnt C)) :
    FnG P w K mg base CX0 3 f fd P_NumberReader_read_reference (spRRef K C) := by
  refine okG0 F sc_NumberReader_read_reference (fun vs H Q E h => ?_) fun cdv A outer s H vs Q E hr hg h => ?_
  · obtain ⟨p, dx, nl, rl, ns, tl, rs, i, n, rfl, _⟩ := h
    rfl
  · obtain ⟨p, dx, nl, rl, ns, tl, rs, i, n, rfl, hp, hn, hrl, hrs, hne, hd, h40, k⟩ := h
    refine ⟨_, (pss_cons (ps_set (i := 2) sc_NumberReader_read_reference.nd rfl (Or.inl rfl) (pe_fd UC_NumberReader (by decide +kernel) (pv 0)))
  (pss_cons (ps_set (i := 3) sc_NumberReader_read_reference.nd rfl (Or.inl rfl) (pe_op op_sub (pe_mc0 UC_NumberReader U_NumberReader_read_count pass0 (hr.mono (by decide)) hg (pv 0)) (pv 1)))
  (pss_cons (ps_expr (pe_bm PySem.F.plainAttrs_list PySem.F.slot_list_append PySem.F.type_list_append mt_append (pe_fd UC_NumberReader (by decide +kernel) (pv 0)) (pa_cons (pe_tup (pa_cons (pv 2) (pa_cons (pv 3) pa_nil))) pa_nil)))
  (pss_one (ps_ret (pv 3)))))), ?_⟩
    have nrp : rl ≠ p := ne_of hrl hp (by intro z; cases z)
    refine ⟨_, rfl, p, dx, _, _, rfl, hp, rf_at, ?_⟩
    refine ⟨_, rfl, p, dx, _, rfl, hp, by rfl, p, dx, nl, rl, ns, tl, i, n, rfl, hp, hn, hd, h40, fun H1 hp1 kp1 => ?_⟩
    have hp1 : RAt C p dx nl rl H1 (i + (cnt n).length) := hp1
    refine ⟨_, rfl, _, _, rfl, rfl, ?_⟩
    have hrl1 := kp1 _ _ hrl nrp
    refine ⟨_, rfl, p, dx, _, _, rfl, hp1, rf_refs, .inl ⟨rfl, _, SqL.of hrl1⟩, _, rfl, _, rfl, sz_2, fun t ht => ?_⟩
    have S2 := Same.new (o := .tup [.int (i : Int), .int ((n : Int) - 0)]) ht
    refine ⟨rl, rs, .ref t, rfl, rfl, S2 _ _ hrl1, Nat.lt_of_le_of_lt hrs (by decide), ?_⟩
    have e0 : (n : Int) - 0 = (n : Int) := Int.sub_zero _
    refine ⟨_, rfl, (congrArg (fun z : Int => Q (V.int z) _) e0).mpr ?_⟩
    have hrl2 := S2 _ _ hrl1
    have dt : Dt K (upd H1 t (.tup [.int (i : Int), .int ((n : Int) - 0)])) (.ref t) (.tuple [.int (i : Int), .int (n : Int)]) := by
      have dt : Dt K (upd H1 t (.tup [.int (i : Int), .int ((n : Int) - 0)])) (.ref t) (.tuple [.int (i : Int), .int ((n : Int) - 0)]) := Dt.made ht (.cons (.int _) (.cons (.int _) .nil))
      rw [show PyData.int ((n : Int) - 0) = PyData.int (n : Int) by rw [e0]] at dt
      exact dt
    refine k _ t ?_ upd_same (Dt.keepT (KeepT.upd hrl2) dt) fun b o e h1 h2 => ?_
    · show upd _ rl _ p = _
      rw [upd_ne nrp.symm]; exact S2 _ _ hp1
    · rw [upd_ne h2]; exact S2 _ _ (kp1 _ _ e h1)
def ValRd : Val → Prop
  | .int i => i.natAbs < 2 ^ 256
  | .text js => js.length ≤ 1000 ∧ ∀ j ∈ js, j < 95
  | .span a b => a.natAbs < 2 ^ 256 ∧ b.natAbs < 2 ^ 256
  | .built js => js.length ≤ 200 ∧ ∀ j ∈ js, j < 95
  | .host js => js.length ≤ 200 ∧ ∀ j ∈ js, j < 95
  | .ref n => n < 128 ^ 40
  | _ => True
def spRVal (K : PySem.W.Frag) (C : Addr) : Sp := fun vs H Q _ => ∃ (p dx nl rl : Addr) (ns tl : List Nat) (rs : List V) (i : Nat) (x : Val), vs = [.ref p] ∧ RAt C p dx nl rl H i ∧ H nl = some (.lst (nV ns)) ∧ H rl = some (.lst rs) ∧ rs.length ≤ 1000000 ∧ nl ≠ rl ∧ ns.drop i = enc x ++ tl ∧ ValRd x ∧
  ∀ v H' rs', RAt C p dx nl rl H' (i + (enc x).length) → H' rl = some (.lst rs') → rs'.length ≤ rs.length + 1 → Dt K H' v (valD x) → (∀ b o, H b = some o → b ≠ p → b ≠ rl → H' b = some o) → Q v H'
def kdR : Val → Str
  | .none => "none" | .bool _ => "bool" | .int _ => "int" | .text _ => "text" | .span _ _ => "span" | .built _ => "built" | .host _ => "host" | .ref _ => "ref"
def kinds9 : List Str := ["none", "bool", "bool", "int", "text", "span", "built", "host", "ref"]
theorem ok_rval {C : Addr} {f : Addr} {fd : FuncData} (F : Fun K "read_value" "NumberReader.read_value" s_NumberReader_read_value f fd) (T : Txt K mg) (UC_NumberReader : UseC K mg "NumberReader" fR C) (U_NumberReader_read_number : UseM P w K mg base CX0 C "read_number" 1 P_NumberReader_read_number (spRNum C))
    (U_NumberReader_read_integer : UseM P w K mg base CX0 C "read_integer" 3 P_NumberReader_read_integer (spRInt C)) (U_NumberReader_read_string : UseM P w K mg base CX0 C "read_string" 4 P_NumberReader_read_string (spRStr C)) (U_NumberReader_read_reference : UseM P w K mg base CX0 C "read_reference" 3 P_NumberReader_read_reference (spRRef K C)) :
    FnG P w K mg base CX0 5 f fd P_NumberReader_read_value (spRVal K C) := by
  refine okG0 F sc_NumberReader_read_value (fun vs H Q E h => ?_) fun cdv A outer s H vs Q E hr hg h => ?_
  · obtain ⟨p, dx, nl, rl, ns, tl, rs, i, x, rfl, _⟩ := h
    rfl
  · obtain ⟨p, dx, nl, rl, ns, tl, rs, i, x, rfl, hp, hn, hrl, hrs, hne, hd, hx, k⟩ := h
    refine ⟨_, (pss_cons (ps_set (i := 1) sc_NumberReader_read_value.nd rfl (Or.inl rfl) (pe_mc UC_NumberReader U_NumberReader_read_number pass0 (hr.mono (by decide)) hg (pv 0) (pa_cons (pe_callB call_len (by rfl) T.b_len PySem.boot_len (pa_cons (pe_globT T.c_VALUES (by rfl)) pa_nil)) pa_nil)))
  (pss_cons (ps_set (i := 2) sc_NumberReader_read_value.nd rfl (Or.inl rfl) (pe_ix ix_tup (pe_globT T.c_VALUES (by rfl)) (pv 1) (fun _ _ => rfl)))
  (pss_cons (ps_if (pt_cmpR op_eq (pv 2) pe_str (nomark _))
   (pss_one (ps_ret (pe_tup (pa_cons pe_str pa_nil))))
   pss_nil)
  (pss_cons (ps_if (pt_cmpR op_eq (pv 2) pe_str (nomark _))
   (pss_one (ps_ret (pe_tup (pa_cons pe_str (pa_cons (pe_cmpR op_eq (pv 1) pe_int (nomark _)) pa_nil)))))
   pss_nil)
  (pss_cons (ps_if (pt_cmpR op_eq (pv 2) pe_str (nomark _))
   (pss_one (ps_ret (pe_tup (pa_cons pe_str (pa_cons (pe_mc0 UC_NumberReader U_NumberReader_read_integer pass0 (hr.mono (by decide)) hg (pv 0)) pa_nil)))))
   pss_nil)
  (pss_cons (ps_if (pt_cmpR op_eq (pv 2) pe_str (nomark _))
   (pss_one (ps_ret (pe_tup (pa_cons pe_str (pa_cons (pe_mc UC_NumberReader U_NumberReader_read_string pass0 (hr.mono (by decide)) hg (pv 0) (pa_cons (pe_globI T.c_MOST_ENTRIES (by rfl)) pa_nil)) pa_nil)))))
   pss_nil)
  (pss_cons (ps_if (pt_cmpR op_eq (pv 2) pe_str (nomark _))
   (pss_cons (ps_set (i := 3) sc_NumberReader_read_value.nd rfl (Or.inl rfl) (pe_mc0 UC_NumberReader U_NumberReader_read_integer pass0 (hr.mono (by decide)) hg (pv 0)))
  (pss_one (ps_ret (pe_tup (pa_cons pe_str (pa_cons (pv 3) (pa_cons (pe_mc0 UC_NumberReader U_NumberReader_read_integer pass0 (hr.mono (by decide)) hg (pv 0)) pa_nil)))))))
   pss_nil)
  (pss_cons (ps_if (pt_cmpR op_eq (pv 2) pe_str (nomark _))
   (pss_one (ps_ret (pe_tup (pa_cons pe_str (pa_cons (pe_mc UC_NumberReader U_NumberReader_read_reference pass0 (hr.mono (by decide)) hg (pv 0) (pa_cons pe_int pa_nil)) pa_nil)))))
   pss_nil)
  (pss_one (ps_ret (pe_tup (pa_cons (pv 2) (pa_cons (pe_mc UC_NumberReader U_NumberReader_read_string pass0 (hr.mono (by decide)) hg (pv 0) (pa_cons (pe_globI T.c_MOST_IN_NAME (by rfl)) pa_nil)) pa_nil))))))))))))), ?_⟩
    have nrp : rl ≠ p := ne_of hrl hp (by intro z; cases z)
    have nnp : nl ≠ p := ne_of hn hp (by intro z; cases z)
    obtain ⟨num, rest, he, hnum⟩ : ∃ num rest, enc x = num :: rest ∧ num < 9 := by
      cases x with
      | bool b => cases b <;> exact ⟨_, _, rfl, by decide⟩
      | _ => exact ⟨_, _, rfl, by decide⟩
    have hget : ns[i]? = some num := by
      have : (ns.drop i)[0]? = some num := by rw [hd, he]; rfl
      rw [List.getElem?_drop, Nat.add_zero] at this
      exact this
    have hd1 : ns.drop (i + 1) = rest ++ tl := by rw [← List.drop_drop, hd, he]; rfl
    refine ⟨_, rfl, p, dx, _, rfl, hp, by rfl, fun a9 k9 => ⟨_, _, rfl, .inr ⟨_, k9.sq _, rfl⟩, p, dx, nl, rl, ns, i, num, 9, rfl, hp, hn, hget, hnum, ?_⟩⟩
    have hp1 : RAt C p dx nl rl (upd H p (.ins C dx (rf (.ref nl) (.int ((i + 1 : Nat) : Int)) (.ref rl)))) (i + 1) := upd_same
    have kp1 : ∀ b o, H b = some o → b ≠ p → upd H p (.ins C dx (rf (.ref nl) (.int ((i + 1 : Nat) : Int)) (.ref rl))) b = some o := fun b o e hb => by rw [upd_ne hb]; exact e
    have hn1 := kp1 _ _ hn nnp
    have hrl1 := kp1 _ _ hrl nrp
    generalize upd H p (.ins C dx (rf (.ref nl) (.int ((i + 1 : Nat) : Int)) (.ref rl))) = H1 at hp1 kp1 hn1 hrl1 ⊢
    obtain ⟨zz, hzk, hz⟩ : ∃ zz, zz = kdR x ∧ (kinds9.map V.str)[num]? = some (.str zz) := ⟨_, rfl, by
      cases x with
      | bool b => cases b <;> (obtain ⟨rfl, rfl⟩ := List.cons.inj he; rfl)
      | _ => obtain ⟨rfl, rfl⟩ := List.cons.inj he; rfl⟩
    refine fun a8 k8 => ⟨_, rfl, a8, _, _, _, rfl, rfl, k8.sq _, at_of' (j := num) rfl hz, ?_⟩
    have S2' : ∀ {H2 : Hp} {j : Nat} {t : Addr} {o : HO}, RAt C p dx nl rl H2 j → H2 t = none → RAt C p dx nl rl (upd H2 t o) j := fun h ht => Same.new ht _ _ h
    rw [he, List.length_cons, show i + (rest.length + 1) = i + 1 + rest.length by omega] at k
    cases x with
    | none =>
      obtain ⟨rfl, rfl⟩ := List.cons.inj he
      have hzk : zz = "none" := hzk
      subst hzk
      refine ⟨_, rfl, rfl, _, rfl, iteTb (by decide +kernel) ?_⟩
      exact ⟨sz_1, fun t ht => k _ _ rs (S2' hp1 ht) (Same.new ht _ _ hrl1) (Nat.le_succ _) (Dt.made ht (.cons (.str _) .nil)) fun b o e h1 _ => Same.new ht _ _ (kp1 _ _ e h1)⟩
    | bool b =>
      have hzk : zz = "bool" := hzk
      subst hzk
      obtain ⟨hb1, rfl⟩ := List.cons.inj he
      refine ⟨_, rfl, rfl, _, rfl, iteFb (by decide +kernel) ?_⟩
      refine ⟨_, rfl, rfl, _, rfl, iteTb (by decide +kernel) ?_⟩
      refine ⟨_, rfl, rfl, sz_2, fun t ht => k _ _ rs (S2' hp1 ht) (Same.new ht _ _ hrl1) (Nat.le_succ _) (Dt.made ht (.cons (.str _) (.cons ?_ .nil))) fun b o e h1 _ => Same.new ht _ _ (kp1 _ _ e h1)⟩
      cases b with
      | true => subst hb1; exact .bl true
      | false => subst hb1; exact .bl false
    | int z =>
      obtain ⟨rfl, rfl⟩ := List.cons.inj he
      have hx : z.natAbs < 2 ^ 256 := hx
      have hzk : zz = "int" := hzk
      subst hzk
      refine ⟨_, rfl, rfl, _, rfl, iteFb (by decide +kernel) ?_⟩
      refine ⟨_, rfl, rfl, _, rfl, iteFb (by decide +kernel) ?_⟩
      refine ⟨_, rfl, rfl, _, rfl, iteTb (by decide +kernel) ?_⟩
      refine ⟨_, rfl, p, dx, _, rfl, hp1, by rfl, p, dx, nl, rl, ns, tl, i + 1, z, rfl, hp1, hn1, hd1, hx, fun H2 hp2 kp2 => ?_⟩
      refine ⟨sz_2, fun t ht => k _ _ rs (S2' hp2 ht) (Same.new ht _ _ (kp2 _ _ hrl1 nrp)) (Nat.le_succ _) (Dt.made ht (.cons (.str _) (.cons (.int _) .nil))) fun b o e h1 _ => Same.new ht _ _ (kp2 _ _ (kp1 _ _ e h1) h1)⟩
    | text js =>
      obtain ⟨rfl, rfl⟩ := List.cons.inj he
      obtain ⟨hx1, hx2⟩ : js.length ≤ 1000 ∧ ∀ j ∈ js, j < 95 := hx
      have hzk : zz = "text" := hzk
      subst hzk
      refine ⟨_, rfl, rfl, _, rfl, iteFb (by decide +kernel) ?_⟩
      refine ⟨_, rfl, rfl, _, rfl, iteFb (by decide +kernel) ?_⟩
      refine ⟨_, rfl, rfl, _, rfl, iteFb (by decide +kernel) ?_⟩
      refine ⟨_, rfl, rfl, _, rfl, iteTb (by decide +kernel) ?_⟩
      refine ⟨_, rfl, p, dx, _, rfl, hp1, by rfl, p, dx, nl, rl, ns, tl, js, i + 1, 1000, rfl, hp1, hn1, hd1, hx2, hx1, by decide, fun H2 hp2 kp2 => ?_⟩
      refine ⟨sz_2, fun t ht => k _ _ rs (S2' hp2 ht) (Same.new ht _ _ (kp2 _ _ hrl1 nrp)) (Nat.le_succ _) (Dt.made ht (.cons (.str _) (.cons (.str _) .nil))) fun b o e h1 _ => Same.new ht _ _ (kp2 _ _ (kp1 _ _ e h1) h1)⟩
    | span a b =>
      obtain ⟨rfl, rfl⟩ := List.cons.inj he
      obtain ⟨hx1, hx2⟩ : a.natAbs < 2 ^ 256 ∧ b.natAbs < 2 ^ 256 := hx
      have hzk : zz = "span" := hzk
      subst hzk
      rw [List.append_assoc] at hd1
      refine ⟨_, rfl, rfl, _, rfl, iteFb (by decide +kernel) ?_⟩
      refine ⟨_, rfl, rfl, _, rfl, iteFb (by decide +kernel) ?_⟩
      refine ⟨_, rfl, rfl, _, rfl, iteFb (by decide +kernel) ?_⟩
      refine ⟨_, rfl, rfl, _, rfl, iteFb (by decide +kernel) ?_⟩
      refine ⟨_, rfl, rfl, _, rfl, iteTb (by decide +kernel) ?_⟩
      refine ⟨_, rfl, p, dx, _, rfl, hp1, by rfl, p, dx, nl, rl, ns, _, i + 1, a, rfl, hp1, hn1, hd1, hx1, fun H2 hp2 kp2 => ?_⟩
      have hd2 : ns.drop (i + 1 + (cnt (zig a)).length) = cnt (zig b) ++ tl := by rw [← List.drop_drop, hd1, List.drop_left]
      refine ⟨_, rfl, _, rfl, p, dx, _, rfl, hp2, by rfl, p, dx, nl, rl, ns, tl, _, b, rfl, hp2, kp2 _ _ hn1 nnp, hd2, hx2, fun H3 hp3 kp3 => ?_⟩
      refine ⟨sz_3, fun t ht => k _ _ rs (S2' ?_ ht) (Same.new ht _ _ (kp3 _ _ (kp2 _ _ hrl1 nrp) nrp)) (Nat.le_succ _) (Dt.made ht (.cons (.str _) (.cons (.int _) (.cons (.int _) .nil)))) fun b o e h1 _ => Same.new ht _ _ (kp3 _ _ (kp2 _ _ (kp1 _ _ e h1) h1) h1)⟩
      rw [List.length_append, show i + 1 + ((cnt (zig a)).length + (cnt (zig b)).length) = i + 1 + (cnt (zig a)).length + (cnt (zig b)).length by omega]
      exact hp3
    | built js =>
      obtain ⟨rfl, rfl⟩ := List.cons.inj he
      obtain ⟨hx1, hx2⟩ : js.length ≤ 200 ∧ ∀ j ∈ js, j < 95 := hx
      have hzk : zz = "built" := hzk
      subst hzk
      refine ⟨_, rfl, rfl, _, rfl, iteFb (by decide +kernel) ?_⟩
      refine ⟨_, rfl, rfl, _, rfl, iteFb (by decide +kernel) ?_⟩
      refine ⟨_, rfl, rfl, _, rfl, iteFb (by decide +kernel) ?_⟩
      refine ⟨_, rfl, rfl, _, rfl, iteFb (by decide +kernel) ?_⟩
      refine ⟨_, rfl, rfl, _, rfl, iteFb (by decide +kernel) ?_⟩
      refine ⟨_, rfl, rfl, _, rfl, iteFb (by decide +kernel) ?_⟩
      refine ⟨_, rfl, _, rfl, p, dx, _, rfl, hp1, by rfl, p, dx, nl, rl, ns, tl, js, i + 1, 200, rfl, hp1, hn1, hd1, hx2, hx1, by decide, fun H2 hp2 kp2 => ?_⟩
      refine ⟨sz_2, fun t ht => k _ _ rs (S2' hp2 ht) (Same.new ht _ _ (kp2 _ _ hrl1 nrp)) (Nat.le_succ _) (Dt.made ht (.cons (.str _) (.cons (.str _) .nil))) fun b o e h1 _ => Same.new ht _ _ (kp2 _ _ (kp1 _ _ e h1) h1)⟩
    | host js =>
      obtain ⟨rfl, rfl⟩ := List.cons.inj he
      obtain ⟨hx1, hx2⟩ : js.length ≤ 200 ∧ ∀ j ∈ js, j < 95 := hx
      have hzk : zz = "host" := hzk
      subst hzk
      refine ⟨_, rfl, rfl, _, rfl, iteFb (by decide +kernel) ?_⟩
      refine ⟨_, rfl, rfl, _, rfl, iteFb (by decide +kernel) ?_⟩
      refine ⟨_, rfl, rfl, _, rfl, iteFb (by decide +kernel) ?_⟩
      refine ⟨_, rfl, rfl, _, rfl, iteFb (by decide +kernel) ?_⟩
      refine ⟨_, rfl, rfl, _, rfl, iteFb (by decide +kernel) ?_⟩
      refine ⟨_, rfl, rfl, _, rfl, iteFb (by decide +kernel) ?_⟩
      refine ⟨_, rfl, _, rfl, p, dx, _, rfl, hp1, by rfl, p, dx, nl, rl, ns, tl, js, i + 1, 200, rfl, hp1, hn1, hd1, hx2, hx1, by decide, fun H2 hp2 kp2 => ?_⟩
      refine ⟨sz_2, fun t ht => k _ _ rs (S2' hp2 ht) (Same.new ht _ _ (kp2 _ _ hrl1 nrp)) (Nat.le_succ _) (Dt.made ht (.cons (.str _) (.cons (.str _) .nil))) fun b o e h1 _ => Same.new ht _ _ (kp2 _ _ (kp1 _ _ e h1) h1)⟩
    | ref n =>
      obtain ⟨rfl, rfl⟩ := List.cons.inj he
      have hx : n < 128 ^ 40 := hx
      have hzk : zz = "ref" := hzk
      subst hzk
      refine ⟨_, rfl, rfl, _, rfl, iteFb (by decide +kernel) ?_⟩
      refine ⟨_, rfl, rfl, _, rfl, iteFb (by decide +kernel) ?_⟩
      refine ⟨_, rfl, rfl, _, rfl, iteFb (by decide +kernel) ?_⟩
      refine ⟨_, rfl, rfl, _, rfl, iteFb (by decide +kernel) ?_⟩
      refine ⟨_, rfl, rfl, _, rfl, iteFb (by decide +kernel) ?_⟩
      refine ⟨_, rfl, rfl, _, rfl, iteTb (by decide +kernel) ?_⟩
      refine ⟨_, rfl, p, dx, _, rfl, hp1, by rfl, p, dx, nl, rl, ns, tl, rs, i + 1, n, rfl, hp1, hn1, hrl1, hrs, hne, hd1, hx, fun H2 t2 hp2 hrl2 _ kp2 => ?_⟩
      refine ⟨sz_2, fun t ht => k _ _ _ (S2' hp2 ht) (Same.new ht _ _ hrl2) (by simp) (Dt.made ht (.cons (.str _) (.cons (.int _) .nil))) fun b o e h1 h2 => Same.new ht _ _ (kp2 _ _ (kp1 _ _ e h1) h1 h2)⟩
end

section
--SPLIT
end
abbrev s_BadNumbers___init__ : Stmt := inClass (top 29) 0
abbrev s_closed : Stmt := top 40
abbrev N_closed : List Str := ["around", "tree", "_", "parts"]
abbrev P_closed : List Str := ["around", "tree"]
theorem sc_closed : FnScope N_closed P_closed (defScope s_closed) := ⟨rfl, rfl, rfl, by decide +kernel, rfl, by decide +kernel, by decide +kernel⟩
abbrev s_NumberReader__read_leaf : Stmt := inClass (top 39) 10
abbrev N_NumberReader__read_leaf : List Str := ["self", "number"]
abbrev P_NumberReader__read_leaf : List Str := ["self", "number"]
theorem sc_NumberReader__read_leaf : FnScope N_NumberReader__read_leaf P_NumberReader__read_leaf (defScope s_NumberReader__read_leaf) := ⟨rfl, rfl, rfl, by decide +kernel, rfl, by decide +kernel, by decide +kernel⟩
abbrev s_NumberReader_read_tree : Stmt := inClass (top 39) 9
abbrev N_NumberReader_read_tree : List Str := ["self", "around", "number", "many", "tree"]
abbrev P_NumberReader_read_tree : List Str := ["self"]
theorem sc_NumberReader_read_tree : FnScope N_NumberReader_read_tree P_NumberReader_read_tree (defScope s_NumberReader_read_tree) := ⟨rfl, rfl, rfl, by decide +kernel, rfl, by decide +kernel, by decide +kernel⟩
section
variable {P : Program} {w : World} {K : PySem.W.Frag} {mg : Str → Option Value} {base : Heap}
/-- an open tuple, told by z: how many parts it has, the list b of those that are there -/
def FrAt (K : PySem.W.Frag) (H : Hp) (z : V) (f : List PyData × List PyData) (b : Addr) : Prop := ∃ t xs, z = .ref t ∧ SqT K H t [.int ((f.1.length + 1 + f.2.length : Nat) : Int), .ref b] ∧ H b = some (.lst xs) ∧ DtAll K H xs f.1
inductive StAt (K : PySem.W.Frag) (H : Hp) : List V → Stk → List Addr → Prop
  | nil : StAt K H [] [] []
  | cons {z : V} {zs : List V} {f : List PyData × List PyData} {st : Stk} {b : Addr} {bs : List Addr} : FrAt K H z f b → b ∉ bs → StAt K H zs st bs → StAt K H (z :: zs) (f :: st) (b :: bs)
theorem StAt.len {H : Hp} {zs : List V} {st : Stk} {bs : List Addr} (h : StAt K H zs st bs) : zs.length = st.length ∧ bs.length = st.length := by
  induction h with
  | nil => exact ⟨rfl, rfl⟩
  | cons _ _ _ ih => simp [ih.1, ih.2]
/-- the lists stay, and what is no list -/
theorem StAt.keep {H H' : Hp} (kt : KeepT K H H') {zs : List V} {st : Stk} {bs : List Addr} (h : StAt K H zs st bs) (kb : ∀ b ∈ bs, ∀ xs, H b = some (.lst xs) → H' b = some (.lst xs)) : StAt K H' zs st bs := by
  induction h with
  | nil => exact .nil
  | cons hf hn _ ih =>
    obtain ⟨t, xs, rfl, h1, h2, h3⟩ := hf
    exact .cons ⟨t, xs, rfl, kt _ _ h1, kb _ (by simp) _ h2, h3.keepT kt⟩ hn (ih fun b hb => kb b (List.mem_cons_of_mem _ hb))
theorem StAt.lst {H : Hp} {zs : List V} {st : Stk} {bs : List Addr} (h : StAt K H zs st bs) : ∀ b ∈ bs, ∃ xs, H b = some (.lst xs) := by
  induction h with
  | nil => intro b hb; cases hb
  | cons hf _ _ ih =>
    intro b hb
    obtain ⟨t, xs, _, _, h2, _⟩ := hf
    rcases List.mem_cons.mp hb with rfl | hb
    · exact ⟨xs, h2⟩
    · exact ih b hb
def spClosed (K : PySem.W.Frag) : Sp := fun vs H Q _ => ∃ (ar : Addr) (v : V) (zs : List V) (st : Stk) (bs : List Addr) (d : PyData), vs = [.ref ar, v] ∧ H ar = some (.lst zs) ∧ StAt K H zs.reverse st bs ∧ ar ∉ bs ∧ Dt K H v d ∧ (∀ f ∈ st, f.1.length + f.2.length ≤ 1000) ∧
  ∀ v' H' zs' bs', H' ar = some (.lst zs') → StAt K H' zs'.reverse (closeF st d).1 bs' → (∀ b ∈ bs', b ∈ bs) → Dt K H' v' (closeF st d).2 → (∀ b o, H b = some o → b ≠ ar → H' b = some o) → Q v' H'
def muC (ar : Addr) (H : Hp) : Nat := match H ar with | some (.lst xs) => xs.length | _ => 0
theorem ok_closed {f : Addr} {fd : FuncData} (F : Fun K "_closed" "_closed" s_closed f fd) (T : Txt K mg) : FnG P w K mg base CX0 1 f fd P_closed (spClosed K) := by
  refine okG0 F sc_closed (fun vs H Q E h => ?_) fun cdv A outer s H vs Q E hr hg h => ?_
  · obtain ⟨ar, v, zs, st, bs, d, rfl, _⟩ := h
    rfl
  · obtain ⟨ar, v, zs, st, bs, d, rfl, ha, hst, hna, dv, hsz, k⟩ := h
    refine ⟨_, (pss_cons (ps_while PassesOwn.never (pt_up (PW.pt (pw_and (pt_truth (pv 0) (by intro _; rfl)) (pw_and1 (pt_cmpR op_eq (pe_op op_add (pe_callB call_len (by rfl) T.b_len PySem.boot_len (pa_cons (pe_ix ix_tup (pe_ix ix_list (pv 0) (pe_un un_neg pe_int) (fun _ _ => rfl)) pe_int (fun _ _ => rfl)) pa_nil)) pe_int) (pe_ix ix_tup (pe_ix ix_list (pv 0) (pe_un un_neg pe_int) (fun _ _ => rfl)) pe_int (fun _ _ => rfl)) (nomark _))))))
   (pss_cons (ps_asg (pe_bm0 PySem.F.plainAttrs_list PySem.F.slot_list_pop PySem.F.type_list_pop mt_pop (pv 0)) (pg_tup (by rfl) (pgs_cons (pg_name (i := 2) sc_closed.nd rfl (Or.inl rfl)) (pgs_cons (pg_name (i := 3) sc_closed.nd rfl (Or.inl rfl)) pgs_nil))))
  (pss_one (ps_set (i := 1) sc_closed.nd rfl (Or.inl rfl) (pe_callTy call_tuple_of (by rfl) T.b_tuple (by decide +kernel) (pa_cons (pe_op op_cat (pv 3) (pe_lst (pa_cons (pv 1) pa_nil))) pa_nil))))))
  (pss_one (ps_ret (pv 1)))), ?_⟩
    refine while_up (fun σ H1 => ∃ (x2 x3 : Option V) (v1 : V) (zs1 : List V) (st1 : Stk) (bs1 : List Addr) (d1 : PyData), σ = [some (.ref ar), some v1, x2, x3] ∧ H1 ar = some (.lst zs1) ∧ StAt K H1 zs1.reverse st1 bs1 ∧ (∀ b ∈ bs1, b ∈ bs) ∧ Dt K H1 v1 d1 ∧ closeF st1 d1 = closeF st d ∧
        (∀ f ∈ st1, f.1.length + f.2.length ≤ 1000) ∧ ∀ b o, H b = some o → b ≠ ar → H1 b = some o)
      (fun _ H1 => muC ar H1) ⟨none, none, v, zs, st, bs, d, rfl, ha, hst, fun _ h => h, dv, rfl, hsz, fun _ _ h _ => h⟩ ?_
    rintro σ H1 ⟨x2, x3, v1, zs1, st1, bs1, d1, rfl, ha1, hst1, hbs1, dv1, hc1, hsz1, kp1⟩
    refine ⟨_, rfl, !zs1.isEmpty, .inl ⟨zs1, SqL.of ha1, rfl⟩, ?_⟩
    cases st1 with
    | nil =>
      have hz : zs1 = [] := by
        have := hst1.len.1
        rw [List.length_reverse] at this
        exact List.length_eq_zero_iff.mp this
      subst hz
      refine iteFb rfl (iteFb rfl ?_)
      refine ⟨_, rfl, k v1 H1 [] bs1 ha1 ?_ hbs1 ?_ kp1⟩
      · rw [← hc1, closeF_nil]; exact hst1
      · rw [← hc1, closeF_nil]; exact dv1
    | cons fr st2 =>
      obtain ⟨dn, rs⟩ := fr
      generalize ez : zs1.reverse = zr at hst1
      cases hst1 with
      | @cons z zr _ _ b bs2 hf hnb hst2 =>
        have ezs : zs1 = zr.reverse ++ [z] := by rw [← List.reverse_reverse zs1, ez, List.reverse_cons]
        subst ezs
        clear ez
        obtain ⟨t, xs, rfl, ht, hb, ax⟩ := id hf
        have lx : xs.length = dn.length := ax.length
        have hat : atI (zr.reverse ++ [V.ref t]) (-1) = some (.ref t) := atI_last _ _
        have hsz0 : dn.length + rs.length ≤ 1000 := hsz1 (dn, rs) (by simp)
        have nba : b ≠ ar := fun e => hna (by rw [← e]; exact hbs1 b (by simp))
        refine iteTb (by simp) ?_
        refine ⟨_, rfl, _, rfl, ar, _, _, _, rfl, rfl, SqL.of ha1, hat, t, _, _, _, rfl, rfl, ht, at1, _, _, rfl, .inl ⟨_, SqL.of hb, rfl⟩, _, _, rfl, rfl, ?_⟩
        refine ⟨_, rfl, _, rfl, ar, _, _, _, rfl, rfl, SqL.of ha1, hat, t, _, _, _, rfl, rfl, ht, at0, rfl, _, rfl, ?_⟩
        cases rs with
        | cons r rs =>
          refine iteFb (decide_eq_false fun e => by have : (xs.length : Int) + 1 = ((dn.length + 1 + (rs.length + 1) : Nat) : Int) := V.int.inj e; omega) ?_
          refine ⟨_, rfl, k v1 H1 _ (b :: bs2) ha1 ?_ hbs1 ?_ kp1⟩
          · rw [← hc1, closeF_more, List.reverse_append, List.reverse_reverse]; exact .cons hf hnb hst2
          · rw [← hc1, closeF_more]; exact dv1
        | nil =>
          refine iteTb (decide_eq_true (congrArg V.int (show (xs.length : Int) + 1 = ((dn.length + 1 + 0 : Nat) : Int) by omega))) ?_
          refine ⟨_, rfl, .inl ⟨rfl, _, SqL.of ha1⟩, ar, _, .ref t, rfl, rfl, ha1, by simp, ?_⟩
          rw [List.dropLast_concat]
          have kt2 : KeepT K H1 (upd H1 ar (.lst zr.reverse)) := KeepT.upd ha1
          have ha2 : (upd H1 ar (.lst zr.reverse)) ar = some (.lst zr.reverse) := upd_same
          have kp2 : ∀ c o, H1 c = some o → c ≠ ar → (upd H1 ar (.lst zr.reverse)) c = some o := fun c o hc ne => by rw [upd_ne ne]; exact hc
          have ht2 := kt2 _ _ ht
          have hb2 := kp2 _ _ hb nba
          have ax2 := ax.keepT kt2
          have dv2 := dv1.keepT kt2
          have hst3 := hst2.keep kt2 fun c hc ys hy => kp2 _ _ hy fun e => hna (by rw [← e]; exact hbs1 c (List.mem_cons_of_mem _ hc))
          generalize upd H1 ar (.lst zr.reverse) = H2 at ha2 kp2 ht2 hb2 ax2 dv2 hst3 ⊢
          refine ⟨t, _, rfl, ht2, rfl, _, _, rfl, _, _, rfl, rfl, ?_⟩
          refine ⟨_, rfl, _, rfl, sz_1, fun u hu => ⟨b, u, _, _, rfl, rfl, Same.new hu _ _ hb2, upd_same, ?_, fun l hl => ?_⟩⟩
          · exact Nat.le_trans (show xs.length + 1 ≤ 1001 by simp only [List.length_nil] at hsz0; omega) (by decide)
          have S3 := (Same.new (o := .lst [v1]) hu).trans (Same.new (o := .lst (xs ++ [v1])) hl)
          refine ⟨l, _, rfl, .inl ⟨SqL.of upd_same, fun q hq => ?_⟩⟩
          have S4 := S3.trans (Same.new (o := .tup (xs ++ [v1])) hq)
          have dq : Dt K (upd (upd (upd H2 u (.lst [v1])) l (.lst (xs ++ [v1]))) q (.tup (xs ++ [v1]))) (.ref q) (.tuple (dn ++ [d1])) := Dt.made hq (DtAll.app (ax2.mono S3) (.cons (dv2.mono S3) .nil))
          generalize upd (upd (upd H2 u (.lst [v1])) l (.lst (xs ++ [v1]))) q (.tup (xs ++ [v1])) = H5 at S4 dq ⊢
          refine ⟨⟨_, _, _, zr.reverse, st2, bs2, .tuple (dn ++ [d1]), rfl, S4 _ _ ha2, ?_, fun c hc => hbs1 c (List.mem_cons_of_mem _ hc), dq, ?_, fun f hf => hsz1 f (List.mem_cons_of_mem _ hf), fun c o hc ne => S4 _ _ (kp2 _ _ (kp1 _ _ hc ne) ne)⟩, ?_⟩
          · rw [List.reverse_reverse]
            exact hst3.keep (Same.keepT S4) fun c _ ys hy => S4 _ _ hy
          · rw [← hc1, closeF_end]
          · unfold muC
            rw [ha1, S4 _ _ ha2]
            simp
--SPLIT
inductive Lf : PyData → Nat → List Nat → Prop
  | emp : Lf (.tuple []) 0 []
  | str (js : List Nat) : js.length ≤ 200 → (∀ j ∈ js, j < 95) → Lf (.str (tx js)) 1 (strN js)
  | int (i : Int) : i.natAbs < 2 ^ 256 → Lf (.int i) 2 (cnt (zig i))
  | bool (b : Bool) : Lf (.bool b) (3 + if b = true then 1 else 0) []
def spRLeaf (K : PySem.W.Frag) (C : Addr) : Sp := fun vs H Q _ => ∃ (p dx nl rl : Addr) (ns tl rest : List Nat) (i m : Nat) (d : PyData), vs = [.ref p, .int (m : Int)] ∧ RAt C p dx nl rl H i ∧ H nl = some (.lst (nV ns)) ∧ ns.drop i = rest ++ tl ∧ Lf d m rest ∧
  ∀ v H', RAt C p dx nl rl H' (i + rest.length) → KeepR p H H' → KeepT K H H' → Dt K H' v d → Q v H'
theorem RAt.kt {C p dx nl rl : Addr} {H H' : Hp} {i : Nat} (h : RAt C p dx nl rl H i) (k : KeepR p H H') : KeepT K H H' := fun a xs g => by
  rcases g with (g | ⟨o, g⟩) | g
  · exact .inl (.inl (k _ _ g fun e => by subst e; rw [RAt] at h; rw [h] at g; cases g))
  · exact .inl (.inr ⟨o, k _ _ g fun e => by subst e; rw [RAt] at h; rw [h] at g; cases g⟩)
  · exact .inr g
theorem ok_rleaf {C : Addr} {f : Addr} {fd : FuncData} (F : Fun K "_read_leaf" "NumberReader._read_leaf" s_NumberReader__read_leaf f fd) (T : Txt K mg) (UC_NumberReader : UseC K mg "NumberReader" fR C) (U_NumberReader_read_string : UseM P w K mg base CX0 C "read_string" 4 P_NumberReader_read_string (spRStr C))
    (U_NumberReader_read_integer : UseM P w K mg base CX0 C "read_integer" 3 P_NumberReader_read_integer (spRInt C)) : FnG P w K mg base CX0 5 f fd P_NumberReader__read_leaf (spRLeaf K C) := by
  refine okG0 F sc_NumberReader__read_leaf (fun vs H Q E h => ?_) fun cdv A outer s H vs Q E hr hg h => ?_
  · obtain ⟨p, dx, nl, rl, ns, tl, rest, i, m, d, rfl, _⟩ := h
    rfl
  · obtain ⟨p, dx, nl, rl, ns, tl, rest, i, m, d, rfl, hp, hn, hd, hl, k⟩ := h
    refine ⟨_, (pss_cons (ps_if (pt_cmpR op_eq (pv 1) pe_int (nomark _))
   (pss_one (ps_ret (pe_tup pa_nil)))
   pss_nil)
  (pss_cons (ps_if (pt_cmpR op_eq (pv 1) pe_int (nomark _))
   (pss_one (ps_ret (pe_mc UC_NumberReader U_NumberReader_read_string pass0 (hr.mono (by decide)) hg (pv 0) (pa_cons (pe_globI T.c_MOST_IN_NAME (by rfl)) pa_nil))))
   pss_nil)
  (pss_cons (ps_if (pt_cmpR op_eq (pv 1) pe_int (nomark _))
   (pss_one (ps_ret (pe_mc0 UC_NumberReader U_NumberReader_read_integer pass0 (hr.mono (by decide)) hg (pv 0))))
   pss_nil)
  (pss_one (ps_ret (pe_cmpR op_eq (pv 1) pe_int (nomark _))))))), ?_⟩
    cases hl with
    | emp =>
      refine ⟨_, rfl, rfl, _, rfl, iteTb rfl ?_⟩
      refine ⟨sz_0, fun q hq => k _ _ (Same.new hq _ _ hp) (fun b o h _ => Same.new hq _ _ h) (Same.keepT (Same.new hq)) (Dt.made hq .nil)⟩
    | str js h1 h2 =>
      refine ⟨_, rfl, rfl, _, rfl, iteFb rfl ?_⟩
      refine ⟨_, rfl, rfl, _, rfl, iteTb rfl ?_⟩
      refine ⟨_, rfl, p, dx, _, rfl, hp, by rfl, p, dx, nl, rl, ns, tl, js, i, 200, rfl, hp, hn, hd, h2, h1, by decide, fun H1 hp1 kp1 => ?_⟩
      exact k _ _ hp1 kp1 (hp.kt kp1) (.str _)
    | int z h1 =>
      refine ⟨_, rfl, rfl, _, rfl, iteFb rfl ?_⟩
      refine ⟨_, rfl, rfl, _, rfl, iteFb rfl ?_⟩
      refine ⟨_, rfl, rfl, _, rfl, iteTb rfl ?_⟩
      refine ⟨_, rfl, p, dx, _, rfl, hp, by rfl, p, dx, nl, rl, ns, tl, i, z, rfl, hp, hn, hd, h1, fun H1 hp1 kp1 => ?_⟩
      exact k _ _ hp1 kp1 (hp.kt kp1) (.int _)
    | bool b =>
      refine ⟨_, rfl, rfl, _, rfl, iteFb (by cases b <;> rfl) ?_⟩
      refine ⟨_, rfl, rfl, _, rfl, iteFb (by cases b <;> rfl) ?_⟩
      refine ⟨_, rfl, rfl, _, rfl, iteFb (by cases b <;> rfl) ?_⟩
      refine ⟨_, rfl, rfl, ?_⟩
      have := k (.bl b) H (by exact hp) (fun _ _ h _ => h) (KeepT.refl K H) (.bl _)
      cases b <;> exact this
--SPLIT
theorem TrR.leaf {d : PyData} {a : List Nat} (h : TrR d a) (hd : ∀ ds, d ≠ .tuple ds) : ∃ m rest, a = m :: rest ∧ Lf d m rest ∧ m ≠ 0 ∧ m < 5 := by
  cases h with
  | str js h1 h2 => exact ⟨_, _, rfl, .str js h1 h2, by decide, by decide⟩
  | int i h => exact ⟨_, _, rfl, .int i h, by decide, by decide⟩
  | bool b => exact ⟨_, _, rfl, .bool b, by cases b <;> decide, by cases b <;> decide⟩
  | tup ds ns _ _ => exact absurd rfl (hd _)
theorem Rd.head {l : Nat} {ds : List PyData} {ps : List (Nat × PyData)} {ns : List Nat} {o : Option Nat} (h : Rd ((l, .tuple ds) :: ps) ns o) : ∃ rest, ns = 0 :: rest := by
  have hd : ∀ {a : List Nat}, TrR (.tuple ds) a → ∃ r, a = 0 :: r := fun g => by
    cases g with
    | tup _ ms _ _ => exact ⟨_, rfl⟩
  generalize e : (l, PyData.tuple ds) :: ps = qs at h
  cases h with
  | nil => cases e
  | @ok l' d' a ps' b o' h1 h2 h3 =>
    obtain ⟨e1, rfl⟩ := List.cons.inj e
    obtain ⟨rfl, rfl⟩ := Prod.mk.inj e1
    obtain ⟨r, rfl⟩ := hd h1
    exact ⟨_, rfl⟩
  | @bad l' d' a ps' b pl h1 h2 =>
    obtain ⟨e1, rfl⟩ := List.cons.inj e
    obtain ⟨rfl, rfl⟩ := Prod.mk.inj e1
    obtain ⟨r, rfl⟩ := hd h2.rd
    exact ⟨_, rfl⟩
theorem closeF_sub : ∀ (st : Stk) (d : PyData), ∀ f ∈ (closeF st d).1, f ∈ st
  | [], d => by rw [closeF_nil]; exact fun _ h => h
  | (dn, []) :: st, d => by
    rw [closeF_end]
    exact fun f hf => List.mem_cons_of_mem _ (closeF_sub st _ f hf)
  | (dn, r :: rs) :: st, d => by rw [closeF_more]; exact fun _ h => h
theorem Rd.nil_inv {ns : List Nat} {o : Option Nat} (h : Rd [] ns o) : ns = [] ∧ o = none := by
  cases h
  exact ⟨rfl, rfl⟩
/-- what reading gives: a tree, or a refusal at a place -/
def PutsT (K : PySem.W.Frag) (C CB p dx nl rl : Addr) (i n : Nat) (d : PyData) (H : Hp) (Q : VK) (E : XK) : Option Nat → Prop
  | none => ∀ v H', RAt C p dx nl rl H' (i + n) → KeepR p H H' → Dt K H' v d → Q v H'
  | some pl => ∀ dd H', H dd = none → KeepR p H H' → H' dd = some (badD ((i + pl : Nat) : Int)) → E (.ref CB) (some dd) H'
def spRTree (K : PySem.W.Frag) (C CB : Addr) : Sp := fun vs H Q E => ∃ (p dx nl rl : Addr) (ns tl a : List Nat) (i : Nat) (d : PyData) (o : Option Nat), vs = [.ref p] ∧ RAt C p dx nl rl H i ∧ H nl = some (.lst (nV ns)) ∧ ns.drop i = a ++ tl ∧ ns.length ≤ 1000000 ∧ Rd [(0, d)] a o ∧ PutsT K C CB p dx nl rl i a.length d H Q E o
def muR (p : Addr) (n : Nat) (H : Hp) : Nat := match H p with
  | some (.ins _ _ fs) => match fs.lookup ("at" : Str) with
    | some (.int z) => n + 1 - z.toNat
    | _ => 0
  | _ => 0
theorem muR_at {C p dx nl rl : Addr} {H : Hp} {j n : Nat} (h : RAt C p dx nl rl H j) : muR p n H = n + 1 - j := by
  unfold muR
  rw [show H p = _ from h]
  show (match (rf (.ref nl) (.int (j : Int)) (.ref rl)).lookup ("at" : Str) with | some (.int z) => n + 1 - z.toNat | _ => 0) = _
  rw [rf_at]
  rfl
theorem ok_rtree {C CB B : Addr} {f : Addr} {fd : FuncData} (F : Fun K "read_tree" "NumberReader.read_tree" s_NumberReader_read_tree f fd) (T : Txt K mg) (U_BadNumbers : UseB P w K mg base CB B) (UC_NumberReader : UseC K mg "NumberReader" fR C) (U_NumberReader_read_number : UseM P w K mg base CX0 C "read_number" 1 P_NumberReader_read_number (spRNum C))
    (U_NumberReader_read_count : UseM P w K mg base CX0 C "read_count" 2 P_NumberReader_read_count (spRCnt C)) (U_closed : Use P w K mg base CX0 "_closed" 1 P_closed (spClosed K)) (U_NumberReader__read_leaf : UseM P w K mg base CX0 C "_read_leaf" 5 P_NumberReader__read_leaf (spRLeaf K C)) : FnG P w K mg base (L2.CX P w) 6 f fd P_NumberReader_read_tree (spRTree K C CB) := by
  refine okG F sc_NumberReader_read_tree (fun vs H Q E h => ?_) fun cdv A outer s H vs Q E hr hg h => ?_
  · obtain ⟨p, dx, nl, rl, ns, tl, a, i, d, o, rfl, _⟩ := h
    rfl
  · obtain ⟨p, dx, nl, rl, ns, tl, a, i, d, o, rfl, hp, hn, hd, hnl, hrd, k⟩ := h
    refine ⟨_, (pss_cons (ps_set (i := 1) sc_NumberReader_read_tree.nd rfl (Or.inl rfl) (pe_lst pa_nil))
  (pss_one (ps_while (passes_of rfl) (pt_up (pt_val pe_bl))
   (pss_cons (ps_set (i := 2) sc_NumberReader_read_tree.nd rfl (Or.inl rfl) (pe_mc UC_NumberReader U_NumberReader_read_number pass0 (hr.mono (by decide)) hg (pv 0) (pa_cons (pe_globI T.c_TREES (by rfl)) pa_nil)))
  (C8.pss_cut (ps_if (PW.pt (pw_and (pt_cmpR op_eq (pv 2) pe_int (nomark _)) (pw_and1 (pt_cmpR op_ge (pe_callB call_len (by rfl) T.b_len PySem.boot_len (pa_cons (pv 1) pa_nil)) (pe_globI T.c_MOST_TUPLES_AROUND (by rfl)) (nomark _)))))
   (pss_one (ps_raiseB U_BadNumbers rfl (takes_of rfl rfl rfl rfl) (hr.mono (by decide)) rfl (pa_cons (pe_op op_sub (pe_fd UC_NumberReader (by decide +kernel) (pv 0)) pe_int) pa_nil)))
   pss_nil)
  (pss_cons (ps_set (i := 3) sc_NumberReader_read_tree.nd rfl (Or.inl rfl) pe_int)
  (C8.pss_cut (ps_if (pt_cmpR op_eq (pv 2) pe_int (nomark _))
   (pss_one (ps_set (i := 3) sc_NumberReader_read_tree.nd rfl (Or.inl rfl) (pe_mc0 UC_NumberReader U_NumberReader_read_count pass0 (hr.mono (by decide)) hg (pv 0))))
   pss_nil)
  (pss_one (ps_if (pt_cmpR op_gt (pv 3) pe_int (nomark _))
   (pss_one (ps_expr (pe_bm PySem.F.plainAttrs_list PySem.F.slot_list_append PySem.F.type_list_append mt_append (pv 1) (pa_cons (pe_tup (pa_cons (pv 3) (pa_cons (pe_lst pa_nil) pa_nil))) pa_nil))))
   (pss_cons (ps_set (i := 4) sc_NumberReader_read_tree.nd rfl (Or.inl rfl) (pe_use U_closed (hr.mono (by decide)) hg rfl (pa_cons (pv 1) (pa_cons (pe_mc UC_NumberReader U_NumberReader__read_leaf pass0 (hr.mono (by decide)) hg (pv 0) (pa_cons (pv 2) pa_nil)) pa_nil))))
  (pss_cons (ps_if (pt_not (pt_truth (pv 1) (by intro _; rfl)))
   (pss_one (ps_ret (pv 4)))
   pss_nil)
  (pss_one (ps_expr (pe_bm PySem.F.plainAttrs_list PySem.F.slot_list_append PySem.F.type_list_append mt_append (pe_ix ix_tup (pe_ix ix_list (pv 1) (pe_un un_neg pe_int) (fun _ _ => rfl)) pe_int (fun _ _ => rfl)) (pa_cons (pv 4) pa_nil))))))))))))))), ?_⟩
    refine ⟨sz_0, fun ar har => ?_⟩
    have npn : nl ≠ p := ne_of hn hp (by intro z; cases z)
    have nap : ar ≠ p := fun e => by subst e; rw [RAt] at hp; rw [har] at hp; cases hp
    have S0 := Same.new (o := .lst []) har
    refine while_up (fun σ H1 => ∃ (x2 x3 x4 : Option V) (kk : Nat) (st : Stk) (cur : PyData) (rem : List Nat) (o1 : Option Nat) (zs : List V) (bs : List Addr), σ = [some (.ref p), some (.ref ar), x2, x3, x4] ∧ RAt C p dx nl rl H1 (i + kk) ∧ KeepR p H H1 ∧ H1 ar = some (.lst zs) ∧
        StAt K H1 zs.reverse st bs ∧ ar ∉ bs ∧ (∀ b ∈ bs, H b = none) ∧ (∀ f ∈ st, f.1.length + f.2.length ≤ 1000) ∧ st.length ≤ 200 ∧ ns.drop (i + kk) = rem ++ tl ∧ kk + rem.length = a.length ∧ Rd ((st.length, cur) :: restOf st) rem o1 ∧ o = o1.map (kk + ·) ∧ plug st cur = d)
      (fun _ H1 => muR p (i + a.length) H1) ⟨none, none, none, 0, [], d, a, o, [], [], rfl, S0 _ _ hp, fun b o h _ => S0 _ _ h, upd_same, .nil, by simp, by simp, by simp, by simp, hd, by simp, hrd, by cases o <;> simp, rfl⟩ ?_
    rintro σ H1 ⟨x2, x3, x4, kk, st, cur, rem, o1, zs, bs, rfl, hp1, kr1, ha1, hst1, hnb1, hbs1, hsz1, hl1, hd1, hk1, hrd1, ho1, hpl1⟩
    refine ⟨true, rfl, iteTb rfl ?_⟩
    obtain ⟨num, rest, rfl, hnum5, hcase⟩ : ∃ num rest, rem = num :: rest ∧ num < 5 ∧ ((num = 0 ∧ ∃ ds, cur = .tuple ds) ∨ (num ≠ 0 ∧ ∃ ra b o2, Lf cur num ra ∧ rest = ra ++ b ∧ Rd (restOf st) b o2 ∧ o1 = o2.map ((1 + ra.length) + ·))) := by
      by_cases ht : ∃ ds, cur = .tuple ds
      · obtain ⟨ds, rfl⟩ := ht
        obtain ⟨r, rfl⟩ := hrd1.head
        exact ⟨0, r, rfl, by decide, .inl ⟨rfl, ds, rfl⟩⟩
      · have ht : ∀ ds, cur ≠ .tuple ds := fun ds e => ht ⟨ds, e⟩
        obtain ⟨a1, b, o2, rfl, h1, h2, h3⟩ := hrd1.leaf ht
        obtain ⟨m, ra, rfl, h4, h5, h6⟩ := h1.leaf ht
        refine ⟨m, ra ++ b, rfl, h6, .inr ⟨h5, ra, b, o2, h4, rfl, h2, ?_⟩⟩
        rw [h3, List.length_cons, Nat.add_comm]
    have hn1 := kr1 _ _ hn npn
    have hget : ns[i + kk]? = some num := by
      have : (ns.drop (i + kk))[0]? = some num := by rw [hd1]; rfl
      rw [List.getElem?_drop] at this
      exact this
    have hd2 : ns.drop (i + kk + 1) = rest ++ tl := by rw [← List.drop_drop, hd1]; rfl
    have hkl : i + a.length ≤ ns.length := by
      have := congrArg List.length hd
      rw [List.length_drop, List.length_append] at this
      have := (List.getElem?_eq_some_iff.mp hget).1
      have h3 := congrArg List.length hd1
      rw [List.length_drop, List.length_append] at h3
      omega
    rw [List.length_cons] at hk1
    refine ⟨_, rfl, p, dx, _, rfl, hp1, by rfl, p, dx, nl, rl, ns, i + kk, num, 5, rfl, hp1, hn1, hget, hnum5, ?_⟩
    have hp2 : RAt C p dx nl rl (upd H1 p (.ins C dx (rf (.ref nl) (.int ((i + kk + 1 : Nat) : Int)) (.ref rl)))) (i + kk + 1) := upd_same
    have kr2 : KeepR p H1 (upd H1 p (.ins C dx (rf (.ref nl) (.int ((i + kk + 1 : Nat) : Int)) (.ref rl)))) := fun b o e hb => by rw [upd_ne hb]; exact e
    generalize upd H1 p (.ins C dx (rf (.ref nl) (.int ((i + kk + 1 : Nat) : Int)) (.ref rl))) = H2 at hp2 kr2 ⊢
    have kt2 : KeepT K H1 H2 := hp1.kt kr2
    have ha2 := kr2 _ _ ha1 nap
    have nbp : ∀ b ∈ bs, b ≠ p := fun b hb e => by subst e; rw [RAt] at hp; rw [hbs1 _ hb] at hp; cases hp
    have hst2 := hst1.keep kt2 fun b hb xs hx => kr2 _ _ hx (nbp b hb)
    have kr02 : KeepR p H H2 := fun b o e hb => kr2 _ _ (kr1 _ _ e hb) hb
    have hn2 := kr2 _ _ hn1 npn
    have zl : zs.length = st.length := by
      have := hst1.len.1
      rwa [List.length_reverse] at this
    refine ⟨fun σ Hm => σ = [some (.ref p), some (.ref ar), some (.int (num : Int)), x3, x4] ∧ H2 = Hm ∧ ¬ (num = 0 ∧ st.length = 200), ?_, ?_⟩
    · by_cases hov : num = 0 ∧ st.length = 200
      · -- too deep
        obtain ⟨rfl, h200⟩ := hov
        obtain ⟨ds, rfl⟩ : ∃ ds, cur = .tuple ds := by
          rcases hcase with ⟨_, h⟩ | ⟨h, _⟩
          · exact h
          · exact absurd rfl h
        rw [h200] at hrd1
        have e0 := hrd1.over
        subst e0
        rw [Option.map_some] at ho1
        subst ho1
        refine ⟨_, rfl, rfl, _, rfl, iteTb (decide_eq_true rfl) ?_⟩
        refine ⟨_, rfl, _, _, rfl, .inl ⟨_, SqL.of ha2, rfl⟩, _, _, rfl, rfl, _, rfl, iteTb (decide_eq_true (by omega)) ?_⟩
        refine ⟨_, rfl, p, dx, _, _, rfl, hp2, rf_at, _, _, rfl, rfl, _, rfl, ?_, fun dd hdd => ?_⟩
        · exact Nat.lt_of_le_of_lt (show _ ≤ 2000000 by omega) (by decide)
        · have hdd0 : H dd = none := by
            cases e : H dd with
            | none => rfl
            | some o =>
              by_cases hb : dd = p
              · subst hb; rw [RAt] at hp2; rw [hp2] at hdd; cases hdd
              · rw [kr02 _ _ e hb] at hdd; cases hdd
          refine k dd _ hdd0 (fun b o e hb => by rw [upd_ne (ne_of_none e hdd0)]; exact kr02 _ _ e hb) ?_
          rw [upd_same]
          congr 1
          show badD _ = badD _
          congr 1
          omega
      · refine ⟨_, rfl, rfl, _, rfl, ?_⟩
        by_cases h0 : num = 0
        · refine iteTb (decide_eq_true (by rw [h0]; rfl)) ?_
          refine ⟨_, rfl, _, _, rfl, .inl ⟨_, SqL.of ha2, rfl⟩, _, _, rfl, rfl, _, rfl, iteFb (decide_eq_false (by have := fun e => hov ⟨h0, e⟩; omega)) ⟨rfl, rfl, hov⟩⟩
        · exact iteFb (decide_eq_false fun e => h0 (by have := V.int.inj e; omega)) (iteFb rfl ⟨rfl, rfl, hov⟩)
    rintro _ _ ⟨rfl, rfl, hov⟩
    refine ⟨fun σ H3 => ∃ (k2 m : Nat), σ = [some (.ref p), some (.ref ar), some (.int (num : Int)), some (.int (m : Int)), x4] ∧ RAt C p dx nl rl H3 (i + k2) ∧ KeepR p H2 H3 ∧ kk < k2 ∧
        ((∃ d1 ds rem2 o2, m = (d1 :: ds).length ∧ m ≤ 1000 ∧ st.length < 200 ∧ cur = .tuple (d1 :: ds) ∧ ns.drop (i + k2) = rem2 ++ tl ∧ k2 + rem2.length = a.length ∧ Rd ((d1 :: ds).map (fun d => (st.length + 1, d)) ++ restOf st) rem2 o2 ∧ o = o2.map (k2 + ·)) ∨
          (m = 0 ∧ ∃ ra b o2, Lf cur num ra ∧ ns.drop (i + k2) = ra ++ (b ++ tl) ∧ k2 + ra.length + b.length = a.length ∧ Rd (restOf st) b o2 ∧ o = o2.map ((k2 + ra.length) + ·))), ?_, ?_⟩
    · refine ⟨_, rfl, rfl, _, rfl, ?_⟩
      rcases hcase with ⟨rfl, ds, rfl⟩ | ⟨h0, ra, b, o2, hlf, rfl, hrd2, ho2⟩
      · refine iteTb rfl ?_
        have hl2 : st.length < 200 := by
          have := fun e => hov ⟨rfl, e⟩
          omega
        obtain ⟨rem2, o2, e2, hlen, hrd2, ho2⟩ := hrd1.open_ hl2
        obtain rfl := (List.cons.inj e2).2
        rw [List.append_assoc] at hd2
        refine ⟨_, rfl, p, dx, _, rfl, hp2, by rfl, p, dx, nl, rl, ns, rem2 ++ tl, _, ds.length, rfl, hp2, hn2, hd2, Nat.lt_of_le_of_lt hlen (by decide), fun H3 hp3 kr3 => ?_⟩
        rw [List.length_append] at hk1
        refine ⟨kk + 1 + (cnt ds.length).length, ds.length, rfl, ?_, kr3, by omega, ?_⟩
        · rw [show i + (kk + 1 + (cnt ds.length).length) = i + kk + 1 + (cnt ds.length).length by omega]
          exact hp3
        have hd3 : ns.drop (i + (kk + 1 + (cnt ds.length).length)) = rem2 ++ tl := by
          rw [show i + (kk + 1 + (cnt ds.length).length) = i + kk + 1 + (cnt ds.length).length by omega, ← List.drop_drop, hd2, List.drop_left]
        have ho3 : o = o2.map ((kk + 1 + (cnt ds.length).length) + ·) := by
          rw [ho1, ho2]
          cases o2 with
          | none => rfl
          | some z => simp only [Option.map_some]; congr 1; omega
        cases ds with
        | nil => exact .inr ⟨rfl, [], rem2, o2, .emp, hd3, by simp only [List.length_nil] at hk1 ⊢; omega, hrd2, ho3⟩
        | cons d1 ds => exact .inl ⟨d1, ds, rem2, o2, rfl, hlen, hl2, rfl, hd3, by omega, hrd2, ho3⟩
      · refine iteFb (decide_eq_false fun e => h0 (by have := V.int.inj e; omega)) ?_
        refine ⟨kk + 1, 0, rfl, hp2, fun _ _ h _ => h, by omega, .inr ⟨rfl, ra, b, o2, hlf, ?_, ?_, hrd2, ?_⟩⟩
        · rw [List.append_assoc] at hd2; exact hd2
        · rw [List.length_append] at hk1; omega
        · rw [ho1, ho2]
          cases o2 with
          | none => rfl
          | some z => simp only [Option.map_some]; congr 1; omega
    rintro _ H3 ⟨k2, m, rfl, hp3, kr3, hkk, hm⟩
    have kt3 : KeepT K H2 H3 := hp2.kt kr3
    have ha3 := kr3 _ _ ha2 nap
    have hst3 := hst2.keep kt3 fun b hb xs hx => kr3 _ _ hx (nbp b hb)
    have kr03 : KeepR p H H3 := fun b o e hb => kr3 _ _ (kr02 _ _ e hb) hb
    have hn3 := kr3 _ _ hn2 npn
    refine ⟨_, rfl, _, _, rfl, rfl, _, rfl, ?_⟩
    rcases hm with ⟨d1, ds, rem2, o2, rfl, hm1, hl2, rfl, hd3, hk3, hrd3, ho3⟩ | ⟨rfl, ra, b, o2, hlf, hd3, hk3, hrd3, ho3⟩
    · refine iteTb (decide_eq_true (by rw [List.length_cons]; omega)) ?_
      refine ⟨_, rfl, .inl ⟨rfl, _, SqL.of ha3⟩, _, rfl, sz_0, fun bl hbl => ⟨sz_2, fun t ht => ⟨ar, zs, .ref t, rfl, rfl, ?_, ?_, ?_⟩⟩⟩
      · exact Same.new ht _ _ (Same.new hbl _ _ ha3)
      · exact Nat.lt_of_le_of_lt (show zs.length ≤ 200 by omega) (by decide)
      have S4 := (Same.new (o := .lst []) hbl).trans (Same.new (o := .tup [.int ((d1 :: ds).length : Int), .ref bl]) ht)
      have eb4 := Same.new (o := .tup [.int ((d1 :: ds).length : Int), .ref bl]) ht _ _ (show (upd H3 bl (.lst [])) bl = some (.lst []) from upd_same)
      have et4 : SqT K (upd (upd H3 bl (.lst [])) t (.tup [.int ((d1 :: ds).length : Int), .ref bl])) t [.int ((d1 :: ds).length : Int), .ref bl] := SqT.of upd_same
      generalize upd (upd H3 bl (.lst [])) t (.tup [.int ((d1 :: ds).length : Int), .ref bl]) = H4 at S4 eb4 et4 ⊢
      have ha4 := S4 _ _ ha3
      have kt5 : KeepT K H4 (upd H4 ar (.lst (zs ++ [.ref t]))) := KeepT.upd ha4
      have nba : bl ≠ ar := fun e => by subst e; rw [hbl] at ha3; cases ha3
      have nbb : bl ∉ bs := fun hb => by
        obtain ⟨xs, hx⟩ := hst3.lst bl hb
        rw [hbl] at hx; cases hx
      have hbl0 : H bl = none := by
        cases e : H bl with
        | none => rfl
        | some o =>
          by_cases hb : bl = p
          · subst hb; rw [RAt] at hp3; rw [hp3] at hbl; cases hbl
          · rw [kr03 _ _ e hb] at hbl; cases hbl
      have hst5 := (hst3.keep (Same.keepT S4) fun b _ xs hx => S4 _ _ hx).keep kt5 fun b hb xs hx => by rw [upd_ne (fun e => hnb1 (by rw [← e]; exact hb))]; exact hx
      have hp5 : RAt C p dx nl rl (upd H4 ar (.lst (zs ++ [.ref t]))) (i + k2) := by
        show (upd H4 ar _) p = _
        rw [upd_ne (Ne.symm nap)]; exact S4 _ _ hp3
      refine ⟨⟨_, _, _, k2, ([], ds) :: st, d1, rem2, o2, zs ++ [.ref t], bl :: bs, rfl, hp5, fun b o e hb => ?_, upd_same, ?_, ?_, ?_, ?_, ?_, hd3, hk3, ?_, ho3, ?_⟩, ?_⟩
      · rw [upd_ne (ne_of_none e har)]
        exact S4 _ _ (kr03 _ _ e hb)
      · rw [List.reverse_append]
        refine .cons ⟨t, [], rfl, ?_, ?_, .nil⟩ nbb hst5
        · have := kt5 _ _ et4
          rw [List.length_cons] at this
          rw [show (([], ds) : List PyData × List PyData).1.length + 1 + (([], ds) : List PyData × List PyData).2.length = ds.length + 1 by dsimp only; rw [List.length_nil]; omega]
          exact this
        · rw [upd_ne nba]; exact eb4
      · intro h
        rcases List.mem_cons.mp h with h | h
        · exact nba h.symm
        · exact hnb1 h
      · intro b hb
        rcases List.mem_cons.mp hb with rfl | hb
        · exact hbl0
        · exact hbs1 b hb
      · intro f hf
        rcases List.mem_cons.mp hf with rfl | hf
        · dsimp only
          rw [List.length_cons] at hm1
          rw [List.length_nil]
          omega
        · exact hsz1 f hf
      · rw [List.length_cons]; omega
      · rw [List.length_cons]
        exact hrd3
      · rw [← hpl1]; rfl
      · rw [muR_at hp5, muR_at hp1]
        omega
    · refine iteFb (decide_eq_false (by omega)) ?_
      refine ⟨_, rfl, _, rfl, p, dx, _, rfl, hp3, by rfl, _, rfl, p, dx, nl, rl, ns, b ++ tl, ra, i + k2, num, cur, rfl, hp3, hn3, hd3, hlf, fun v H4 hp4 kr4 kt4 dv => ?_⟩
      have ha4 := kr4 _ _ ha3 nap
      have hst4 := hst3.keep kt4 fun b hb xs hx => kr4 _ _ hx (nbp b hb)
      refine ⟨ar, v, zs, st, bs, cur, rfl, ha4, hst4, hnb1, dv, hsz1, fun v' H5 zs' bs' ha5 hst5 hbs5 dv5 kp5 => ?_⟩
      have kr05 : KeepR p H H5 := fun b o e hb => kp5 _ _ (kr4 _ _ (kr03 _ _ e hb) hb) (ne_of_none e har)
      have hp5 : RAt C p dx nl rl H5 (i + k2 + ra.length) := kp5 _ _ hp4 (Ne.symm nap)
      obtain ⟨c1, c2, c3, c4⟩ := closeF_rest st cur
      have c5 : ∀ f ∈ (closeF st cur).1, f ∈ st := closeF_sub st cur
      generalize closeF st cur = q at c1 c2 c3 c4 c5 hst5 dv5
      obtain ⟨st', d'⟩ := q
      dsimp only at c1 c2 c3 c4 c5 hst5 dv5
      refine ⟨_, rfl, !zs'.isEmpty, .inl ⟨zs', SqL.of ha5, rfl⟩, ?_⟩
      have zl' : zs'.length = st'.length := by
        have := hst5.len.1
        rwa [List.length_reverse] at this
      cases st' with
      | nil =>
        have hz : zs' = [] := List.length_eq_zero_iff.mp zl'
        subst hz
        refine iteTb rfl ?_
        rw [← c1] at hrd3
        obtain ⟨rfl, rfl⟩ := hrd3.nil_inv
        rw [Option.map_none] at ho3
        subst ho3
        refine ⟨_, rfl, k v' H5 ?_ kr05 ?_⟩
        · rw [← hk3, List.length_nil, show i + (k2 + ra.length + 0) = i + k2 + ra.length by omega]
          exact hp5
        · have e : d' = d := by rw [← hpl1, ← c2]; rfl
          rw [← e]; exact dv5
      | cons fr st2 =>
        obtain ⟨dn, rs⟩ := fr
        cases rs with
        | nil => exact absurd rfl (c4 _ _ _ rfl)
        | cons r rs =>
        generalize ez : zs'.reverse = zr at hst5
        cases hst5 with
        | @cons z zr _ _ bq bs2 hf hnb hst6 =>
          have ezs : zs' = zr.reverse ++ [z] := by rw [← List.reverse_reverse zs', ez, List.reverse_cons]
          subst ezs
          clear ez
          obtain ⟨t, xs, rfl, ht, hb, ax⟩ := hf
          have lx : xs.length = dn.length := ax.length
          have hat : atI (zr.reverse ++ [V.ref t]) (-1) = some (.ref t) := atI_last _ _
          have hszf : dn.length + (rs.length + 1) ≤ 1000 := hsz1 _ (c5 (dn, r :: rs) (by simp))
          have nba : bq ≠ ar := fun e => hnb1 (by rw [← e]; exact hbs5 bq (by simp))
          have nbp5 : bq ≠ p := nbp _ (hbs5 bq (by simp))
          have hbq0 : H bq = none := hbs1 _ (hbs5 bq (by simp))
          refine iteFb (by simp) ?_
          refine ⟨_, rfl, _, rfl, ar, _, _, _, rfl, rfl, SqL.of ha5, hat, t, _, _, _, rfl, rfl, ht, at1, .inl ⟨rfl, _, SqL.of hb⟩, _, rfl, bq, _, _, rfl, rfl, hb, ?_, ?_⟩
          · exact Nat.lt_of_le_of_lt (show xs.length ≤ 1000 by omega) (by decide)
          have kt6 : KeepT K H5 (upd H5 bq (.lst (xs ++ [v']))) := KeepT.upd hb
          have hp6 : RAt C p dx nl rl (upd H5 bq (.lst (xs ++ [v']))) (i + (k2 + ra.length)) := by
            show (upd H5 bq _) p = _
            rw [upd_ne (Ne.symm nbp5), show i + (k2 + ra.length) = i + k2 + ra.length by omega]
            exact hp5
          have hst7 := hst6.keep kt6 fun c hc ys hy => by rw [upd_ne (fun e => hnb (by rw [← e]; exact hc))]; exact hy
          refine ⟨⟨_, _, _, k2 + ra.length, (dn ++ [d'], rs) :: st2, r, b, o2, zr.reverse ++ [.ref t], bq :: bs2, rfl, hp6, fun c o e hc => ?_, ?_, ?_, fun h => hnb1 (hbs5 _ h), fun c hc => hbs1 _ (hbs5 _ hc), ?_, ?_, ?_, by omega, ?_, ho3, ?_⟩, ?_⟩
          · rw [upd_ne (ne_of_none e hbq0)]; exact kr05 _ _ e hc
          · rw [upd_ne (Ne.symm nba)]; exact ha5
          · rw [List.reverse_append, List.reverse_reverse]
            refine .cons ⟨t, xs ++ [v'], rfl, ?_, upd_same, DtAll.app (ax.keepT kt6) (.cons (dv5.keepT kt6) .nil)⟩ hnb hst7
            have := kt6 _ _ ht
            rw [show (dn ++ [d'], rs).1.length + 1 + (dn ++ [d'], rs).2.length = (dn, r :: rs).1.length + 1 + (dn, r :: rs).2.length by simp only [List.length_append, List.length_cons, List.length_nil]; omega]
            exact this
          · intro f hf
            rcases List.mem_cons.mp hf with rfl | hf
            · simp only [List.length_append, List.length_cons, List.length_nil]
              omega
            · exact hsz1 f (c5 f (List.mem_cons_of_mem _ hf))
          · simp only [List.length_cons] at c3 ⊢
            omega
          · rw [show i + (k2 + ra.length) = i + k2 + ra.length by omega, ← List.drop_drop, hd3, List.drop_left]
          · rw [← c1] at hrd3
            exact hrd3
          · rw [← hpl1, ← c2]
            show plug st2 (.tuple ((dn ++ [d']) ++ r :: rs)) = plug st2 (.tuple (dn ++ d' :: r :: rs))
            rw [List.append_assoc]
            rfl
          · rw [muR_at hp6, muR_at hp1]
            omega
end

section
--SPLIT
end
abbrev s_law_value_numbers : Stmt := top 68
abbrev N_law_value_numbers : List Str := ["value"]
abbrev P_law_value_numbers : List Str := ["value"]
theorem sc_law_value_numbers : FnScope N_law_value_numbers P_law_value_numbers (defScope s_law_value_numbers) := ⟨rfl, rfl, rfl, by decide +kernel, rfl, by decide +kernel, by decide +kernel⟩
section
variable {P : Program} {w : World} {K : PySem.W.Frag} {mg : Str → Option Value} {base : Heap}
def spLVNum (K : PySem.W.Frag) : Sp := fun vs H Q _ => ∃ (v : V) (x : Val), vs = [v] ∧ Dt K H v (valD x) ∧ ValRd x ∧ ∀ l H', H l = none → Same H H' → H' l = some (.lst (nV (enc x))) → Q (.ref l) H'
theorem ok_lvnum {f : Addr} {fd : FuncData} (F : Fun K "_law_value_numbers" "_law_value_numbers" s_law_value_numbers f fd) (T : Txt K mg) (U_law_integer : Use P w K mg base CX0 "_law_integer" 2 P_law_integer (spLInt K)) (U_law_string : Use P w K mg base CX0 "_law_string" 2 P_law_string (spWStr K)) (U_law_count : Use P w K mg base CX0 "_law_count" 1 P_law_count (spLCount K)) :
    FnG P w K mg base CX0 3 f fd P_law_value_numbers (spLVNum K) := by
  refine okG0 F sc_law_value_numbers (fun vs H Q E h => ?_) fun cdv A outer s H vs Q E hr hg h => ?_
  · obtain ⟨v, x, rfl, _⟩ := h
    rfl
  · obtain ⟨v, x, rfl, dv, ok, k⟩ := h
    refine ⟨_, (pss_cons (ps_if (pt_cmpR op_eq (pe_ix ix_tup (pv 0) pe_int (fun _ _ => rfl)) pe_str (nomark _))
   (pss_one (ps_ret (pe_lst (pa_cons pe_int pa_nil))))
   pss_nil)
  (pss_cons (ps_if (pt_cmpR op_eq (pe_ix ix_tup (pv 0) pe_int (fun _ _ => rfl)) pe_str (nomark _))
   (pss_one (ps_ret (pe_lst (pa_cons (pe_op op_add pe_int (pe_callTy call_int1 (by rfl) T.b_int (by decide +kernel) (pa_cons (pe_ix ix_tup (pv 0) pe_int (fun _ _ => rfl)) pa_nil))) pa_nil))))
   pss_nil)
  (pss_cons (ps_if (pt_cmpR op_eq (pe_ix ix_tup (pv 0) pe_int (fun _ _ => rfl)) pe_str (nomark _))
   (pss_one (ps_ret (pe_op op_cat (pe_lst (pa_cons pe_int pa_nil)) (pe_use U_law_integer (hr.mono (by decide)) hg rfl (pa_cons (pe_ix ix_tup (pv 0) pe_int (fun _ _ => rfl)) pa_nil)))))
   pss_nil)
  (pss_cons (ps_if (pt_cmpR op_eq (pe_ix ix_tup (pv 0) pe_int (fun _ _ => rfl)) pe_str (nomark _))
   (pss_one (ps_ret (pe_op op_cat (pe_lst (pa_cons pe_int pa_nil)) (pe_use U_law_string (hr.mono (by decide)) hg rfl (pa_cons (pe_ix ix_tup (pv 0) pe_int (fun _ _ => rfl)) pa_nil)))))
   pss_nil)
  (pss_cons (ps_if (pt_cmpR op_eq (pe_ix ix_tup (pv 0) pe_int (fun _ _ => rfl)) pe_str (nomark _))
   (pss_one (ps_ret (pe_op op_cat (pe_op op_cat (pe_lst (pa_cons pe_int pa_nil)) (pe_use U_law_integer (hr.mono (by decide)) hg rfl (pa_cons (pe_ix ix_tup (pv 0) pe_int (fun _ _ => rfl)) pa_nil))) (pe_use U_law_integer (hr.mono (by decide)) hg rfl (pa_cons (pe_ix ix_tup (pv 0) pe_int (fun _ _ => rfl)) pa_nil)))))
   pss_nil)
  (pss_cons (ps_if (pt_cmpR op_eq (pe_ix ix_tup (pv 0) pe_int (fun _ _ => rfl)) pe_str (nomark _))
   (pss_one (ps_ret (pe_op op_cat (pe_lst (pa_cons pe_int pa_nil)) (pe_use U_law_string (hr.mono (by decide)) hg rfl (pa_cons (pe_ix ix_tup (pv 0) pe_int (fun _ _ => rfl)) pa_nil)))))
   pss_nil)
  (pss_cons (ps_if (pt_cmpR op_eq (pe_ix ix_tup (pv 0) pe_int (fun _ _ => rfl)) pe_str (nomark _))
   (pss_one (ps_ret (pe_op op_cat (pe_lst (pa_cons pe_int pa_nil)) (pe_use U_law_string (hr.mono (by decide)) hg rfl (pa_cons (pe_ix ix_tup (pv 0) pe_int (fun _ _ => rfl)) pa_nil)))))
   pss_nil)
  (pss_one (ps_ret (pe_op op_cat (pe_lst (pa_cons pe_int pa_nil)) (pe_use U_law_count (hr.mono (by decide)) hg rfl (pa_cons (pe_ix ix_tup (pv 0) pe_int (fun _ _ => rfl)) pa_nil)))))))))))), ?_⟩
    have cat : ∀ {H1 : Hp} {l1 l2 : Addr} {a b : List Nat}, Same H H1 → H1 l1 = some (.lst (nV a)) → H1 l2 = some (.lst (nV b)) → a.length + b.length ≤ 3000 → ∀ {R : Addr → Hp → Prop}, (∀ l, H1 l = none → ∀ H2, Same H H2 → H l = none → Same H1 H2 → H2 l = some (.lst (nV (a ++ b))) → R l H2) → ∀ {R2 : V → Hp → Prop}, (∀ l H2, R l H2 → R2 (.ref l) H2) → rCat (.ref l1) (.ref l2) H1 R2 :=
      fun S e1 e2 hl R hR R2 h2 => ⟨_, _, _, _, rfl, rfl, e1, e2, by rw [nV_len, nV_len]; exact Nat.le_trans hl (by decide), fun l h => h2 _ _ (hR l h _ (S.trans (Same.new h)) (Same.free S h) (Same.new h) (by rw [upd_same, nV_app]))⟩
    have c40 : ∀ n, n < 128 ^ 40 → (cnt n).length ≤ 40 := fun n h => cnt_len 39 n h
    cases x with
    | none =>
      obtain ⟨q, ws, rfl, hq, aw⟩ := dv.head
      refine ⟨_, rfl, q, _, _, _, rfl, rfl, hq, at0, rfl, _, rfl, iteTb (by decide +kernel) ?_⟩
      exact ⟨sz_1, fun l hl => k l _ hl (Same.new hl) upd_same⟩
    | bool b =>
      obtain ⟨q, y, rfl, hq, dy⟩ := Dt.pair (z := "bool") dv
      cases dy.bool_inv
      refine ⟨_, rfl, q, _, _, _, rfl, rfl, hq, at0, rfl, _, rfl, iteFb (by decide +kernel) ?_⟩
      refine ⟨_, rfl, q, _, _, _, rfl, rfl, hq, at0, rfl, _, rfl, iteTb (by decide +kernel) ?_⟩
      refine ⟨_, rfl, q, _, _, _, rfl, rfl, hq, at1, .inr ⟨_, rfl, _, _, rfl, rfl, sz_1, fun l hl => ?_⟩⟩
      refine k l _ hl (Same.new hl) ?_
      rw [upd_same]
      cases b <;> rfl
    | int i =>
      have ok : i.natAbs < 2 ^ 256 := ok
      obtain ⟨q, y, rfl, hq, dy⟩ := Dt.pair (z := "int") dv
      cases dy.int_inv
      refine ⟨_, rfl, q, _, _, _, rfl, rfl, hq, at0, rfl, _, rfl, iteFb (by decide +kernel) ?_⟩
      refine ⟨_, rfl, q, _, _, _, rfl, rfl, hq, at0, rfl, _, rfl, iteFb (by decide +kernel) ?_⟩
      refine ⟨_, rfl, q, _, _, _, rfl, rfl, hq, at0, rfl, _, rfl, iteTb (by decide +kernel) ?_⟩
      refine ⟨sz_1, fun l1 h1 => ?_⟩
      have S1 := Same.new (o := .lst (nV [3])) h1
      refine ⟨_, rfl, q, _, _, _, rfl, rfl, SqT.mono hq S1, at1, i, rfl, ok, fun l2 H2 n2 S2 e2 => ?_⟩
      have hl := c40 _ (zig40 ok)
      exact cat (a := [3]) (S1.trans S2) (S2 _ _ upd_same) e2 (by rw [List.length_singleton]; omega) (R := fun l H => Q (.ref l) H) (fun l _ H3 S3 n3 _ e3 => k l H3 n3 S3 e3) fun _ _ h => h
    | text js =>
      obtain ⟨hx1, hx2⟩ : js.length ≤ 1000 ∧ ∀ j ∈ js, j < 95 := ok
      obtain ⟨q, y, rfl, hq, dy⟩ := Dt.pair (z := "text") dv
      cases dy.str_inv
      refine ⟨_, rfl, q, _, _, _, rfl, rfl, hq, at0, rfl, _, rfl, iteFb (by decide +kernel) ?_⟩
      refine ⟨_, rfl, q, _, _, _, rfl, rfl, hq, at0, rfl, _, rfl, iteFb (by decide +kernel) ?_⟩
      refine ⟨_, rfl, q, _, _, _, rfl, rfl, hq, at0, rfl, _, rfl, iteFb (by decide +kernel) ?_⟩
      refine ⟨_, rfl, q, _, _, _, rfl, rfl, hq, at0, rfl, _, rfl, iteTb (by decide +kernel) ?_⟩
      refine ⟨sz_1, fun l1 h1 => ?_⟩
      have S1 := Same.new (o := .lst (nV [4])) h1
      refine ⟨_, rfl, q, _, _, _, rfl, rfl, SqT.mono hq S1, at1, js, rfl, by omega, hx2, fun l2 H2 n2 S2 e2 => ?_⟩
      have hl := c40 js.length (Nat.lt_of_le_of_lt hx1 (by decide +kernel))
      exact cat (a := [4]) (S1.trans S2) (S2 _ _ upd_same) e2 (by rw [strN, List.length_append, List.length_singleton]; omega) (R := fun l H => Q (.ref l) H) (fun l _ H3 S3 n3 _ e3 => k l H3 n3 S3 e3) fun _ _ h => h
    | span a b =>
      obtain ⟨ok1, ok2⟩ : a.natAbs < 2 ^ 256 ∧ b.natAbs < 2 ^ 256 := ok
      obtain ⟨q, x1, y1, rfl, hq, d1, d2⟩ := Dt.triple (z := "span") dv
      cases d1.int_inv
      cases d2.int_inv
      refine ⟨_, rfl, q, _, _, _, rfl, rfl, hq, at0, rfl, _, rfl, iteFb (by decide +kernel) ?_⟩
      refine ⟨_, rfl, q, _, _, _, rfl, rfl, hq, at0, rfl, _, rfl, iteFb (by decide +kernel) ?_⟩
      refine ⟨_, rfl, q, _, _, _, rfl, rfl, hq, at0, rfl, _, rfl, iteFb (by decide +kernel) ?_⟩
      refine ⟨_, rfl, q, _, _, _, rfl, rfl, hq, at0, rfl, _, rfl, iteFb (by decide +kernel) ?_⟩
      refine ⟨_, rfl, q, _, _, _, rfl, rfl, hq, at0, rfl, _, rfl, iteTb (by decide +kernel) ?_⟩
      refine ⟨sz_1, fun l1 h1 => ?_⟩
      have S1 := Same.new (o := .lst (nV [5])) h1
      refine ⟨_, rfl, q, _, _, _, rfl, rfl, SqT.mono hq S1, at1, a, rfl, ok1, fun l2 H2 n2 S2 e2 => ?_⟩
      have hl1 := c40 _ (zig40 ok1)
      have hl2 := c40 _ (zig40 ok2)
      refine cat (a := [5]) (S1.trans S2) (S2 _ _ upd_same) e2 (by rw [List.length_singleton]; omega) (R := fun l H3 => Same H H3 ∧ H3 l = some (.lst (nV ([5] ++ cnt (zig a)))) ∧ SqT K H3 q [.str "span", .int a, .int b]) (fun l _ H3 S3 n3 S23 e3 => ⟨S3, e3, SqT.mono hq S3⟩) fun l3 H3 ⟨S3, e3, hq3⟩ => ?_
      refine ⟨_, rfl, q, _, _, _, rfl, rfl, hq3, at2, b, rfl, ok2, fun l4 H4 n4 S4 e4 => ?_⟩
      exact cat (S3.trans S4) (S4 _ _ e3) e4 (by rw [List.length_append, List.length_singleton]; omega) (R := fun l H => Q (.ref l) H) (fun l _ H5 S5 n5 _ e5 => k l H5 n5 S5 (by rw [e5]; simp [enc])) fun _ _ h => h
    | built js =>
      obtain ⟨hx1, hx2⟩ : js.length ≤ 200 ∧ ∀ j ∈ js, j < 95 := ok
      obtain ⟨q, y, rfl, hq, dy⟩ := Dt.pair (z := "built") dv
      cases dy.str_inv
      refine ⟨_, rfl, q, _, _, _, rfl, rfl, hq, at0, rfl, _, rfl, iteFb (by decide +kernel) ?_⟩
      refine ⟨_, rfl, q, _, _, _, rfl, rfl, hq, at0, rfl, _, rfl, iteFb (by decide +kernel) ?_⟩
      refine ⟨_, rfl, q, _, _, _, rfl, rfl, hq, at0, rfl, _, rfl, iteFb (by decide +kernel) ?_⟩
      refine ⟨_, rfl, q, _, _, _, rfl, rfl, hq, at0, rfl, _, rfl, iteFb (by decide +kernel) ?_⟩
      refine ⟨_, rfl, q, _, _, _, rfl, rfl, hq, at0, rfl, _, rfl, iteFb (by decide +kernel) ?_⟩
      refine ⟨_, rfl, q, _, _, _, rfl, rfl, hq, at0, rfl, _, rfl, iteTb (by decide +kernel) ?_⟩
      refine ⟨sz_1, fun l1 h1 => ?_⟩
      have S1 := Same.new (o := .lst (nV [6])) h1
      refine ⟨_, rfl, q, _, _, _, rfl, rfl, SqT.mono hq S1, at1, js, rfl, by omega, hx2, fun l2 H2 n2 S2 e2 => ?_⟩
      have hl := c40 js.length (Nat.lt_of_le_of_lt hx1 (by decide +kernel))
      exact cat (a := [6]) (S1.trans S2) (S2 _ _ upd_same) e2 (by rw [strN, List.length_append, List.length_singleton]; omega) (R := fun l H => Q (.ref l) H) (fun l _ H3 S3 n3 _ e3 => k l H3 n3 S3 e3) fun _ _ h => h
    | host js =>
      obtain ⟨hx1, hx2⟩ : js.length ≤ 200 ∧ ∀ j ∈ js, j < 95 := ok
      obtain ⟨q, y, rfl, hq, dy⟩ := Dt.pair (z := "host") dv
      cases dy.str_inv
      refine ⟨_, rfl, q, _, _, _, rfl, rfl, hq, at0, rfl, _, rfl, iteFb (by decide +kernel) ?_⟩
      refine ⟨_, rfl, q, _, _, _, rfl, rfl, hq, at0, rfl, _, rfl, iteFb (by decide +kernel) ?_⟩
      refine ⟨_, rfl, q, _, _, _, rfl, rfl, hq, at0, rfl, _, rfl, iteFb (by decide +kernel) ?_⟩
      refine ⟨_, rfl, q, _, _, _, rfl, rfl, hq, at0, rfl, _, rfl, iteFb (by decide +kernel) ?_⟩
      refine ⟨_, rfl, q, _, _, _, rfl, rfl, hq, at0, rfl, _, rfl, iteFb (by decide +kernel) ?_⟩
      refine ⟨_, rfl, q, _, _, _, rfl, rfl, hq, at0, rfl, _, rfl, iteFb (by decide +kernel) ?_⟩
      refine ⟨_, rfl, q, _, _, _, rfl, rfl, hq, at0, rfl, _, rfl, iteTb (by decide +kernel) ?_⟩
      refine ⟨sz_1, fun l1 h1 => ?_⟩
      have S1 := Same.new (o := .lst (nV [7])) h1
      refine ⟨_, rfl, q, _, _, _, rfl, rfl, SqT.mono hq S1, at1, js, rfl, by omega, hx2, fun l2 H2 n2 S2 e2 => ?_⟩
      have hl := c40 js.length (Nat.lt_of_le_of_lt hx1 (by decide +kernel))
      exact cat (a := [7]) (S1.trans S2) (S2 _ _ upd_same) e2 (by rw [strN, List.length_append, List.length_singleton]; omega) (R := fun l H => Q (.ref l) H) (fun l _ H3 S3 n3 _ e3 => k l H3 n3 S3 e3) fun _ _ h => h
    | ref n =>
      have ok : n < 128 ^ 40 := ok
      obtain ⟨q, y, rfl, hq, dy⟩ := Dt.pair (z := "ref") dv
      cases dy.int_inv
      refine ⟨_, rfl, q, _, _, _, rfl, rfl, hq, at0, rfl, _, rfl, iteFb (by decide +kernel) ?_⟩
      refine ⟨_, rfl, q, _, _, _, rfl, rfl, hq, at0, rfl, _, rfl, iteFb (by decide +kernel) ?_⟩
      refine ⟨_, rfl, q, _, _, _, rfl, rfl, hq, at0, rfl, _, rfl, iteFb (by decide +kernel) ?_⟩
      refine ⟨_, rfl, q, _, _, _, rfl, rfl, hq, at0, rfl, _, rfl, iteFb (by decide +kernel) ?_⟩
      refine ⟨_, rfl, q, _, _, _, rfl, rfl, hq, at0, rfl, _, rfl, iteFb (by decide +kernel) ?_⟩
      refine ⟨_, rfl, q, _, _, _, rfl, rfl, hq, at0, rfl, _, rfl, iteFb (by decide +kernel) ?_⟩
      refine ⟨_, rfl, q, _, _, _, rfl, rfl, hq, at0, rfl, _, rfl, iteFb (by decide +kernel) ?_⟩
      refine ⟨sz_1, fun l1 h1 => ?_⟩
      have S1 := Same.new (o := .lst (nV [8])) h1
      refine ⟨_, rfl, q, _, _, _, rfl, rfl, SqT.mono hq S1, at1, n, rfl, ok, fun l2 H2 n2 S2 e2 => ?_⟩
      have hl := c40 _ ok
      exact cat (a := [8]) (S1.trans S2) (S2 _ _ upd_same) e2 (by rw [List.length_singleton]; omega) (R := fun l H => Q (.ref l) H) (fun l _ H3 S3 n3 _ e3 => k l H3 n3 S3 e3) fun _ _ h => h
theorem rd_len {x : Val} (h : ValRd x) : (enc x).length ≤ 2000 := by
  have c : ∀ n, n < 128 ^ 40 → (cnt n).length ≤ 40 := fun n h => cnt_len 39 n h
  have st : ∀ (js : List Nat), js.length ≤ 1000 → (strN js).length ≤ 1040 := fun js h => by
    have h1 := c js.length (Nat.lt_of_le_of_lt h (by decide +kernel))
    rw [strN, List.length_append]; omega
  cases x with
  | none => simp [enc]
  | bool b => simp [enc]
  | int i => have := c _ (zig40 h); simp [enc]; omega
  | text js => have := st js h.1; simp [enc]; omega
  | built js => have h' : js.length ≤ 200 := h.1; have := st js (by omega); simp [enc]; omega
  | host js => have h' : js.length ≤ 200 := h.1; have := st js (by omega); simp [enc]; omega
  | ref n => have := c n h; simp [enc]; omega
  | span a b => have h1 := c _ (zig40 h.1); have h2 := c _ (zig40 h.2); simp [enc]; omega
theorem sm_rd : ∀ {x : Val}, ValSm x → ValRd x
  | .none, _ => trivial
  | .bool _, _ => trivial
  | .int _, h => h
  | .text _, h => ⟨Nat.le_trans h.len (by decide), h.lt⟩
  | .span _ _, h => h
  | .built _, h => ⟨Nat.le_trans h.len (by decide), h.lt⟩
  | .host _, h => ⟨Nat.le_trans h.len (by decide), h.lt⟩
  | .ref _, h => Nat.lt_trans h (by decide +kernel)
end

section
--SPLIT
end
section
variable {P : Program} {w : World} {K : PySem.W.Frag} {mg : Str → Option Value} {base : Heap}
/-- the numbers of a field -/
def FldE : Fld → List Nat → Prop
  | .v x, ns => ns = enc x
  | .V xs, ns => ns = cnt xs.length ++ xs.flatMap enc
  | .W ps, ns => ns = cnt ps.length ++ ps.flatMap fun p => enc p.1 ++ enc p.2
  | .X ps, ns => ns = cnt ps.length ++ ps.flatMap fun p => strN p.1 ++ enc p.2
  | .t d, ns => TrL 5 d ns
  | .a k, ns => ns = cnt k
  | .b k, ns => ns = cnt (k + 1).toNat
  | .n i, ns => ns = cnt (zig i)
  | .x js, ns => ns = strN js
  | .s0, ns => ns = [0]
  | .s1 z, ns => (z = "break" ∧ ns = [1]) ∨ (z = "continue" ∧ ns = [2])
  | .s2 z x, ns => (z = "return" ∧ ns = 3 :: enc x) ∨ (z = "raise" ∧ ns = 4 :: enc x)
theorem sm_len {x : Val} (h : ValSm x) : (enc x).length ≤ 100 := by
  have c : ∀ n, n < 128 ^ 40 → (cnt n).length ≤ 40 := fun n h => cnt_len 39 n h
  have st : ∀ (js : List Nat), TxSm js → (strN js).length ≤ 52 := fun js h => by
    have h1 := c js.length (Nat.lt_of_le_of_lt h.len (by decide +kernel))
    have := h.len
    rw [strN, List.length_append]; omega
  cases x with
  | none => simp [enc]
  | bool b => simp [enc]
  | int i => have := c _ (zig40 h); simp [enc]; omega
  | text js => have := st js h; simp [enc]; omega
  | built js => have := st js h; simp [enc]; omega
  | host js => have := st js h; simp [enc]; omega
  | ref n => have := c n (Nat.lt_trans h (by decide +kernel)); simp [enc]; omega
  | span a b => have h1 := c _ (zig40 h.1); have h2 := c _ (zig40 h.2); simp [enc]; omega
theorem tx_len2 {js : List Nat} (h : TxSm js) : (strN js).length ≤ 52 := by
  have h1 := cnt_len 39 js.length (Nat.lt_of_le_of_lt h.len (by decide +kernel))
  have := h.len
  rw [strN, List.length_append]; omega
theorem fm_le {α : Type} {g : α → List Nat} {b : Nat} : ∀ {xs : List α}, (∀ x ∈ xs, (g x).length ≤ b) → (xs.flatMap g).length ≤ xs.length * b
  | [], _ => by simp
  | x :: xs, h => by
    have h1 := h x (by simp)
    have h2 := fm_le (xs := xs) fun y hy => h y (List.mem_cons_of_mem _ hy)
    rw [List.flatMap_cons, List.length_append, List.length_cons, Nat.succ_mul]
    omega
theorem cnt_b {n : Nat} (h : n ≤ 10 ^ 6) : (cnt n).length ≤ 3 := cnt_len 2 _ (Nat.lt_of_le_of_lt h (by decide))
theorem fld_e {m : Nat} (hm : m ≤ 10 ^ 6) : ∀ {x : Fld}, FldSm m x → ∃ ns, FldE x ns ∧ ns.length ≤ 10000
  | .v x, h => ⟨_, rfl, Nat.le_trans (sm_len h) (by decide)⟩
  | .V xs, h => ⟨_, rfl, by
    have h1 := fm_le (b := 100) (g := enc) (xs := xs) fun x hx => sm_len (h.2 x hx)
    have h2 := cnt_small (n := xs.length) (Nat.le_trans h.1 (by decide))
    have := h.1
    rw [List.length_append]; omega⟩
  | .W ps, h => ⟨_, rfl, by
    have h1 := fm_le (b := 200) (g := fun p : Val × Val => enc p.1 ++ enc p.2) (xs := ps) fun x hx => by
      have a := sm_len (h.2 x hx).1
      have b := sm_len (h.2 x hx).2
      rw [List.length_append]; omega
    have h2 := cnt_small (n := ps.length) (Nat.le_trans h.1 (by decide))
    have := h.1
    rw [List.length_append]; omega⟩
  | .X ps, h => ⟨_, rfl, by
    have h1 := fm_le (b := 200) (g := fun p : List Nat × Val => strN p.1 ++ enc p.2) (xs := ps) fun x hx => by
      have a := tx_len2 (h.2 x hx).1
      have b := sm_len (h.2 x hx).2
      rw [List.length_append]; omega
    have h2 := cnt_small (n := ps.length) (Nat.le_trans h.1 (by decide))
    have := h.1
    rw [List.length_append]; omega⟩
  | .t d, h => by
    obtain ⟨ns, h1, h2⟩ := tree_enc (TreeD.le (m := 5) (by decide) h)
    have h0 : TreeD 3 d := h
    obtain ⟨ns3, h13, h23⟩ := tree_enc h0
    exact ⟨ns3, (by rw [h13.rd.det h1.rd]; exact h1), Nat.le_trans h23 (by decide)⟩
  | .a k, h => ⟨_, rfl, Nat.le_trans (cnt_b (n := k) (by have : k < m := h; omega)) (by decide)⟩
  | .b k, h => ⟨_, rfl, Nat.le_trans (cnt_b (n := (k + 1).toNat) (by have h1 : -1 ≤ k := h.1; have h2 : k < (m : Int) := h.2; omega)) (by decide)⟩
  | .n i, h => ⟨_, rfl, Nat.le_trans (cnt_len 39 _ (zig40 h)) (by decide)⟩
  | .x js, h => ⟨_, rfl, Nat.le_trans (tx_len2 h) (by decide)⟩
  | .s0, _ => ⟨_, rfl, by simp⟩
  | .s1 z, h => by
    rcases h with rfl | rfl
    · exact ⟨[1], .inl ⟨rfl, rfl⟩, by simp⟩
    · exact ⟨[2], .inr ⟨rfl, rfl⟩, by simp⟩
  | .s2 z x, h => by
    have hl := sm_len h.2
    rcases h.1 with rfl | rfl
    · exact ⟨_, .inl ⟨rfl, rfl⟩, by rw [List.length_cons]; omega⟩
    · exact ⟨_, .inr ⟨rfl, rfl⟩, by rw [List.length_cons]; omega⟩
theorem val_wd (x : Val) : Wd 1 (valD x) := by
  have at0 : ∀ n (d : PyData), (∃ z, d = .str z) ∨ (∃ i, d = .int i) ∨ (∃ b, d = .bool b) → Wd n d := fun n d h => by
    rcases h with ⟨z, rfl⟩ | ⟨i, rfl⟩ | ⟨b, rfl⟩
    · exact .str z
    · exact .int i
    · exact .bool b
  cases x <;> refine .tup (by simp) fun d hd => at0 _ d ?_ <;> simp at hd
  case none => exact .inl ⟨_, hd⟩
  case bool b =>
    rcases hd with h | h
    · exact .inl ⟨_, h⟩
    · exact .inr (.inr ⟨_, h⟩)
  case int i =>
    rcases hd with h | h
    · exact .inl ⟨_, h⟩
    · exact .inr (.inl ⟨_, h⟩)
  case text js =>
    rcases hd with h | h
    · exact .inl ⟨_, h⟩
    · exact .inl ⟨_, h⟩
  case span a b =>
    rcases hd with h | h | h
    · exact .inl ⟨_, h⟩
    · exact .inr (.inl ⟨_, h⟩)
    · exact .inr (.inl ⟨_, h⟩)
  case built js =>
    rcases hd with h | h
    · exact .inl ⟨_, h⟩
    · exact .inl ⟨_, h⟩
  case host js =>
    rcases hd with h | h
    · exact .inl ⟨_, h⟩
    · exact .inl ⟨_, h⟩
  case ref n =>
    rcases hd with h | h
    · exact .inl ⟨_, h⟩
    · exact .inr (.inl ⟨_, h⟩)
theorem fld_wd {m : Nat} : ∀ {x : Fld}, FldSm m x → Wd 4 (fldD x)
  | .v x, _ => (val_wd x).up (by decide)
  | .V xs, h => (Wd.tup (n := 1) (by rw [List.length_map]; have := h.1; omega) fun d hd => by
    obtain ⟨x, _, rfl⟩ := List.mem_map.mp hd
    exact val_wd x).up (by decide)
  | .W ps, h => (Wd.tup (n := 2) (by rw [List.length_map]; have := h.1; omega) fun d hd => by
    obtain ⟨x, _, rfl⟩ := List.mem_map.mp hd
    refine .tup (by simp) fun e he => ?_
    rcases List.mem_cons.mp he with rfl | he
    · exact val_wd _
    · rw [List.mem_singleton.mp he]; exact val_wd _).up (by decide)
  | .X ps, h => (Wd.tup (n := 2) (by rw [List.length_map]; have := h.1; omega) fun d hd => by
    obtain ⟨x, _, rfl⟩ := List.mem_map.mp hd
    refine .tup (by simp) fun e he => ?_
    rcases List.mem_cons.mp he with rfl | he
    · exact .str _
    · rw [List.mem_singleton.mp he]; exact val_wd _).up (by decide)
  | .t d, h => (tree_wd h).up (by decide)
  | .a k, _ => .int _
  | .b k, _ => .int _
  | .n i, _ => .int _
  | .x js, _ => .str _
  | .s0, _ => (Wd.tup (n := 0) (by simp) fun d hd => by cases hd).up (by decide)
  | .s1 z, _ => (Wd.tup (n := 0) (by simp) fun d hd => by rw [List.mem_singleton.mp hd]; exact .str _).up (by decide)
  | .s2 z x, _ => (Wd.tup (n := 1) (by simp) fun d hd => by
    rcases List.mem_cons.mp hd with rfl | hd
    · exact .str _
    · rw [List.mem_singleton.mp hd]; exact val_wd _).up (by decide)
/-- the numbers of a row of fields -/
inductive FldsE : List Fld → List Nat → Prop
  | nil : FldsE [] []
  | cons {x : Fld} {xs : List Fld} {a b : List Nat} : FldE x a → a.length ≤ 10000 → FldsE xs b → FldsE (x :: xs) (a ++ b)
theorem flds_e {m : Nat} (hm : m ≤ 10 ^ 6) : ∀ {xs : List Fld}, (∀ x ∈ xs, FldSm m x) → ∃ ns, FldsE xs ns ∧ ns.length ≤ xs.length * 10000
  | [], _ => ⟨[], .nil, by simp⟩
  | x :: xs, h => by
    obtain ⟨a, h1, h2⟩ := fld_e hm (h x (by simp))
    obtain ⟨b, h3, h4⟩ := flds_e hm (xs := xs) fun y hy => h y (List.mem_cons_of_mem _ hy)
    refine ⟨a ++ b, .cons h1 h2 h3, ?_⟩
    rw [List.length_append, List.length_cons, Nat.succ_mul]
    omega
/-- what is written up to the i-th field -/
theorem FldsE.at : ∀ {xs : List Fld} {ns : List Nat}, FldsE xs ns → ∃ ls : List (List Nat), ls.length = xs.length ∧ ns = ls.flatten ∧ (∀ (i : Nat) (x : Fld) (l : List Nat), xs[i]? = some x → ls[i]? = some l → FldE x l) ∧ ∀ l ∈ ls, l.length ≤ 10000
  | _, _, .nil => ⟨[], rfl, rfl, fun i x l h => by simp at h, by simp⟩
  | _, _, .cons (a := a) h1 h2 t => by
    obtain ⟨ls, e1, e2, e3, e4⟩ := FldsE.at t
    refine ⟨a :: ls, by simp [e1], by rw [List.flatten_cons, e2], fun i x l hx hl => ?_, fun l hl => ?_⟩
    · cases i with
      | zero =>
        obtain rfl := Option.some.inj hx
        obtain rfl := Option.some.inj hl
        exact h1
      | succ i => exact e3 i x l (by simpa using hx) (by simpa using hl)
    · rcases List.mem_cons.mp hl with rfl | hl
      · exact h2
      · exact e4 l hl
theorem tx_ok {js : List Nat} (h : ∀ j ∈ js, j < 95) : PyData.canLay0 (.str (tx js)) = true := by
  have hc : ∀ j < 95, ch j < 1114112 := by decide +kernel
  show PyData.strOk (tx js) = true
  unfold PyData.strOk tx S
  rw [List.all_toArray, List.all_eq_true]
  intro c hcm
  obtain ⟨j, hj, rfl⟩ := List.mem_map.mp hcm
  exact decide_eq_true (hc j (h j hj))
theorem val_lay {x : Val} (h : ValSm x) : PyData.canLay0 (valD x) = true := by
  have w : ∀ z ∈ ([("none" : Str), "bool", "int", "text", "span", "built", "host", "ref"] : List Str), PyData.canLay0 (.str z) = true := by decide +kernel
  cases x with
  | none => simp only [valD, PyData.canLay0, PyData.canLayAll0]; have := w "none" (by simp); simp only [PyData.canLay0] at this; rw [this]; rfl
  | bool b => simp only [valD, PyData.canLay0, PyData.canLayAll0]; have := w "bool" (by simp); simp only [PyData.canLay0] at this; rw [this]; rfl
  | int i => simp only [valD, PyData.canLay0, PyData.canLayAll0]; have := w "int" (by simp); simp only [PyData.canLay0] at this; rw [this]; rfl
  | text js => simp only [valD, PyData.canLay0, PyData.canLayAll0]; have := w "text" (by simp); have t := tx_ok h.lt; simp only [PyData.canLay0] at this t; rw [this, t]; rfl
  | span a b => simp only [valD, PyData.canLay0, PyData.canLayAll0]; have := w "span" (by simp); simp only [PyData.canLay0] at this; rw [this]; rfl
  | built js => simp only [valD, PyData.canLay0, PyData.canLayAll0]; have := w "built" (by simp); have t := tx_ok h.lt; simp only [PyData.canLay0] at this t; rw [this, t]; rfl
  | host js => simp only [valD, PyData.canLay0, PyData.canLayAll0]; have := w "host" (by simp); have t := tx_ok h.lt; simp only [PyData.canLay0] at this t; rw [this, t]; rfl
  | ref n => simp only [valD, PyData.canLay0, PyData.canLayAll0]; have := w "ref" (by simp); simp only [PyData.canLay0] at this; rw [this]; rfl
theorem val_dep (x : Val) : (valD x).depth ≤ 1 := by cases x <;> simp [valD, PyData.depth, PyData.depthAll]
end

section
--SPLIT
end
section
variable {P : Program} {w : World} {K : PySem.W.Frag} {mg : Str → Option Value} {base : Heap}
/-! fields that hold frames -/
def FrE (f : Fr) (ln : List Nat) : Prop := ∃ j fn, frTab[j]? = some (f.kd, f.fs.map ltr) ∧ FldsE f.fs fn ∧ ln = cnt j ++ fn
def FldE2 : Fl2 → List Nat → Prop
  | .one x, ns => FldE x ns
  | .fr l, ns => ∃ lss : List (List Nat), lss.length = l.length ∧ ns = cnt l.length ++ lss.flatten ∧ (∀ (i : Nat) (f : Fr) (ln : List Nat), l[i]? = some f → lss[i]? = some ln → FrE f ln) ∧ ∀ ln ∈ lss, ln.length ≤ 100100
theorem fr_e {m : Nat} (hm : m ≤ 10 ^ 6) {f : Fr} (h : FrSm m f) : ∃ ln, FrE f ln ∧ ln.length ≤ 100100 := by
  obtain ⟨j, hj, e⟩ := List.mem_iff_getElem.mp h.1
  obtain ⟨fn, h1, h2⟩ := flds_e hm h.2
  have hok := (frTab_ok _ h.1).2
  have hfl : f.fs.length ≤ 10 := by simpa using hok
  have hj60 : j < 60 := by rw [← fr_len.2]; exact hj
  have hc := cnt_b (n := j) (by omega)
  refine ⟨cnt j ++ fn, ⟨j, fn, by rw [List.getElem?_eq_getElem hj, e], h1, rfl⟩, ?_⟩
  have := Nat.mul_le_mul_right 10000 hfl
  rw [List.length_append]
  omega
/-- at most so many numbers -/
def mx2 : Fl2 → Nat
  | .one _ => 10000
  | .fr _ => 300000
theorem mx2_le (x : Fl2) : mx2 x ≤ 300000 := by cases x <;> simp [mx2]
theorem mx2_ltr (x : Fl2) : mx2 x = if ltr2 x = 70 then 300000 else 10000 := by
  cases x with
  | one y => cases y <;> rfl
  | fr l => rfl
theorem fl2_e {m : Nat} (hm : m ≤ 10 ^ 6) : ∀ {x : Fl2}, Fl2Sm m x → ∃ ns, FldE2 x ns ∧ ns.length ≤ mx2 x
  | .one x, h => by
    obtain ⟨ns, h1, h2⟩ := fld_e hm h
    exact ⟨ns, h1, h2⟩
  | .fr l, h => by
    obtain ⟨lss, h1, h2⟩ := all_ex (R := fun f (ln : List Nat) => FrE f ln ∧ ln.length ≤ 100100) fun f hf => fr_e hm (h.2 f hf)
    have h3 : ∀ ln ∈ lss, ln.length ≤ 100100 := fun ln hl => by
      obtain ⟨i, hi, e⟩ := List.mem_iff_getElem.mp hl
      have hd : l[i]? = some (l[i]'(by omega)) := List.getElem?_eq_getElem (by omega)
      exact (h2 i _ ln hd (by rw [List.getElem?_eq_getElem hi, e])).2
    refine ⟨_, ⟨lss, h1, rfl, fun i f ln hf hl => (h2 i f ln hf hl).1, h3⟩, ?_⟩
    have hf := flat_le h3
    have hl2 : l.length ≤ 2 := h.1
    have hc := cnt_small (n := l.length) (by omega)
    have := Nat.mul_le_mul_right 100100 (show lss.length ≤ 2 by omega)
    rw [List.length_append]
    show _ ≤ 300000
    omega
theorem fr_wd {m : Nat} {f : Fr} (h : FrSm m f) : Wd 5 (frD f) := by
  have hok := (frTab_ok _ h.1).2
  have hfl : f.fs.length ≤ 10 := by simpa using hok
  refine .tup (by rw [List.length_cons, List.length_map]; omega) fun d hd => ?_
  rcases List.mem_cons.mp hd with rfl | hd
  · exact .str _
  · obtain ⟨x, hx, rfl⟩ := List.mem_map.mp hd
    exact fld_wd (h.2 x hx)
theorem fl2_wd {m : Nat} : ∀ {x : Fl2}, Fl2Sm m x → Wd 6 (fl2D x)
  | .one x, h => (fld_wd h).up (by decide)
  | .fr l, h => .tup (by rw [List.length_map]; have := h.1; omega) fun d hd => by
    obtain ⟨f, hf, rfl⟩ := List.mem_map.mp hd
    exact fr_wd (h.2 f hf)
inductive FldsE2 : List Fl2 → List Nat → Prop
  | nil : FldsE2 [] []
  | cons {x : Fl2} {xs : List Fl2} {a b : List Nat} : FldE2 x a → a.length ≤ mx2 x → FldsE2 xs b → FldsE2 (x :: xs) (a ++ b)
theorem flds2_e {m : Nat} (hm : m ≤ 10 ^ 6) : ∀ {xs : List Fl2}, (∀ x ∈ xs, Fl2Sm m x) → ∃ ns, FldsE2 xs ns ∧ ns.length ≤ (xs.map mx2).sum
  | [], _ => ⟨[], .nil, by simp⟩
  | x :: xs, h => by
    obtain ⟨a, h1, h2⟩ := fl2_e hm (h x (by simp))
    obtain ⟨b, h3, h4⟩ := flds2_e hm (xs := xs) fun y hy => h y (List.mem_cons_of_mem _ hy)
    refine ⟨a ++ b, .cons h1 h2 h3, ?_⟩
    rw [List.length_append, List.map_cons, List.sum_cons]
    omega
theorem FldsE2.at : ∀ {xs : List Fl2} {ns : List Nat}, FldsE2 xs ns → ∃ ls : List (List Nat), ls.length = xs.length ∧ ns = ls.flatten ∧ (∀ (i : Nat) (x : Fl2) (l : List Nat), xs[i]? = some x → ls[i]? = some l → FldE2 x l) ∧ ∀ l ∈ ls, l.length ≤ 300000
  | _, _, .nil => ⟨[], rfl, rfl, fun i x l h => by simp at h, by simp⟩
  | _, _, .cons (a := a) h1 h2 t => by
    obtain ⟨ls, e1, e2, e3, e4⟩ := FldsE2.at t
    refine ⟨a :: ls, by simp [e1], by rw [List.flatten_cons, e2], fun i x l hx hl => ?_, fun l hl => ?_⟩
    · cases i with
      | zero =>
        obtain rfl := Option.some.inj hx
        obtain rfl := Option.some.inj hl
        exact h1
      | succ i => exact e3 i x l (by simpa using hx) (by simpa using hl)
    · rcases List.mem_cons.mp hl with rfl | hl
      · exact Nat.le_trans h2 (mx2_le _)
      · exact e4 l hl
theorem take_flat (ls : List (List Nat)) (j : Nat) : (ls.take j).flatten.length ≤ ls.flatten.length := by
  have := congrArg (fun z => z.flatten.length) (List.take_append_drop j ls)
  simp only [List.flatten_append, List.length_append] at this
  omega
theorem ltr2_one (x : Fl2) (h : ltr2 x ≠ 70) : ∃ y, x = .one y := by
  cases x with
  | one y => exact ⟨y, rfl⟩
  | fr l => exact absurd rfl h
theorem obTab_n : obTab.length = 10 := by decide +kernel
theorem coTab_n : coTab.length = 10 := by decide +kernel
theorem objects_keys : objectsL.map (·.1) = obTab.map (·.1) := by decide +kernel
theorem objects_nd : (objectsL.map (·.1)).Nodup := by decide +kernel
theorem controls_keys : controlsL.map (·.1) = coTab.map (·.1) := by decide +kernel
theorem controls_nd : (controlsL.map (·.1)).Nodup := by decide +kernel
theorem obTab_sum : ∀ t ∈ obTab, (t.2.map fun c => if c = 70 then 300000 else 10000).sum ≤ 400000 := by decide +kernel
theorem ob_sum {kd : Str} {fs : List Fl2} (h : (kd, fs.map ltr2) ∈ obTab) : (fs.map mx2).sum ≤ 400000 := by
  have := obTab_sum _ h
  rw [List.map_map] at this
  have e : fs.map mx2 = fs.map ((fun c => if c = 70 then 300000 else 10000) ∘ ltr2) := List.map_congr_left fun x _ => mx2_ltr x
  rw [e]
  exact this
end

abbrev s_write_values : Stmt := top 20
abbrev N_write_values : List Str := ["values", "numbers", "value"]
abbrev P_write_values : List Str := ["values"]
theorem sc_write_values : FnScope N_write_values P_write_values (defScope s_write_values) := ⟨rfl, rfl, rfl, by decide +kernel, rfl, by decide +kernel, by decide +kernel⟩
abbrev s_write_pairs : Stmt := top 21
abbrev N_write_pairs : List Str := ["pairs", "numbers", "one", "other"]
abbrev P_write_pairs : List Str := ["pairs"]
theorem sc_write_pairs : FnScope N_write_pairs P_write_pairs (defScope s_write_pairs) := ⟨rfl, rfl, rfl, by decide +kernel, rfl, by decide +kernel, by decide +kernel⟩
abbrev s_write_named : Stmt := top 22
abbrev N_write_named : List Str := ["pairs", "numbers", "name", "value"]
abbrev P_write_named : List Str := ["pairs"]
theorem sc_write_named : FnScope N_write_named P_write_named (defScope s_write_named) := ⟨rfl, rfl, rfl, by decide +kernel, rfl, by decide +kernel, by decide +kernel⟩
abbrev s_write_number_or_none : Stmt := top 23
abbrev N_write_number_or_none : List Str := ["k"]
abbrev P_write_number_or_none : List Str := ["k"]
theorem sc_write_number_or_none : FnScope N_write_number_or_none P_write_number_or_none (defScope s_write_number_or_none) := ⟨rfl, rfl, rfl, by decide +kernel, rfl, by decide +kernel, by decide +kernel⟩
abbrev s_write_signal : Stmt := top 24
abbrev N_write_signal : List Str := ["signal", "numbers", "value"]
abbrev P_write_signal : List Str := ["signal"]
theorem sc_write_signal : FnScope N_write_signal P_write_signal (defScope s_write_signal) := ⟨rfl, rfl, rfl, by decide +kernel, rfl, by decide +kernel, by decide +kernel⟩
abbrev s_written_fields : Stmt := top 19
abbrev N_written_fields : List Str := ["letters", "item", "numbers", "letter", "field", "action"]
abbrev P_written_fields : List Str := ["letters", "item"]
theorem sc_written_fields : FnScope N_written_fields P_written_fields (defScope s_written_fields) := ⟨rfl, rfl, rfl, by decide +kernel, rfl, by decide +kernel, by decide +kernel⟩
section
variable {P : Program} {w : World} {K : PySem.W.Frag} {mg : Str → Option Value} {base : Heap}
def snum : List (Str × V) := [("break", V.int 1), ("continue", V.int 2), ("return", V.int 3), ("raise", V.int 4)]
/-- the list nl is made longer by what stands in l -/
theorem ext_ok {H1 : Hp} {nl l : Addr} {a b : List Nat} {R : Hp → Prop} (e1 : H1 nl = some (.lst (nV a))) (e2 : H1 l = some (.lst (nV b))) (hl : a.length + b.length ≤ 900000) (kk : ∀ H2, H2 nl = some (.lst (nV (a ++ b))) → (∀ q o, H1 q = some o → q ≠ nl → H2 q = some o) → KeepT K H1 H2 → R H2) :
    rExtend (.ref nl) [.ref l] H1 (fun _ H2 => R H2) := ⟨_, _, _, _, rfl, rfl, e1, e2, by rw [nV_len, nV_len]; exact Nat.le_trans hl (by decide), kk _ (by rw [upd_same, nV_app]) (fun q o e hq => by rw [upd_ne hq]; exact e) (KeepT.upd e1)⟩
theorem take_fm {α : Type} {g : α → List Nat} {xs : List α} {i : Nat} {x : α} (h : xs[i]? = some x) : (xs.take (i + 1)).flatMap g = (xs.take i).flatMap g ++ g x := by
  rw [List.take_succ, h, List.flatMap_append]
  simp
def spWVs (K : PySem.W.Frag) : Sp := fun vs H Q _ => ∃ (v : V) (xs : List Val), vs = [v] ∧ Dt K H v (.tuple (xs.map valD)) ∧ xs.length ≤ 1000 ∧ (∀ x ∈ xs, ValSm x) ∧ ∀ l H', H l = none → Same H H' → H' l = some (.lst (nV (cnt xs.length ++ xs.flatMap enc))) → Q (.ref l) H'
theorem ok_wvalues {f : Addr} {fd : FuncData} (F : Fun K "_write_values" "_write_values" s_write_values f fd) (T : Txt K mg) (U_write_count : Use P w K mg base CX0 "write_count" 1 P_write_count (spCount K)) (U_write_value : Use P w K mg base CX0 "write_value" 3 P_write_value (spWVal K)) : FnG P w K mg base CX0 4 f fd P_write_values (spWVs K) := by
  refine okG0 F sc_write_values (fun vs H Q E h => ?_) fun cdv A outer s H vs Q E hr hg h => ?_
  · obtain ⟨v, xs, rfl, _⟩ := h
    rfl
  · obtain ⟨v, xs, rfl, dv, hx, hsm, k⟩ := h
    refine ⟨_, (pss_cons (ps_set (i := 1) sc_write_values.nd rfl (Or.inl rfl) (pe_use U_write_count (hr.mono (by decide)) hg rfl (pa_cons (pe_callB call_len (by rfl) T.b_len PySem.boot_len (pa_cons (pv 0) pa_nil)) pa_nil)))
  (pss_cons (ps_for PassesOwn.never rfl (pi_tup (pv 0)) (pg_name (i := 2) sc_write_values.nd rfl (Or.inl rfl))
   (pss_one (ps_expr (pe_bm PySem.F.plainAttrs_list PySem.F.slot_list_extend PySem.F.type_list_extend mt_extend (pv 1) (pa_cons (pe_use U_write_value (hr.mono (by decide)) hg rfl (pa_cons (pv 2) pa_nil)) pa_nil)))))
  (pss_one (ps_ret (pv 1))))), ?_⟩
    obtain ⟨q, ws, rfl, hq, ax⟩ := dv.tuple_inv
    have lx := ax.length
    rw [List.length_map] at lx
    refine ⟨_, rfl, _, _, rfl, .inr ⟨_, hq, rfl⟩, ws.length, rfl, Nat.lt_of_le_of_lt (show ws.length ≤ 1000 by omega) (by decide +kernel), fun nl H1 hnl S1 e1 => ?_⟩
    have hc := cnt_small hx
    refine ⟨_, rfl, q, rfl, ⟨_, Same.tupl S1 hq⟩, ?_⟩
    refine for_tup (xs := ws) (fun i σ H5 => ∃ x2, σ = [some (.ref q), some (.ref nl), x2] ∧ Same H H5 ∧ H5 nl = some (.lst (nV (cnt xs.length ++ (xs.take i).flatMap enc)))) ⟨none, rfl, S1, by rw [e1, lx]; simp⟩ ?_ ?_ ?_
    · rintro i σ H5 _ ⟨x2, rfl, S5, _⟩
      exact Same.tupl S5 hq
    · rintro i y σ H5 hy ⟨x2, rfl, S5, e5⟩
      obtain ⟨d, hd, dy⟩ := (ax.mono S5).getV hy
      rw [List.getElem?_map] at hd
      obtain ⟨x, hxi, rfl⟩ := Option.map_eq_some_iff.mp hd
      have hxm := hsm x (List.mem_of_getElem? hxi)
      have hle := sm_len hxm
      have hfl := fm_le (b := 100) (g := enc) (xs := xs.take i) fun z hz => sm_len (hsm z (List.mem_of_mem_take hz))
      have htl : (xs.take i).length ≤ 1000 := by rw [List.length_take]; omega
      refine ⟨_, rfl, .inl ⟨rfl, _, SqL.of e5⟩, _, rfl, y, x, rfl, dy, hxm.ok, fun l H6 _ S6 e6 => ?_⟩
      refine ext_ok (K := K) (S6 _ _ e5) e6 (by rw [List.length_append]; omega) fun H7 e7 kp _ => ⟨some y, rfl, fun b o e => kp _ _ (S6 _ _ (S5 _ _ e)) (ne_of_none e hnl), ?_⟩
      rw [e7, take_fm hxi, List.append_assoc]
    · rintro σ H5 ⟨x2, rfl, S5, e5⟩
      rw [lx, List.take_length] at e5
      exact ⟨_, rfl, k nl H5 hnl S5 e5⟩
def spWPs (K : PySem.W.Frag) : Sp := fun vs H Q _ => ∃ (v : V) (xs : List (Val × Val)), vs = [v] ∧ Dt K H v (.tuple (xs.map fun p => .tuple [valD p.1, valD p.2])) ∧ xs.length ≤ 1000 ∧ (∀ x ∈ xs, ValSm x.1 ∧ ValSm x.2) ∧ ∀ l H', H l = none → Same H H' → H' l = some (.lst (nV (cnt xs.length ++ xs.flatMap fun p => enc p.1 ++ enc p.2))) → Q (.ref l) H'
theorem ok_wpairs {f : Addr} {fd : FuncData} (F : Fun K "_write_pairs" "_write_pairs" s_write_pairs f fd) (T : Txt K mg) (U_write_count : Use P w K mg base CX0 "write_count" 1 P_write_count (spCount K)) (U_write_value : Use P w K mg base CX0 "write_value" 3 P_write_value (spWVal K)) : FnG P w K mg base CX0 4 f fd P_write_pairs (spWPs K) := by
  refine okG0 F sc_write_pairs (fun vs H Q E h => ?_) fun cdv A outer s H vs Q E hr hg h => ?_
  · obtain ⟨v, xs, rfl, _⟩ := h
    rfl
  · obtain ⟨v, xs, rfl, dv, hx, hsm, k⟩ := h
    refine ⟨_, (pss_cons (ps_set (i := 1) sc_write_pairs.nd rfl (Or.inl rfl) (pe_use U_write_count (hr.mono (by decide)) hg rfl (pa_cons (pe_callB call_len (by rfl) T.b_len PySem.boot_len (pa_cons (pv 0) pa_nil)) pa_nil)))
  (pss_cons (ps_for PassesOwn.never rfl (pi_tup (pv 0)) (pg_tup (by rfl) (pgs_cons (pg_name (i := 2) sc_write_pairs.nd rfl (Or.inl rfl)) (pgs_cons (pg_name (i := 3) sc_write_pairs.nd rfl (Or.inl rfl)) pgs_nil)))
   (pss_cons (ps_expr (pe_bm PySem.F.plainAttrs_list PySem.F.slot_list_extend PySem.F.type_list_extend mt_extend (pv 1) (pa_cons (pe_use U_write_value (hr.mono (by decide)) hg rfl (pa_cons (pv 2) pa_nil)) pa_nil)))
  (pss_one (ps_expr (pe_bm PySem.F.plainAttrs_list PySem.F.slot_list_extend PySem.F.type_list_extend mt_extend (pv 1) (pa_cons (pe_use U_write_value (hr.mono (by decide)) hg rfl (pa_cons (pv 3) pa_nil)) pa_nil))))))
  (pss_one (ps_ret (pv 1))))), ?_⟩
    obtain ⟨q, ws, rfl, hq, ax⟩ := dv.tuple_inv
    have lx := ax.length
    rw [List.length_map] at lx
    refine ⟨_, rfl, _, _, rfl, .inr ⟨_, hq, rfl⟩, ws.length, rfl, Nat.lt_of_le_of_lt (show ws.length ≤ 1000 by omega) (by decide +kernel), fun nl H1 hnl S1 e1 => ?_⟩
    have hc := cnt_small hx
    refine ⟨_, rfl, q, rfl, ⟨_, Same.tupl S1 hq⟩, ?_⟩
    refine for_tup (xs := ws) (fun i σ H5 => ∃ x2 x3, σ = [some (.ref q), some (.ref nl), x2, x3] ∧ Same H H5 ∧ H5 nl = some (.lst (nV (cnt xs.length ++ (xs.take i).flatMap fun p => enc p.1 ++ enc p.2)))) ⟨none, none, rfl, S1, by rw [e1, lx]; simp⟩ ?_ ?_ ?_
    · rintro i σ H5 _ ⟨x2, x3, rfl, S5, _⟩
      exact Same.tupl S5 hq
    · rintro i y σ H5 hy ⟨x2, x3, rfl, S5, e5⟩
      obtain ⟨d, hd, dy⟩ := (ax.mono S5).getV hy
      rw [List.getElem?_map] at hd
      obtain ⟨x, hxi, rfl⟩ := Option.map_eq_some_iff.mp hd
      have hxm := hsm x (List.mem_of_getElem? hxi)
      have hle1 := sm_len hxm.1
      have hle2 := sm_len hxm.2
      have hfl := fm_le (b := 200) (g := fun p : Val × Val => enc p.1 ++ enc p.2) (xs := xs.take i) fun z hz => by
        have := hsm z (List.mem_of_mem_take hz)
        have a := sm_len this.1
        have b := sm_len this.2
        rw [List.length_append]; omega
      have htl : (xs.take i).length ≤ 1000 := by rw [List.length_take]; omega
      obtain ⟨t, ys, rfl, ht, ay⟩ := dy.tuple_inv
      obtain ⟨a, ys, rfl, da, ay⟩ := DtAll.cons_inv ay
      obtain ⟨b, ys, rfl, db, ay⟩ := DtAll.cons_inv ay
      obtain rfl := ay.nil_inv
      refine ⟨t, _, rfl, ht, rfl, _, _, rfl, _, _, rfl, rfl, ?_⟩
      refine ⟨_, rfl, .inl ⟨rfl, _, SqL.of e5⟩, _, rfl, a, x.1, rfl, da, hxm.1.ok, fun l H6 _ S6 e6 => ?_⟩
      refine ext_ok (K := K) (S6 _ _ e5) e6 (by rw [List.length_append]; omega) fun H7 e7 kp kt => ?_
      have db7 := (db.mono S6).keepT kt
      refine ⟨_, rfl, .inl ⟨rfl, _, SqL.of e7⟩, _, rfl, b, x.2, rfl, db7, hxm.2.ok, fun l H8 _ S8 e8 => ?_⟩
      refine ext_ok (K := K) (S8 _ _ e7) e8 (by rw [List.length_append, List.length_append]; omega) fun H9 e9 kp9 _ => ⟨_, _, rfl, fun c o e => kp9 _ _ (S8 _ _ (kp _ _ (S6 _ _ (S5 _ _ e)) (ne_of_none e hnl))) (ne_of_none e hnl), ?_⟩
      rw [e9, take_fm hxi]
      simp only [List.append_assoc]
    · rintro σ H5 ⟨x2, x3, rfl, S5, e5⟩
      rw [lx, List.take_length] at e5
      exact ⟨_, rfl, k nl H5 hnl S5 e5⟩
def spWNs (K : PySem.W.Frag) : Sp := fun vs H Q _ => ∃ (v : V) (xs : List (List Nat × Val)), vs = [v] ∧ Dt K H v (.tuple (xs.map fun p => .tuple [.str (tx p.1), valD p.2])) ∧ xs.length ≤ 1000 ∧ (∀ x ∈ xs, TxSm x.1 ∧ ValSm x.2) ∧ ∀ l H', H l = none → Same H H' → H' l = some (.lst (nV (cnt xs.length ++ xs.flatMap fun p => strN p.1 ++ enc p.2))) → Q (.ref l) H'
theorem ok_wnamed {f : Addr} {fd : FuncData} (F : Fun K "_write_named" "_write_named" s_write_named f fd) (T : Txt K mg) (U_write_count : Use P w K mg base CX0 "write_count" 1 P_write_count (spCount K)) (U_write_string : Use P w K mg base CX0 "write_string" 2 P_write_string (spWStr K)) (U_write_value : Use P w K mg base CX0 "write_value" 3 P_write_value (spWVal K)) : FnG P w K mg base CX0 4 f fd P_write_named (spWNs K) := by
  refine okG0 F sc_write_named (fun vs H Q E h => ?_) fun cdv A outer s H vs Q E hr hg h => ?_
  · obtain ⟨v, xs, rfl, _⟩ := h
    rfl
  · obtain ⟨v, xs, rfl, dv, hx, hsm, k⟩ := h
    refine ⟨_, (pss_cons (ps_set (i := 1) sc_write_named.nd rfl (Or.inl rfl) (pe_use U_write_count (hr.mono (by decide)) hg rfl (pa_cons (pe_callB call_len (by rfl) T.b_len PySem.boot_len (pa_cons (pv 0) pa_nil)) pa_nil)))
  (pss_cons (ps_for PassesOwn.never rfl (pi_tup (pv 0)) (pg_tup (by rfl) (pgs_cons (pg_name (i := 2) sc_write_named.nd rfl (Or.inl rfl)) (pgs_cons (pg_name (i := 3) sc_write_named.nd rfl (Or.inl rfl)) pgs_nil)))
   (pss_cons (ps_expr (pe_bm PySem.F.plainAttrs_list PySem.F.slot_list_extend PySem.F.type_list_extend mt_extend (pv 1) (pa_cons (pe_use U_write_string (hr.mono (by decide)) hg rfl (pa_cons (pv 2) pa_nil)) pa_nil)))
  (pss_one (ps_expr (pe_bm PySem.F.plainAttrs_list PySem.F.slot_list_extend PySem.F.type_list_extend mt_extend (pv 1) (pa_cons (pe_use U_write_value (hr.mono (by decide)) hg rfl (pa_cons (pv 3) pa_nil)) pa_nil))))))
  (pss_one (ps_ret (pv 1))))), ?_⟩
    obtain ⟨q, ws, rfl, hq, ax⟩ := dv.tuple_inv
    have lx := ax.length
    rw [List.length_map] at lx
    refine ⟨_, rfl, _, _, rfl, .inr ⟨_, hq, rfl⟩, ws.length, rfl, Nat.lt_of_le_of_lt (show ws.length ≤ 1000 by omega) (by decide +kernel), fun nl H1 hnl S1 e1 => ?_⟩
    have hc := cnt_small hx
    refine ⟨_, rfl, q, rfl, ⟨_, Same.tupl S1 hq⟩, ?_⟩
    refine for_tup (xs := ws) (fun i σ H5 => ∃ x2 x3, σ = [some (.ref q), some (.ref nl), x2, x3] ∧ Same H H5 ∧ H5 nl = some (.lst (nV (cnt xs.length ++ (xs.take i).flatMap fun p => strN p.1 ++ enc p.2)))) ⟨none, none, rfl, S1, by rw [e1, lx]; simp⟩ ?_ ?_ ?_
    · rintro i σ H5 _ ⟨x2, x3, rfl, S5, _⟩
      exact Same.tupl S5 hq
    · rintro i y σ H5 hy ⟨x2, x3, rfl, S5, e5⟩
      obtain ⟨d, hd, dy⟩ := (ax.mono S5).getV hy
      rw [List.getElem?_map] at hd
      obtain ⟨x, hxi, rfl⟩ := Option.map_eq_some_iff.mp hd
      have hxm := hsm x (List.mem_of_getElem? hxi)
      have hle1 := tx_len2 hxm.1
      have hle2 := sm_len hxm.2
      have hfl := fm_le (b := 200) (g := fun p : List Nat × Val => strN p.1 ++ enc p.2) (xs := xs.take i) fun z hz => by
        have := hsm z (List.mem_of_mem_take hz)
        have a := tx_len2 this.1
        have b := sm_len this.2
        rw [List.length_append]; omega
      have htl : (xs.take i).length ≤ 1000 := by rw [List.length_take]; omega
      obtain ⟨t, ys, rfl, ht, ay⟩ := dy.tuple_inv
      obtain ⟨a, ys, rfl, da, ay⟩ := DtAll.cons_inv ay
      obtain ⟨b, ys, rfl, db, ay⟩ := DtAll.cons_inv ay
      obtain rfl := ay.nil_inv
      cases da.str_inv
      refine ⟨t, _, rfl, ht, rfl, _, _, rfl, _, _, rfl, rfl, ?_⟩
      refine ⟨_, rfl, .inl ⟨rfl, _, SqL.of e5⟩, _, rfl, x.1, rfl, Nat.le_trans hxm.1.len (by decide), hxm.1.lt, fun l H6 _ S6 e6 => ?_⟩
      refine ext_ok (K := K) (S6 _ _ e5) e6 (by rw [List.length_append]; omega) fun H7 e7 kp kt => ?_
      have db7 := (db.mono S6).keepT kt
      refine ⟨_, rfl, .inl ⟨rfl, _, SqL.of e7⟩, _, rfl, b, x.2, rfl, db7, hxm.2.ok, fun l H8 _ S8 e8 => ?_⟩
      refine ext_ok (K := K) (S8 _ _ e7) e8 (by rw [List.length_append, List.length_append]; omega) fun H9 e9 kp9 _ => ⟨_, _, rfl, fun c o e => kp9 _ _ (S8 _ _ (kp _ _ (S6 _ _ (S5 _ _ e)) (ne_of_none e hnl))) (ne_of_none e hnl), ?_⟩
      rw [e9, take_fm hxi]
      simp only [List.append_assoc]
    · rintro σ H5 ⟨x2, x3, rfl, S5, e5⟩
      rw [lx, List.take_length] at e5
      exact ⟨_, rfl, k nl H5 hnl S5 e5⟩
def spWNon (K : PySem.W.Frag) : Sp := fun vs H Q _ => ∃ (i : Int), vs = [.int i] ∧ -1 ≤ i ∧ i < 10 ^ 7 ∧ ∀ l H', H l = none → Same H H' → H' l = some (.lst (nV (cnt (i + 1).toNat))) → Q (.ref l) H'
theorem ok_wnon {f : Addr} {fd : FuncData} (F : Fun K "_write_number_or_none" "_write_number_or_none" s_write_number_or_none f fd) (T : Txt K mg) (U_write_count : Use P w K mg base CX0 "write_count" 1 P_write_count (spCount K)) : FnG P w K mg base CX0 2 f fd P_write_number_or_none (spWNon K) := by
  refine okG0 F sc_write_number_or_none (fun vs H Q E h => ?_) fun cdv A outer s H vs Q E hr hg h => ?_
  · obtain ⟨i, rfl, _⟩ := h
    rfl
  · obtain ⟨i, rfl, h0, h1, k⟩ := h
    refine ⟨_, (pss_one (ps_ret (pe_use U_write_count (hr.mono (by decide)) hg rfl (pa_cons (pe_op op_add (pv 0) pe_int) pa_nil)))), ?_⟩
    refine ⟨_, rfl, _, _, rfl, rfl, (i + 1).toNat, ?_, Nat.lt_of_le_of_lt (show (i + 1).toNat ≤ 10 ^ 7 by omega) (by decide +kernel), k⟩
    dsimp only
    rw [Int.toNat_of_nonneg (by omega)]
--SPLIT
theorem tail_no2 (x : V) (xs : List V) : ¬ HT.sIx (x :: xs).length 0 (some 1) = 0 := by
  rw [show (some (1 : Int)) = some ((1 : Nat) : Int) from rfl, HT.sIx_nat]
  simp
def spWSig (K : PySem.W.Frag) : Sp := fun vs H Q _ => ∃ (v : V) (x : Fld) (ns : List Nat) (m : Nat), vs = [v] ∧ Dt K H v (fldD x) ∧ ltr x = 115 ∧ FldSm m x ∧ FldE x ns ∧ ∀ l H', H l = none → Same H H' → H' l = some (.lst (nV ns)) → Q (.ref l) H'
theorem ok_wsig {f : Addr} {fd : FuncData} (F : Fun K "_write_signal" "_write_signal" s_write_signal f fd) (T : Txt K mg) (U_SIGNAL_NUMBERS : UseD P w K mg "SIGNAL_NUMBERS" (valKV snum)) (U_write_value : Use P w K mg base CX0 "write_value" 3 P_write_value (spWVal K)) : FnG P w K mg base CX0 4 f fd P_write_signal (spWSig K) := by
  obtain ⟨aD_SIGNAL_NUMBERS, gD_SIGNAL_NUMBERS, kD⟩ := U_SIGNAL_NUMBERS.ex
  refine okG0 F sc_write_signal (fun vs H Q E h => ?_) fun cdv A outer s H vs Q E hr hg h => ?_
  · obtain ⟨v, x, ns, m, rfl, _⟩ := h
    rfl
  · obtain ⟨v, x, ns, m, rfl, dv, hl, hsm, he, k⟩ := h
    refine ⟨_, (pss_cons (ps_if (pt_cmpR (op_eqD hr.units) (pv 0) (pe_tup pa_nil) (nomark _))
   (pss_one (ps_ret (pe_lst (pa_cons pe_int pa_nil))))
   pss_nil)
  (pss_cons (ps_set (i := 1) sc_write_signal.nd rfl (Or.inl rfl) (pe_lst (pa_cons (pe_dgetK (pe_glob (v := .ref aD_SIGNAL_NUMBERS) (by rfl) gD_SIGNAL_NUMBERS rfl) (pe_ix ix_tup (pv 0) pe_int (fun _ _ => rfl)) (fun _ _ => rfl)) pa_nil)))
  (pss_cons (ps_for PassesOwn.never rfl (pi_tup (pe_slice sl_tupA (pv 0) (po_some pe_int) po_none)) (pg_name (i := 2) sc_write_signal.nd rfl (Or.inl rfl))
   (pss_one (ps_expr (pe_bm PySem.F.plainAttrs_list PySem.F.slot_list_extend PySem.F.type_list_extend mt_extend (pv 1) (pa_cons (pe_use U_write_value (hr.mono (by decide)) hg rfl (pa_cons (pv 2) pa_nil)) pa_nil)))))
  (pss_one (ps_ret (pv 1)))))), ?_⟩
    cases x with
    | s0 =>
      have he : ns = [0] := he
      subst he
      refine ⟨_, rfl, sz_0, fun u hu => ?_⟩
      have S1 := Same.new (o := .tup []) hu
      refine ⟨_, _, (dv.mono S1).dp, (Dt.made hu .nil).dp, by decide +kernel, by decide +kernel, _, rfl, iteTb (by decide +kernel) ?_⟩
      exact ⟨sz_1, fun l hl => k l _ (none_same0 S1 hl) (S1.trans (Same.new hl)) upd_same⟩
    | s1 z =>
      obtain ⟨num, hnum, hz⟩ : ∃ num : Nat, ns = [num] ∧ ((z = "break" ∧ num = 1) ∨ (z = "continue" ∧ num = 2)) := by
        rcases (he : (z = "break" ∧ ns = [1]) ∨ (z = "continue" ∧ ns = [2])) with ⟨rfl, rfl⟩ | ⟨rfl, rfl⟩
        · exact ⟨1, rfl, .inl ⟨rfl, rfl⟩⟩
        · exact ⟨2, rfl, .inr ⟨rfl, rfl⟩⟩
      subst hnum
      refine ⟨_, rfl, sz_0, fun u hu => ?_⟩
      have S1 := Same.new (o := .tup []) hu
      have dv1 := dv.mono S1
      refine ⟨_, _, dv1.dp, (Dt.made hu .nil).dp, by rcases hz with ⟨rfl, _⟩ | ⟨rfl, _⟩ <;> decide +kernel, by decide +kernel, _, rfl, iteFb (by rcases hz with ⟨rfl, _⟩ | ⟨rfl, _⟩ <;> decide +kernel) ?_⟩
      obtain ⟨q, ws, rfl, hq, ax⟩ := dv1.head
      obtain rfl := ax.nil_inv
      generalize upd H u (.tup []) = H1 at S1 hq ⊢
      refine ⟨_, rfl, q, _, _, _, rfl, rfl, hq, at0, aD_SIGNAL_NUMBERS, _, Sum.inr z, .int (num : Int), rfl, kD, rfl, by rcases hz with ⟨rfl, rfl⟩ | ⟨rfl, rfl⟩ <;> decide +kernel, sz_1, fun nl hnl => ?_⟩
      have S2 := Same.new (o := .lst [.int (num : Int)]) hnl
      refine ⟨_, rfl, _, rfl, q, _, rfl, Same.tupl S2 hq, fun e => absurd e.1 (tail_no2 _ _), fun _ p hp => ?_⟩
      rw [cut_one]
      have S3 := Same.new (o := .tup []) hp
      refine ⟨p, rfl, ⟨_, SqT.of upd_same⟩, ?_⟩
      refine for_tup (xs := []) (fun i σ H5 => σ = [some (.ref q), some (.ref nl), none] ∧ H5 = upd (upd H1 nl (.lst [.int (num : Int)])) p (.tup [])) ⟨rfl, rfl⟩ ?_ ?_ ?_
      · rintro i σ H5 _ ⟨rfl, rfl⟩
        exact SqT.of upd_same
      · rintro i y σ H5 hy _
        simp at hy
      · rintro σ H5 ⟨rfl, rfl⟩
        exact ⟨_, rfl, k nl _ (none_same0 S1 hnl) ((S1.trans S2).trans S3) (S3 _ _ upd_same)⟩
    | s2 z x =>
      obtain ⟨num, hnum, hz⟩ : ∃ num : Nat, ns = num :: enc x ∧ ((z = "return" ∧ num = 3) ∨ (z = "raise" ∧ num = 4)) := by
        rcases (he : (z = "return" ∧ ns = 3 :: enc x) ∨ (z = "raise" ∧ ns = 4 :: enc x)) with ⟨rfl, rfl⟩ | ⟨rfl, rfl⟩
        · exact ⟨3, rfl, .inl ⟨rfl, rfl⟩⟩
        · exact ⟨4, rfl, .inr ⟨rfl, rfl⟩⟩
      subst hnum
      have hxs : ValSm x := hsm.2
      have hxl := sm_len hxs
      have shp : SeqAt.shaped (fldD (.s2 z x)) = true := by
        have h1 := val_lay hxs
        have h2 := val_dep x
        have h3 : PyData.canLay0 (.str z) = true := by rcases hz with ⟨rfl, _⟩ | ⟨rfl, _⟩ <;> decide +kernel
        unfold SeqAt.shaped
        rw [Bool.and_eq_true]
        refine ⟨?_, decide_eq_true ?_⟩
        · show PyData.canLayAll0 [.str z, valD x] = true
          simp only [PyData.canLayAll0, h1, h3]
          rfl
        · show PyData.depthAll [.str z, valD x] + 1 ≤ 64
          simp only [PyData.depthAll, PyData.depth]
          omega
      refine ⟨_, rfl, sz_0, fun u hu => ?_⟩
      have S1 := Same.new (o := .tup []) hu
      have dv1 := dv.mono S1
      refine ⟨_, _, dv1.dp, (Dt.made hu .nil).dp, shp, by decide +kernel, _, rfl, iteFb rfl ?_⟩
      obtain ⟨q, ws, rfl, hq, ax⟩ := dv1.head
      obtain ⟨y, ws, rfl, dy, ax⟩ := DtAll.cons_inv ax
      obtain rfl := ax.nil_inv
      generalize upd H u (.tup []) = H1 at S1 hq dy ⊢
      refine ⟨_, rfl, q, _, _, _, rfl, rfl, hq, at0, aD_SIGNAL_NUMBERS, _, Sum.inr z, .int (num : Int), rfl, kD, rfl, by rcases hz with ⟨rfl, rfl⟩ | ⟨rfl, rfl⟩ <;> decide +kernel, sz_1, fun nl hnl => ?_⟩
      have S2 := Same.new (o := .lst [.int (num : Int)]) hnl
      refine ⟨_, rfl, _, rfl, q, _, rfl, Same.tupl S2 hq, fun e => absurd e.1 (tail_no2 _ _), fun _ p hp => ?_⟩
      rw [cut_one]
      have S3 := Same.new (o := .tup [y]) hp
      refine ⟨p, rfl, ⟨_, SqT.of upd_same⟩, ?_⟩
      have en3 : (upd (upd H1 nl (.lst [.int (num : Int)])) p (.tup [y])) nl = some (.lst (nV [num])) := S3 _ _ upd_same
      have hp3 : SqT K (upd (upd H1 nl (.lst [.int (num : Int)])) p (.tup [y])) p [y] := SqT.of upd_same
      have dy3 := dy.mono (S2.trans S3)
      have S03 := S1.trans (S2.trans S3)
      have nl0 := none_same0 S1 hnl
      generalize upd (upd H1 nl (.lst [.int (num : Int)])) p (.tup [y]) = H3 at en3 hp3 dy3 S03 ⊢
      refine for_tup (xs := [y]) (fun i σ H5 => ∃ x2, σ = [some (.ref q), some (.ref nl), x2] ∧ SqT K H5 p [y] ∧ Dt K H5 y (valD x) ∧ Same H H5 ∧ H5 nl = some (.lst (nV (if i = 0 then [num] else num :: enc x)))) ⟨none, rfl, hp3, dy3, S03, en3⟩ ?_ ?_ ?_
      · rintro i σ H5 _ ⟨x2, rfl, h5, _⟩
        exact h5
      · rintro i y' σ H5 hy ⟨x2, rfl, h5, dy5, S5, e5⟩
        have hi : i = 0 := by
          have := (List.getElem?_eq_some_iff.mp hy).1
          simp at this
          exact this
        subst hi
        obtain rfl := Option.some.inj hy
        refine ⟨_, rfl, .inl ⟨rfl, _, SqL.of e5⟩, _, rfl, y, x, rfl, dy5, hxs.ok, fun l H6 _ S6 e6 => ?_⟩
        refine ext_ok (K := K) (S6 _ _ e5) e6 (by simp; omega) fun H7 e7 kp kt => ⟨_, rfl, kt _ _ (Same.tupl S6 h5), (dy5.mono S6).keepT kt, fun c o e => kp _ _ (S6 _ _ (S5 _ _ e)) (ne_of_none e nl0), e7⟩
      · rintro σ H5 ⟨x2, rfl, h5, dy5, S5, e5⟩
        exact ⟨_, rfl, k nl H5 nl0 S5 e5⟩
    | v x => cases hl
    | V xs => cases hl
    | W xs => cases hl
    | X xs => cases hl
    | t d => cases hl
    | a k => cases hl
    | b k => cases hl
    | n k => cases hl
    | x k => cases hl
--SPLIT
/-- a writer of fields with this letter -/
def spWF (K : PySem.W.Frag) (c : Nat) : Sp := fun vs H Q _ => ∃ (v : V) (x : Fld) (ns : List Nat) (m : Nat), vs = [v] ∧ Dt K H v (fldD x) ∧ ltr x = c ∧ FldSm m x ∧ m ≤ 10 ^ 6 ∧ FldE x ns ∧ ns.length ≤ 10000 ∧ ∀ l H', H l = none → Same H H' → H' l = some (.lst (nV ns)) → Q (.ref l) H'
theorem FnG.upw {CX : CXT} {j k : Nat} {f : Addr} {fd : FuncData} {ps : List Str} {sp : Sp} (F : FnG P w K mg base CX j f fd ps sp) (h : j ≤ k) : FnG P w K mg base CX k f fd ps sp where
  len := F.len
  run := fun A outer s H args us vs Q E hr hg he hb hv hs => F.run A outer s H args us vs Q E (hr.mono h) hg he hb hv hs
theorem wf_v (vs : List V) (H : Hp) (Q : VK) (E : XK) (h : spWF K 118 vs H Q E) : spWVal K vs H Q E := by
  obtain ⟨v, x, ns, m, rfl, dv, hl, sm, hm, he, hn, k⟩ := h
  cases x <;> try cases hl
  case v x => exact ⟨v, x, rfl, dv, ValSm.ok sm, by rw [show ns = _ from he] at k; exact k⟩
theorem wf_V (vs : List V) (H : Hp) (Q : VK) (E : XK) (h : spWF K 86 vs H Q E) : spWVs K vs H Q E := by
  obtain ⟨v, x, ns, m, rfl, dv, hl, sm, hm, he, hn, k⟩ := h
  cases x <;> try cases hl
  case V xs => exact ⟨v, xs, rfl, dv, Nat.le_trans sm.1 (by decide), sm.2, by rw [show ns = _ from he] at k; exact k⟩
theorem wf_W (vs : List V) (H : Hp) (Q : VK) (E : XK) (h : spWF K 87 vs H Q E) : spWPs K vs H Q E := by
  obtain ⟨v, x, ns, m, rfl, dv, hl, sm, hm, he, hn, k⟩ := h
  cases x <;> try cases hl
  case W xs => exact ⟨v, xs, rfl, dv, Nat.le_trans sm.1 (by decide), sm.2, by rw [show ns = _ from he] at k; exact k⟩
theorem wf_X (vs : List V) (H : Hp) (Q : VK) (E : XK) (h : spWF K 88 vs H Q E) : spWNs K vs H Q E := by
  obtain ⟨v, x, ns, m, rfl, dv, hl, sm, hm, he, hn, k⟩ := h
  cases x <;> try cases hl
  case X xs => exact ⟨v, xs, rfl, dv, Nat.le_trans sm.1 (by decide), sm.2, by rw [show ns = _ from he] at k; exact k⟩
theorem wf_t (vs : List V) (H : Hp) (Q : VK) (E : XK) (h : spWF K 116 vs H Q E) : spWTree K vs H Q E := by
  obtain ⟨v, x, ns, m, rfl, dv, hl, sm, hm, he, hn, k⟩ := h
  cases x <;> try cases hl
  case t d => exact ⟨v, d, ns, rfl, dv, (TrL.rd he).trn, by omega, k⟩
theorem wf_a (vs : List V) (H : Hp) (Q : VK) (E : XK) (h : spWF K 97 vs H Q E) : spCount K vs H Q E := by
  obtain ⟨v, x, ns, m, rfl, dv, hl, sm, hm, he, hn, k⟩ := h
  cases x <;> try cases hl
  case a n =>
    obtain rfl := Dt.int_inv (show Dt K H v (.int (n : Int)) from dv)
    have hn : n < m := sm
    exact ⟨n, rfl, Nat.lt_of_le_of_lt (show n ≤ 10 ^ 6 by omega) (by decide +kernel), by rw [show ns = _ from he] at k; exact k⟩
theorem wf_b (vs : List V) (H : Hp) (Q : VK) (E : XK) (h : spWF K 98 vs H Q E) : spWNon K vs H Q E := by
  obtain ⟨v, x, ns, m, rfl, dv, hl, sm, hm, he, hn, k⟩ := h
  cases x <;> try cases hl
  case b n =>
    obtain rfl := Dt.int_inv (show Dt K H v (.int n) from dv)
    have h1 : -1 ≤ n := sm.1
    have h2 : n < (m : Int) := sm.2
    exact ⟨n, rfl, h1, by omega, by rw [show ns = _ from he] at k; exact k⟩
theorem wf_n (vs : List V) (H : Hp) (Q : VK) (E : XK) (h : spWF K 110 vs H Q E) : spWInt K vs H Q E := by
  obtain ⟨v, x, ns, m, rfl, dv, hl, sm, hm, he, hn, k⟩ := h
  cases x <;> try cases hl
  case n n =>
    obtain rfl := Dt.int_inv (show Dt K H v (.int n) from dv)
    exact ⟨n, rfl, Nat.le_trans (Nat.le_of_lt sm) (Nat.pow_le_pow_right (by decide) (by decide)), by rw [show ns = _ from he] at k; exact k⟩
theorem wf_x (vs : List V) (H : Hp) (Q : VK) (E : XK) (h : spWF K 120 vs H Q E) : spWStr K vs H Q E := by
  obtain ⟨v, x, ns, m, rfl, dv, hl, sm, hm, he, hn, k⟩ := h
  cases x <;> try cases hl
  case x js =>
    obtain rfl := Dt.str_inv (show Dt K H v (.str (tx js)) from dv)
    exact ⟨js, rfl, Nat.le_trans sm.len (by decide), sm.lt, by rw [show ns = _ from he] at k; exact k⟩
theorem wf_s (vs : List V) (H : Hp) (Q : VK) (E : XK) (h : spWF K 115 vs H Q E) : spWSig K vs H Q E := by
  obtain ⟨v, x, ns, m, rfl, dv, hl, sm, hm, he, hn, k⟩ := h
  exact ⟨v, x, ns, m, rfl, dv, hl, sm, he, k⟩
def spWFs0 (K : PySem.W.Frag) : Sp := fun vs H Q _ => ∃ (v : V) (kd : Str) (fs : List Fld) (ls : List Nat) (ns : List Nat) (m : Nat), vs = [.str (S ls), v] ∧ Dt K H v (.tuple (.str kd :: fs.map fldD)) ∧ fs.map ltr = ls ∧ (∀ x ∈ fs, FldSm m x) ∧ m ≤ 10 ^ 6 ∧ FldsE fs ns ∧ ls.length ≤ 10 ∧ (∀ c ∈ ls, c ∈ flds) ∧
  ∀ l H', H l = none → Same H H' → H' l = some (.lst (nV ns)) → Q (.ref l) H'
theorem ok_wfields0 {A_write_value A_write_values A_write_pairs A_write_named A_write_tree A_write_count A_write_number_or_none A_write_integer A_write_string A_write_signal A_write_frames : Addr} {f : Addr} {fd : FuncData} (F : Fun K "_written_fields" "_written_fields" s_written_fields f fd) (T : Txt K mg)
    (U_WRITERS : UseD P w K mg "WRITERS" (fnKV [("v", A_write_value), ("V", A_write_values), ("W", A_write_pairs), ("X", A_write_named), ("t", A_write_tree), ("a", A_write_count), ("b", A_write_number_or_none), ("n", A_write_integer), ("x", A_write_string), ("s", A_write_signal), ("F", A_write_frames)]))
    (UA_write_value : UseA P w K mg base "write_value" 3 P_write_value (spWVal K) A_write_value) (UA_write_values : UseA P w K mg base "_write_values" 4 P_write_values (spWVs K) A_write_values) (UA_write_pairs : UseA P w K mg base "_write_pairs" 4 P_write_pairs (spWPs K) A_write_pairs) (UA_write_named : UseA P w K mg base "_write_named" 4 P_write_named (spWNs K) A_write_named)
    (UA_write_tree : UseA P w K mg base "write_tree" 3 P_write_tree (spWTree K) A_write_tree) (UA_write_count : UseA P w K mg base "write_count" 1 P_write_count (spCount K) A_write_count) (UA_write_number_or_none : UseA P w K mg base "_write_number_or_none" 2 P_write_number_or_none (spWNon K) A_write_number_or_none) (UA_write_integer : UseA P w K mg base "write_integer" 2 P_write_integer (spWInt K) A_write_integer)
    (UA_write_string : UseA P w K mg base "write_string" 2 P_write_string (spWStr K) A_write_string) (UA_write_signal : UseA P w K mg base "_write_signal" 4 P_write_signal (spWSig K) A_write_signal) : FnG P w K mg base CX0 5 f fd P_written_fields (spWFs0 K) := by
  obtain ⟨aD_WRITERS, gD_WRITERS, kD⟩ := U_WRITERS.ex
  have act : ∀ c ∈ flds, ∃ (g : Addr) (gd : FuncData) (ps : List Str), valV (fnKV [("v", A_write_value), ("V", A_write_values), ("W", A_write_pairs), ("X", A_write_named), ("t", A_write_tree), ("a", A_write_count), ("b", A_write_number_or_none), ("n", A_write_integer), ("x", A_write_string), ("s", A_write_signal), ("F", A_write_frames)]) (.inr (S [c])) = some (.ref g) ∧
      FnG P w K mg base CX0 4 g gd ps (spWF K c) ∧ PySem.W.keepIn K (.ref g) = true ∧ Binds K gd ps [] := by
    intro c hc
    simp only [flds, List.mem_cons, List.not_mem_nil, or_false] at hc
    rcases hc with rfl | rfl | rfl | rfl | rfl | rfl | rfl | rfl | rfl | rfl
    · obtain ⟨gd, G, _, kp, hb⟩ := UA_write_value.ex
      exact ⟨_, gd, _, rfl, FnG.upw (G.imp wf_v) (by decide), kp, hb⟩
    · obtain ⟨gd, G, _, kp, hb⟩ := UA_write_values.ex
      exact ⟨_, gd, _, rfl, FnG.upw (G.imp wf_V) (by decide), kp, hb⟩
    · obtain ⟨gd, G, _, kp, hb⟩ := UA_write_pairs.ex
      exact ⟨_, gd, _, rfl, FnG.upw (G.imp wf_W) (by decide), kp, hb⟩
    · obtain ⟨gd, G, _, kp, hb⟩ := UA_write_named.ex
      exact ⟨_, gd, _, rfl, FnG.upw (G.imp wf_X) (by decide), kp, hb⟩
    · obtain ⟨gd, G, _, kp, hb⟩ := UA_write_tree.ex
      exact ⟨_, gd, _, rfl, FnG.upw (G.imp wf_t) (by decide), kp, hb⟩
    · obtain ⟨gd, G, _, kp, hb⟩ := UA_write_count.ex
      exact ⟨_, gd, _, rfl, FnG.upw (G.imp wf_a) (by decide), kp, hb⟩
    · obtain ⟨gd, G, _, kp, hb⟩ := UA_write_number_or_none.ex
      exact ⟨_, gd, _, rfl, FnG.upw (G.imp wf_b) (by decide), kp, hb⟩
    · obtain ⟨gd, G, _, kp, hb⟩ := UA_write_integer.ex
      exact ⟨_, gd, _, rfl, FnG.upw (G.imp wf_n) (by decide), kp, hb⟩
    · obtain ⟨gd, G, _, kp, hb⟩ := UA_write_string.ex
      exact ⟨_, gd, _, rfl, FnG.upw (G.imp wf_x) (by decide), kp, hb⟩
    · obtain ⟨gd, G, _, kp, hb⟩ := UA_write_signal.ex
      exact ⟨_, gd, _, rfl, FnG.upw (G.imp wf_s) (by decide), kp, hb⟩
  refine okG0 F sc_written_fields (fun vs H Q E h => ?_) fun cdv A outer s H vs Q E hr hg h => ?_
  · obtain ⟨v, kd, fs, ls, ns, m, rfl, _⟩ := h
    rfl
  · obtain ⟨v, kd, fs, ls, ns, m, rfl, dv, hls, hsm, hm, hE, hll, hfl, k⟩ := h
    refine ⟨_, (pss_cons (ps_set (i := 2) sc_written_fields.nd rfl (Or.inl rfl) (pe_lst pa_nil))
  (pss_cons (ps_for PassesOwn.never rfl (pi_zipST (by rfl) T.b_zip (pa_cons (pv 0) (pa_cons (pe_slice sl_tupA (pv 1) (po_some pe_int) po_none) pa_nil))) (pg_tup (by rfl) (pgs_cons (pg_name (i := 3) sc_written_fields.nd rfl (Or.inl rfl)) (pgs_cons (pg_name (i := 4) sc_written_fields.nd rfl (Or.inl rfl)) pgs_nil)))
   (pss_cons (ps_set (i := 5) sc_written_fields.nd rfl (Or.inl rfl) (pe_dgetK (pe_glob (v := .ref aD_WRITERS) (by rfl) gD_WRITERS rfl) (pv 3) (fun _ _ => rfl)))
  (pss_one (ps_expr (pe_bm PySem.F.plainAttrs_list PySem.F.slot_list_extend PySem.F.type_list_extend mt_extend (pv 2) (pa_cons (pe_callV (k := 4) (pv 5) (hr.mono (by decide)) hg (pa_cons (pv 4) pa_nil)) pa_nil))))))
  (pss_one (ps_ret (pv 2))))), ?_⟩
    obtain ⟨lss, e1, rfl, e3, e4⟩ := hE.at
    obtain ⟨q0, ws, rfl, hq0, ha⟩ := dv.head
    have hal := ha.length
    rw [List.length_map] at hal
    have hfsl : fs.length = ls.length := by rw [← hls, List.length_map]
    refine ⟨sz_0, fun nl hnl => ?_⟩
    have S0 := Same.new (o := .lst []) hnl
    refine ⟨_, rfl, _, rfl, _, rfl, ?_⟩
    refine ⟨q0, _, rfl, Same.tupl S0 hq0, fun e => absurd e.1 (tail_no2 _ _), fun _ q hq => ?_⟩
    rw [cut_one]
    refine ⟨S ls, q, ws, rfl, SqT.of upd_same, ?_⟩
    refine for_it (walk_zipST (z := ls) (b := q) (ys := ws) (by omega)) (fun i σ H5 => ∃ (x3 x4 x5 : Option V), σ = [some (.str (S ls)), some (.ref q0), some (.ref nl), x3, x4, x5] ∧ H5 nl = some (.lst (nV (lss.take i).flatten)) ∧ Same H H5 ∧ SqT K H5 q ws) ⟨none, none, none, rfl, Same.new hq _ _ upd_same, S0.trans (Same.new hq), SqT.of upd_same⟩ (fun _ _ _ _ h => let ⟨_, _, _, _, _, _, z⟩ := h; z) ?_ ?_
    · rintro i y σ H5 H6 hi ⟨x3, x4, x5, rfl, e5, S5, q5⟩ ⟨T, a1, a2, rfl, hT, rfl, g1, g2⟩
      have hif : i < fs.length := by omega
      have hx : fs[i]? = some fs[i] := List.getElem?_eq_getElem hif
      have hsx := hsm _ (List.getElem_mem hif)
      have hl : lss[i]? = some (lss[i]'(by omega)) := List.getElem?_eq_getElem (by omega)
      have hEx := e3 i _ _ hx hl
      have hEl := e4 _ (List.mem_of_getElem? hl)
      generalize fs[i] = x at hx hsx hEx
      generalize lss[i]'(by omega) = ln at hl hEx hEl
      have hlc : ls[i]? = some (ltr x) := by rw [← hls, List.getElem?_map, hx]; rfl
      have hcm := hfl _ (List.mem_of_getElem? hlc)
      obtain rfl : V.str (S [ltr x]) = a1 := by
        have g1 : (ls[i]?).map (fun c => V.str (S [c])) = some a1 := g1
        rw [hlc] at g1
        exact Option.some.inj g1
      obtain ⟨d, hd, dx⟩ := ha.getV (show ws[i]? = some a2 from g2)
      rw [List.getElem?_map, hx] at hd
      cases hd
      have S6 := Same.new (o := .tup [.str (S [ltr x]), a2]) hT
      have S56 := S5.trans S6
      have dx6 := dx.mono S56
      have e6 := S6 _ _ e5
      have q6 := Same.tupl S6 q5
      have hlen : (lss.take i).flatten.length ≤ 10 * 10000 := by
        have := flat_le (b := 10000) (ls := lss.take i) fun l hl => e4 l (List.mem_of_mem_take hl)
        have h2 : (lss.take i).length ≤ 10 := by rw [List.length_take]; omega
        have := Nat.mul_le_mul_right 10000 h2
        omega
      have htk : (lss.take (i + 1)).flatten = (lss.take i).flatten ++ ln := by rw [List.take_succ, hl]; simp
      obtain ⟨g, gd, ps, hv, G, kp, hb⟩ := act _ hcm
      refine ⟨T, _, rfl, SqT.of upd_same, rfl, _, _, rfl, _, _, rfl, rfl, ?_⟩
      refine ⟨_, rfl, aD_WRITERS, _, .inr (S [ltr x]), .ref g, rfl, kD, rfl, hv, ?_⟩
      refine ⟨_, rfl, .inl ⟨rfl, _, SqL.of e6⟩, g, gd, ps, _, rfl, G, kp, hb, _, rfl, a2, x, ln, m, rfl, dx6, rfl, hsx, hm, hEx, hEl, fun l H7 _ S7 e7 => ?_⟩
      refine ext_ok (K := K) (S7 _ _ e6) e7 (by omega) fun H8 e8 kp8 kt => ⟨_, _, _, rfl, by rw [e8, htk], fun c o e => kp8 _ _ (S7 _ _ (S56 _ _ e)) (ne_of_none e hnl), kt _ _ (Same.tupl S7 q6)⟩
    · rintro σ H5 ⟨x3, x4, x5, rfl, e5, S5, q5⟩
      rw [show ws.length = lss.length by omega, List.take_length] at e5
      exact ⟨_, rfl, k nl H5 hnl S5 e5⟩
end

section
--SPLIT
end
abbrev s_write_frame : Stmt := top 17
abbrev N_write_frame : List Str := ["frame"]
abbrev P_write_frame : List Str := ["frame"]
theorem sc_write_frame : FnScope N_write_frame P_write_frame (defScope s_write_frame) := ⟨rfl, rfl, rfl, by decide +kernel, rfl, by decide +kernel, by decide +kernel⟩
section
variable {P : Program} {w : World} {K : PySem.W.Frag} {mg : Str → Option Value} {base : Heap}
/-- where a text stands among texts that differ -/
theorem idx_str {ks : List Str} {i : Nat} {kd : Str} (nd : ks.Nodup) (h : ks[i]? = some kd) : flatV (.str kd) = true ∧ (ks.map V.str).all flatV = true ∧ (ks.map V.str)[i]? = some (.str kd) ∧ eqV (.str kd) (.str kd) = true ∧ ∀ (m : Nat) (z : V), m < i → (ks.map V.str)[m]? = some z → eqV z (.str kd) = false := by
  refine ⟨rfl, List.all_eq_true.mpr fun v hv => by obtain ⟨x, _, rfl⟩ := List.mem_map.mp hv; rfl, by rw [List.getElem?_map, h]; rfl, by show (kd == kd) = true; simp, fun m z hm hz => ?_⟩
  rw [List.getElem?_map] at hz
  obtain ⟨x, hx, rfl⟩ := Option.map_eq_some_iff.mp hz
  show (x == kd) = false
  refine beq_eq_false_iff_ne.mpr fun e => ?_
  subst e
  obtain ⟨h1, e1⟩ := List.getElem?_eq_some_iff.mp hx
  obtain ⟨h2, e2⟩ := List.getElem?_eq_some_iff.mp h
  have := (List.getElem_inj nd).mp (e1.trans e2.symm)
  omega
theorem fields_keys : fieldsL.map (·.1) = frTab.map (·.1) := by decide +kernel
theorem fields_nd : (fieldsL.map (·.1)).Nodup := by decide +kernel
theorem keys_of (fl : List (Str × Str)) : ((txtKV fl).map fun kv => kV kv.1) = (fl.map (·.1)).map V.str := by
  unfold txtKV
  rw [List.map_map, List.map_map]
  rfl
theorem tab_key {fl : List (Str × Str)} {tab : Tab} (hk : fl.map (·.1) = tab.map (·.1)) {i : Nat} {kd : Str} {ls : List Nat} (h : tab[i]? = some (kd, ls)) : (fl.map (·.1))[i]? = some kd := by
  rw [hk, List.getElem?_map, h]
  rfl
def spWFr (K : PySem.W.Frag) (tab : Tab) : Sp := fun vs H Q _ => ∃ (v : V) (kd : Str) (fs : List Fld) (i : Nat) (ns : List Nat) (m : Nat), vs = [v] ∧ Dt K H v (.tuple (.str kd :: fs.map fldD)) ∧ tab[i]? = some (kd, fs.map ltr) ∧ (∀ x ∈ fs, FldSm m x) ∧ m ≤ 10 ^ 6 ∧ FldsE fs ns ∧
  ∀ l H', H l = none → Same H H' → H' l = some (.lst (nV (cnt i ++ ns))) → Q (.ref l) H'
theorem flds_len {fs : List Fld} {ns : List Nat} (h : FldsE fs ns) : ns.length ≤ fs.length * 10000 := by
  obtain ⟨ls, e1, rfl, _, e4⟩ := h.at
  rw [← e1]
  exact flat_le e4
theorem ok_wframe {f : Addr} {fd : FuncData} (F : Fun K "write_frame" "write_frame" s_write_frame f fd) (T : Txt K mg) (U_FIELDS : UseD P w K mg "FIELDS" (txtKV fieldsL)) (U_write_count : Use P w K mg base CX0 "write_count" 1 P_write_count (spCount K)) (U_written_fields : Use P w K mg base CX0 "_written_fields" 5 P_written_fields (spWFs0 K)) : FnG P w K mg base CX0 6 f fd P_write_frame (spWFr K frTab) := by
  obtain ⟨aD_FIELDS, gD_FIELDS, kD⟩ := U_FIELDS.ex
  refine okG0 F sc_write_frame (fun vs H Q E h => ?_) fun cdv A outer s H vs Q E hr hg h => ?_
  · obtain ⟨v, kd, fs, i, ns, m, rfl, _⟩ := h
    rfl
  · obtain ⟨v, kd, fs, i, ns, m, rfl, dv, hi, hsm, hm, hE, k⟩ := h
    refine ⟨_, (pss_one (ps_ret (pe_op op_cat (pe_use U_write_count (hr.mono (by decide)) hg rfl (pa_cons (pe_bm PySem.F.plainAttrs_list PySem.F.slot_list_index PySem.F.type_list_index mt_index (pe_callTy (call_listK rfl) (by rfl) T.b_list (by decide +kernel) (pa_cons (pe_glob (v := .ref aD_FIELDS) (by rfl) gD_FIELDS rfl) pa_nil)) (pa_cons (pe_ix ix_tup (pv 0) pe_int (fun _ _ => rfl)) pa_nil)) pa_nil)) (pe_use U_written_fields (hr.mono (by decide)) hg rfl (pa_cons (pe_dgetK (pe_glob (v := .ref aD_FIELDS) (by rfl) gD_FIELDS rfl) (pe_ix ix_tup (pv 0) pe_int (fun _ _ => rfl)) (fun _ _ => rfl)) (pa_cons (pv 0) pa_nil)))))), ?_⟩
    have hmem := List.mem_of_getElem? hi
    have hok := frTab_ok _ hmem
    have hi60 : i < 60 := by rw [← fr_len.2]; exact (List.getElem?_eq_some_iff.mp hi).1
    have hnl := flds_len hE
    have hfl : fs.length ≤ 10 := by
      have := hok.2
      simpa using this
    have hnl : ns.length ≤ 100000 := by
      have := Nat.mul_le_mul_right 10000 hfl
      omega
    obtain ⟨i1, i2, i3, i4, i5⟩ := idx_str fields_nd (tab_key fields_keys hi)
    obtain ⟨q, ws, rfl, hq, ha⟩ := (id dv).head
    refine ⟨aD_FIELDS, _, rfl, kD, by decide, fun l1 hl1 => ?_⟩
    have S1 := Same.new (o := .lst ((txtKV fieldsL).map fun kv => kV kv.1)) hl1
    have e1 : (upd H l1 (.lst ((txtKV fieldsL).map fun kv => kV kv.1))) l1 = some (.lst ((fieldsL.map (·.1)).map V.str)) := by rw [upd_same, keys_of]
    generalize upd H l1 (.lst ((txtKV fieldsL).map fun kv => kV kv.1)) = H1 at S1 e1 ⊢
    refine ⟨.inl ⟨rfl, _, SqL.of e1⟩, _, rfl, q, _, _, _, rfl, rfl, Same.tupl S1 hq, at0, l1, _, .str kd, i, .str kd, rfl, rfl, SqL.of e1, i1, i2, i3, i4, i5, ?_⟩
    refine ⟨i, rfl, Nat.lt_of_le_of_lt (show i ≤ 60 by omega) (by decide +kernel), fun l2 H2 n2 S2 e2 => ?_⟩
    have S02 := S1.trans S2
    refine ⟨_, rfl, q, _, _, _, rfl, rfl, Same.tupl S02 hq, at0, aD_FIELDS, _, .inr kd, _, rfl, kD, rfl, tab_val fields_at hmem, _, rfl, _, kd, fs, _, ns, m, rfl, dv.mono S02, rfl, hsm, hm, hE, hok.2, hok.1, fun l3 H3 n3 S3 e3 => ?_⟩
    have hc := cnt_b (n := i) (by omega)
    refine ⟨l2, l3, _, _, rfl, rfl, S3 _ _ e2, e3, by rw [nV_len, nV_len]; exact Nat.le_trans (show (cnt i).length + ns.length ≤ 200000 by omega) (by decide), fun l4 hl4 => ?_⟩
    have S03 := S02.trans S3
    exact k l4 _ (none_same0 S03 hl4) (S03.trans (Same.new hl4)) (by rw [upd_same, nV_app])
end

section
--SPLIT
end
abbrev s_write_frames : Stmt := top 25
abbrev N_write_frames : List Str := ["frames", "numbers", "frame"]
abbrev P_write_frames : List Str := ["frames"]
theorem sc_write_frames : FnScope N_write_frames P_write_frames (defScope s_write_frames) := ⟨rfl, rfl, rfl, by decide +kernel, rfl, by decide +kernel, by decide +kernel⟩
abbrev s_write_object : Stmt := top 16
abbrev N_write_object : List Str := ["item"]
abbrev P_write_object : List Str := ["item"]
theorem sc_write_object : FnScope N_write_object P_write_object (defScope s_write_object) := ⟨rfl, rfl, rfl, by decide +kernel, rfl, by decide +kernel, by decide +kernel⟩
abbrev s_write_control : Stmt := top 18
abbrev N_write_control : List Str := ["control"]
abbrev P_write_control : List Str := ["control"]
theorem sc_write_control : FnScope N_write_control P_write_control (defScope s_write_control) := ⟨rfl, rfl, rfl, by decide +kernel, rfl, by decide +kernel, by decide +kernel⟩
section
variable {P : Program} {w : World} {K : PySem.W.Frag} {mg : Str → Option Value} {base : Heap}
def spWFrs (K : PySem.W.Frag) : Sp := fun vs H Q _ => ∃ (v : V) (l : List Fr) (ns : List Nat) (m : Nat), vs = [v] ∧ Dt K H v (.tuple (l.map frD)) ∧ Fl2Sm m (.fr l) ∧ m ≤ 10 ^ 6 ∧ FldE2 (.fr l) ns ∧ ∀ l H', H l = none → Same H H' → H' l = some (.lst (nV ns)) → Q (.ref l) H'
theorem ok_wframes {f : Addr} {fd : FuncData} (F : Fun K "_write_frames" "_write_frames" s_write_frames f fd) (T : Txt K mg) (U_write_count : Use P w K mg base CX0 "write_count" 1 P_write_count (spCount K)) (U_write_frame : Use P w K mg base CX0 "write_frame" 6 P_write_frame (spWFr K frTab)) : FnG P w K mg base CX0 7 f fd P_write_frames (spWFrs K) := by
  refine okG0 F sc_write_frames (fun vs H Q E h => ?_) fun cdv A outer s H vs Q E hr hg h => ?_
  · obtain ⟨v, l, ns, m, rfl, _⟩ := h
    rfl
  · obtain ⟨v, l, ns, m, rfl, dv, sm, hm, ⟨lss, h1, rfl, h2, h3⟩, k⟩ := h
    refine ⟨_, (pss_cons (ps_set (i := 1) sc_write_frames.nd rfl (Or.inl rfl) (pe_use U_write_count (hr.mono (by decide)) hg rfl (pa_cons (pe_callB call_len (by rfl) T.b_len PySem.boot_len (pa_cons (pv 0) pa_nil)) pa_nil)))
  (pss_cons (ps_for PassesOwn.never rfl (pi_tup (pv 0)) (pg_name (i := 2) sc_write_frames.nd rfl (Or.inl rfl))
   (pss_one (ps_expr (pe_bm PySem.F.plainAttrs_list PySem.F.slot_list_extend PySem.F.type_list_extend mt_extend (pv 1) (pa_cons (pe_use U_write_frame (hr.mono (by decide)) hg rfl (pa_cons (pv 2) pa_nil)) pa_nil)))))
  (pss_one (ps_ret (pv 1))))), ?_⟩
    obtain ⟨q, ws, rfl, hq, ax⟩ := dv.tuple_inv
    have lx := ax.length
    rw [List.length_map] at lx
    have hl2 : l.length ≤ 2 := sm.1
    refine ⟨_, rfl, _, _, rfl, .inr ⟨_, hq, rfl⟩, ws.length, rfl, Nat.lt_of_le_of_lt (show ws.length ≤ 1000 by omega) (by decide +kernel), fun nl H1 hnl S1 e1 => ?_⟩
    have hc := cnt_small (n := l.length) (by omega)
    refine ⟨_, rfl, q, rfl, ⟨_, Same.tupl S1 hq⟩, ?_⟩
    refine for_tup (xs := ws) (fun i σ H5 => ∃ x2, σ = [some (.ref q), some (.ref nl), x2] ∧ Same H H5 ∧ H5 nl = some (.lst (nV (cnt l.length ++ (lss.take i).flatten)))) ⟨none, rfl, S1, by rw [e1, lx]; simp⟩ ?_ ?_ ?_
    · rintro i σ H5 _ ⟨x2, rfl, S5, _⟩
      exact Same.tupl S5 hq
    · rintro i y σ H5 hy ⟨x2, rfl, S5, e5⟩
      obtain ⟨d, hd, dy⟩ := (ax.mono S5).getV hy
      rw [List.getElem?_map] at hd
      obtain ⟨fr, hfi, rfl⟩ := Option.map_eq_some_iff.mp hd
      have hfm := sm.2 fr (List.mem_of_getElem? hfi)
      have hil : i < l.length := (List.getElem?_eq_some_iff.mp hfi).1
      have hl : lss[i]? = some (lss[i]'(by omega)) := List.getElem?_eq_getElem (by omega)
      have hE := h2 i fr _ hfi hl
      have hlb := h3 _ (List.mem_of_getElem? hl)
      generalize lss[i]'(by omega) = ln at hl hE hlb
      obtain ⟨j, fn, hj, hfn, rfl⟩ := hE
      have hfl := flat_le (b := 100100) (ls := lss.take i) fun z hz => h3 z (List.mem_of_mem_take hz)
      have htl : (lss.take i).length ≤ 2 := by rw [List.length_take]; omega
      have := Nat.mul_le_mul_right 100100 htl
      refine ⟨_, rfl, .inl ⟨rfl, _, SqL.of e5⟩, _, rfl, y, fr.kd, fr.fs, j, fn, m, rfl, dy, hj, hfm.2, hm, hfn, fun l H6 _ S6 e6 => ?_⟩
      refine ext_ok (K := K) (S6 _ _ e5) e6 (by rw [List.length_append]; omega) fun H7 e7 kp _ => ⟨some y, rfl, fun b o e => kp _ _ (S6 _ _ (S5 _ _ e)) (ne_of_none e hnl), ?_⟩
      rw [e7, List.take_succ, hl, List.append_assoc]
      simp
    · rintro σ H5 ⟨x2, rfl, S5, e5⟩
      rw [show ws.length = lss.length by omega, List.take_length] at e5
      exact ⟨_, rfl, k nl H5 hnl S5 e5⟩
def spWF2 (K : PySem.W.Frag) (c : Nat) : Sp := fun vs H Q _ => ∃ (v : V) (x : Fl2) (ns : List Nat) (m : Nat), vs = [v] ∧ Dt K H v (fl2D x) ∧ ltr2 x = c ∧ Fl2Sm m x ∧ m ≤ 10 ^ 6 ∧ FldE2 x ns ∧ ns.length ≤ 300000 ∧ ∀ l H', H l = none → Same H H' → H' l = some (.lst (nV ns)) → Q (.ref l) H'
theorem fld_len0 {m : Nat} {x : Fld} {ns : List Nat} (hm : m ≤ 10 ^ 6) (sm : FldSm m x) (h : FldE x ns) : ns.length ≤ 10000 := by
  obtain ⟨ns2, h2, hl⟩ := fld_e hm sm
  have : ns = ns2 := by
    cases x with
    | t d => exact (TrL.rd h).det (TrL.rd h2)
    | s1 z =>
      rcases (h : (z = "break" ∧ ns = [1]) ∨ (z = "continue" ∧ ns = [2])) with ⟨a, b⟩ | ⟨a, b⟩ <;> rcases (h2 : (z = "break" ∧ ns2 = [1]) ∨ (z = "continue" ∧ ns2 = [2])) with ⟨c, d⟩ | ⟨c, d⟩
      · rw [b, d]
      · rw [a] at c; exact absurd c (by decide +kernel)
      · rw [a] at c; exact absurd c (by decide +kernel)
      · rw [b, d]
    | s2 z y =>
      rcases (h : (z = "return" ∧ ns = 3 :: enc y) ∨ (z = "raise" ∧ ns = 4 :: enc y)) with ⟨a, b⟩ | ⟨a, b⟩ <;> rcases (h2 : (z = "return" ∧ ns2 = 3 :: enc y) ∨ (z = "raise" ∧ ns2 = 4 :: enc y)) with ⟨c, d⟩ | ⟨c, d⟩
      · rw [b, d]
      · rw [a] at c; exact absurd c (by decide +kernel)
      · rw [a] at c; exact absurd c (by decide +kernel)
      · rw [b, d]
    | _ => exact (show ns = _ from h).trans (show ns2 = _ from h2).symm
  rw [this]
  exact hl
theorem wf2_one {c : Nat} {vs : List V} {H : Hp} {Q : VK} {E : XK} (hc : c ≠ 70) (h : spWF2 K c vs H Q E) : spWF K c vs H Q E := by
  obtain ⟨v, x, ns, m, rfl, dv, hl, sm, hm, he, hn, k⟩ := h
  obtain ⟨y, rfl⟩ := ltr2_one x (by rw [hl]; exact hc)
  exact ⟨v, y, ns, m, rfl, dv, hl, sm, hm, he, fld_len0 hm sm he, k⟩
theorem wf2_F (vs : List V) (H : Hp) (Q : VK) (E : XK) (h : spWF2 K 70 vs H Q E) : spWFrs K vs H Q E := by
  obtain ⟨v, x, ns, m, rfl, dv, hl, sm, hm, he, hn, k⟩ := h
  cases x with
  | one y => cases y <;> cases hl
  | fr l => exact ⟨v, l, ns, m, rfl, dv, sm, hm, he, k⟩
--SPLIT
def spWFs2 (K : PySem.W.Frag) : Sp := fun vs H Q _ => ∃ (v : V) (kd : Str) (fs : List Fl2) (ls : List Nat) (ns : List Nat) (m : Nat), vs = [.str (S ls), v] ∧ Dt K H v (.tuple (.str kd :: fs.map fl2D)) ∧ fs.map ltr2 = ls ∧ (∀ x ∈ fs, Fl2Sm m x) ∧ m ≤ 10 ^ 6 ∧ FldsE2 fs ns ∧ ns.length ≤ 400000 ∧ ls.length ≤ 10 ∧ (∀ c ∈ ls, c ∈ 70 :: flds) ∧
  ∀ l H', H l = none → Same H H' → H' l = some (.lst (nV ns)) → Q (.ref l) H'
theorem ok_wfields2 {A_write_value A_write_values A_write_pairs A_write_named A_write_tree A_write_count A_write_number_or_none A_write_integer A_write_string A_write_signal A_write_frames : Addr} {f : Addr} {fd : FuncData} (F : Fun K "_written_fields" "_written_fields" s_written_fields f fd) (T : Txt K mg)
    (U_WRITERS : UseD P w K mg "WRITERS" (fnKV [("v", A_write_value), ("V", A_write_values), ("W", A_write_pairs), ("X", A_write_named), ("t", A_write_tree), ("a", A_write_count), ("b", A_write_number_or_none), ("n", A_write_integer), ("x", A_write_string), ("s", A_write_signal), ("F", A_write_frames)]))
    (UA_write_value : UseA P w K mg base "write_value" 3 P_write_value (spWVal K) A_write_value) (UA_write_values : UseA P w K mg base "_write_values" 4 P_write_values (spWVs K) A_write_values) (UA_write_pairs : UseA P w K mg base "_write_pairs" 4 P_write_pairs (spWPs K) A_write_pairs) (UA_write_named : UseA P w K mg base "_write_named" 4 P_write_named (spWNs K) A_write_named)
    (UA_write_tree : UseA P w K mg base "write_tree" 3 P_write_tree (spWTree K) A_write_tree) (UA_write_count : UseA P w K mg base "write_count" 1 P_write_count (spCount K) A_write_count) (UA_write_number_or_none : UseA P w K mg base "_write_number_or_none" 2 P_write_number_or_none (spWNon K) A_write_number_or_none) (UA_write_integer : UseA P w K mg base "write_integer" 2 P_write_integer (spWInt K) A_write_integer)
    (UA_write_string : UseA P w K mg base "write_string" 2 P_write_string (spWStr K) A_write_string) (UA_write_signal : UseA P w K mg base "_write_signal" 4 P_write_signal (spWSig K) A_write_signal) (UA_write_frames : UseA P w K mg base "_write_frames" 7 P_write_frames (spWFrs K) A_write_frames) : FnG P w K mg base CX0 8 f fd P_written_fields (spWFs2 K) := by
  obtain ⟨aD_WRITERS, gD_WRITERS, kD⟩ := U_WRITERS.ex
  have act : ∀ c ∈ 70 :: flds, ∃ (g : Addr) (gd : FuncData) (ps : List Str), valV (fnKV [("v", A_write_value), ("V", A_write_values), ("W", A_write_pairs), ("X", A_write_named), ("t", A_write_tree), ("a", A_write_count), ("b", A_write_number_or_none), ("n", A_write_integer), ("x", A_write_string), ("s", A_write_signal), ("F", A_write_frames)]) (.inr (S [c])) = some (.ref g) ∧
      FnG P w K mg base CX0 7 g gd ps (spWF2 K c) ∧ PySem.W.keepIn K (.ref g) = true ∧ Binds K gd ps [] := by
    intro c hc
    simp only [flds, List.mem_cons, List.not_mem_nil, or_false] at hc
    rcases hc with rfl | rfl | rfl | rfl | rfl | rfl | rfl | rfl | rfl | rfl | rfl
    · obtain ⟨gd, G, _, kp, hb⟩ := UA_write_frames.ex
      exact ⟨_, gd, _, rfl, FnG.upw (G.imp wf2_F) (by decide), kp, hb⟩
    · obtain ⟨gd, G, _, kp, hb⟩ := UA_write_value.ex
      exact ⟨_, gd, _, rfl, FnG.upw (G.imp fun _ _ _ _ h => wf_v _ _ _ _ (wf2_one (by decide) h)) (by decide), kp, hb⟩
    · obtain ⟨gd, G, _, kp, hb⟩ := UA_write_values.ex
      exact ⟨_, gd, _, rfl, FnG.upw (G.imp fun _ _ _ _ h => wf_V _ _ _ _ (wf2_one (by decide) h)) (by decide), kp, hb⟩
    · obtain ⟨gd, G, _, kp, hb⟩ := UA_write_pairs.ex
      exact ⟨_, gd, _, rfl, FnG.upw (G.imp fun _ _ _ _ h => wf_W _ _ _ _ (wf2_one (by decide) h)) (by decide), kp, hb⟩
    · obtain ⟨gd, G, _, kp, hb⟩ := UA_write_named.ex
      exact ⟨_, gd, _, rfl, FnG.upw (G.imp fun _ _ _ _ h => wf_X _ _ _ _ (wf2_one (by decide) h)) (by decide), kp, hb⟩
    · obtain ⟨gd, G, _, kp, hb⟩ := UA_write_tree.ex
      exact ⟨_, gd, _, rfl, FnG.upw (G.imp fun _ _ _ _ h => wf_t _ _ _ _ (wf2_one (by decide) h)) (by decide), kp, hb⟩
    · obtain ⟨gd, G, _, kp, hb⟩ := UA_write_count.ex
      exact ⟨_, gd, _, rfl, FnG.upw (G.imp fun _ _ _ _ h => wf_a _ _ _ _ (wf2_one (by decide) h)) (by decide), kp, hb⟩
    · obtain ⟨gd, G, _, kp, hb⟩ := UA_write_number_or_none.ex
      exact ⟨_, gd, _, rfl, FnG.upw (G.imp fun _ _ _ _ h => wf_b _ _ _ _ (wf2_one (by decide) h)) (by decide), kp, hb⟩
    · obtain ⟨gd, G, _, kp, hb⟩ := UA_write_integer.ex
      exact ⟨_, gd, _, rfl, FnG.upw (G.imp fun _ _ _ _ h => wf_n _ _ _ _ (wf2_one (by decide) h)) (by decide), kp, hb⟩
    · obtain ⟨gd, G, _, kp, hb⟩ := UA_write_string.ex
      exact ⟨_, gd, _, rfl, FnG.upw (G.imp fun _ _ _ _ h => wf_x _ _ _ _ (wf2_one (by decide) h)) (by decide), kp, hb⟩
    · obtain ⟨gd, G, _, kp, hb⟩ := UA_write_signal.ex
      exact ⟨_, gd, _, rfl, FnG.upw (G.imp fun _ _ _ _ h => wf_s _ _ _ _ (wf2_one (by decide) h)) (by decide), kp, hb⟩
  refine okG0 F sc_written_fields (fun vs H Q E h => ?_) fun cdv A outer s H vs Q E hr hg h => ?_
  · obtain ⟨v, kd, fs, ls, ns, m, rfl, _⟩ := h
    rfl
  · obtain ⟨v, kd, fs, ls, ns, m, rfl, dv, hls, hsm, hm, hE, hn4, hll, hfl, k⟩ := h
    refine ⟨_, (pss_cons (ps_set (i := 2) sc_written_fields.nd rfl (Or.inl rfl) (pe_lst pa_nil))
  (pss_cons (ps_for PassesOwn.never rfl (pi_zipST (by rfl) T.b_zip (pa_cons (pv 0) (pa_cons (pe_slice sl_tupA (pv 1) (po_some pe_int) po_none) pa_nil))) (pg_tup (by rfl) (pgs_cons (pg_name (i := 3) sc_written_fields.nd rfl (Or.inl rfl)) (pgs_cons (pg_name (i := 4) sc_written_fields.nd rfl (Or.inl rfl)) pgs_nil)))
   (pss_cons (ps_set (i := 5) sc_written_fields.nd rfl (Or.inl rfl) (pe_dgetK (pe_glob (v := .ref aD_WRITERS) (by rfl) gD_WRITERS rfl) (pv 3) (fun _ _ => rfl)))
  (pss_one (ps_expr (pe_bm PySem.F.plainAttrs_list PySem.F.slot_list_extend PySem.F.type_list_extend mt_extend (pv 2) (pa_cons (pe_callV (k := 7) (pv 5) (hr.mono (by decide)) hg (pa_cons (pv 4) pa_nil)) pa_nil))))))
  (pss_one (ps_ret (pv 2))))), ?_⟩
    obtain ⟨lss, e1, rfl, e3, e4⟩ := hE.at
    obtain ⟨q0, ws, rfl, hq0, ha⟩ := dv.head
    have hal := ha.length
    rw [List.length_map] at hal
    have hfsl : fs.length = ls.length := by rw [← hls, List.length_map]
    refine ⟨sz_0, fun nl hnl => ?_⟩
    have S0 := Same.new (o := .lst []) hnl
    refine ⟨_, rfl, _, rfl, _, rfl, ?_⟩
    refine ⟨q0, _, rfl, Same.tupl S0 hq0, fun e => absurd e.1 (tail_no2 _ _), fun _ q hq => ?_⟩
    rw [cut_one]
    refine ⟨S ls, q, ws, rfl, SqT.of upd_same, ?_⟩
    refine for_it (walk_zipST (z := ls) (b := q) (ys := ws) (by omega)) (fun i σ H5 => ∃ (x3 x4 x5 : Option V), σ = [some (.str (S ls)), some (.ref q0), some (.ref nl), x3, x4, x5] ∧ H5 nl = some (.lst (nV (lss.take i).flatten)) ∧ Same H H5 ∧ SqT K H5 q ws) ⟨none, none, none, rfl, Same.new hq _ _ upd_same, S0.trans (Same.new hq), SqT.of upd_same⟩ (fun _ _ _ _ h => let ⟨_, _, _, _, _, _, z⟩ := h; z) ?_ ?_
    · rintro i y σ H5 H6 hi ⟨x3, x4, x5, rfl, e5, S5, q5⟩ ⟨T, a1, a2, rfl, hT, rfl, g1, g2⟩
      have hif : i < fs.length := by omega
      have hx : fs[i]? = some fs[i] := List.getElem?_eq_getElem hif
      have hsx := hsm _ (List.getElem_mem hif)
      have hl : lss[i]? = some (lss[i]'(by omega)) := List.getElem?_eq_getElem (by omega)
      have hEx := e3 i _ _ hx hl
      have hEl := e4 _ (List.mem_of_getElem? hl)
      generalize fs[i] = x at hx hsx hEx
      generalize lss[i]'(by omega) = ln at hl hEx hEl
      have hlc : ls[i]? = some (ltr2 x) := by rw [← hls, List.getElem?_map, hx]; rfl
      have hcm := hfl _ (List.mem_of_getElem? hlc)
      obtain rfl : V.str (S [ltr2 x]) = a1 := by
        have g1 : (ls[i]?).map (fun c => V.str (S [c])) = some a1 := g1
        rw [hlc] at g1
        exact Option.some.inj g1
      obtain ⟨d, hd, dx⟩ := ha.getV (show ws[i]? = some a2 from g2)
      rw [List.getElem?_map, hx] at hd
      cases hd
      have S6 := Same.new (o := .tup [.str (S [ltr2 x]), a2]) hT
      have S56 := S5.trans S6
      have dx6 := dx.mono S56
      have e6 := S6 _ _ e5
      have q6 := Same.tupl S6 q5
      have hlen : (lss.take i).flatten.length ≤ 400000 := Nat.le_trans (take_flat lss i) hn4
      have htk : (lss.take (i + 1)).flatten = (lss.take i).flatten ++ ln := by rw [List.take_succ, hl]; simp
      obtain ⟨g, gd, ps, hv, G, kp, hb⟩ := act _ hcm
      refine ⟨T, _, rfl, SqT.of upd_same, rfl, _, _, rfl, _, _, rfl, rfl, ?_⟩
      refine ⟨_, rfl, aD_WRITERS, _, .inr (S [ltr2 x]), .ref g, rfl, kD, rfl, hv, ?_⟩
      refine ⟨_, rfl, .inl ⟨rfl, _, SqL.of e6⟩, g, gd, ps, _, rfl, G, kp, hb, _, rfl, a2, x, ln, m, rfl, dx6, rfl, hsx, hm, hEx, hEl, fun l H7 _ S7 e7 => ?_⟩
      refine ext_ok (K := K) (S7 _ _ e6) e7 (by omega) fun H8 e8 kp8 kt => ⟨_, _, _, rfl, by rw [e8, htk], fun c o e => kp8 _ _ (S7 _ _ (S56 _ _ e)) (ne_of_none e hnl), kt _ _ (Same.tupl S7 q6)⟩
    · rintro σ H5 ⟨x3, x4, x5, rfl, e5, S5, q5⟩
      rw [show ws.length = lss.length by omega, List.take_length] at e5
      exact ⟨_, rfl, k nl H5 hnl S5 e5⟩
--SPLIT
def spWOb (K : PySem.W.Frag) (tab : Tab) : Sp := fun vs H Q _ => ∃ (v : V) (kd : Str) (fs : List Fl2) (i : Nat) (ns : List Nat) (m : Nat), vs = [v] ∧ Dt K H v (.tuple (.str kd :: fs.map fl2D)) ∧ tab[i]? = some (kd, fs.map ltr2) ∧ (∀ x ∈ fs, Fl2Sm m x) ∧ m ≤ 10 ^ 6 ∧ FldsE2 fs ns ∧ ns.length ≤ 400000 ∧
  ∀ l H', H l = none → Same H H' → H' l = some (.lst (nV (cnt i ++ ns))) → Q (.ref l) H'
theorem ok_wobject {f : Addr} {fd : FuncData} (F : Fun K "write_object" "write_object" s_write_object f fd) (T : Txt K mg) (U_OBJECTS : UseD P w K mg "OBJECTS" (txtKV objectsL)) (U_write_count : Use P w K mg base CX0 "write_count" 1 P_write_count (spCount K)) (U_written_fields : Use P w K mg base CX0 "_written_fields" 8 P_written_fields (spWFs2 K)) : FnG P w K mg base CX0 9 f fd P_write_object (spWOb K obTab) := by
  obtain ⟨aD_OBJECTS, gD_OBJECTS, kD⟩ := U_OBJECTS.ex
  refine okG0 F sc_write_object (fun vs H Q E h => ?_) fun cdv A outer s H vs Q E hr hg h => ?_
  · obtain ⟨v, kd, fs, i, ns, m, rfl, _⟩ := h
    rfl
  · obtain ⟨v, kd, fs, i, ns, m, rfl, dv, hi, hsm, hm, hE, hnl, k⟩ := h
    refine ⟨_, (pss_one (ps_ret (pe_op op_cat (pe_use U_write_count (hr.mono (by decide)) hg rfl (pa_cons (pe_bm PySem.F.plainAttrs_list PySem.F.slot_list_index PySem.F.type_list_index mt_index (pe_callTy (call_listK rfl) (by rfl) T.b_list (by decide +kernel) (pa_cons (pe_glob (v := .ref aD_OBJECTS) (by rfl) gD_OBJECTS rfl) pa_nil)) (pa_cons (pe_ix ix_tup (pv 0) pe_int (fun _ _ => rfl)) pa_nil)) pa_nil)) (pe_use U_written_fields (hr.mono (by decide)) hg rfl (pa_cons (pe_dgetK (pe_glob (v := .ref aD_OBJECTS) (by rfl) gD_OBJECTS rfl) (pe_ix ix_tup (pv 0) pe_int (fun _ _ => rfl)) (fun _ _ => rfl)) (pa_cons (pv 0) pa_nil)))))), ?_⟩
    have hmem := List.mem_of_getElem? hi
    have hok := obTab_ok _ hmem
    have hi60 : i < 10 := by rw [← obTab_n]; exact (List.getElem?_eq_some_iff.mp hi).1
    have hfl : fs.length ≤ 10 := by
      have := hok.2
      simpa using this
    obtain ⟨i1, i2, i3, i4, i5⟩ := idx_str objects_nd (tab_key objects_keys hi)
    obtain ⟨q, ws, rfl, hq, ha⟩ := (id dv).head
    refine ⟨aD_OBJECTS, _, rfl, kD, by decide, fun l1 hl1 => ?_⟩
    have S1 := Same.new (o := .lst ((txtKV objectsL).map fun kv => kV kv.1)) hl1
    have e1 : (upd H l1 (.lst ((txtKV objectsL).map fun kv => kV kv.1))) l1 = some (.lst ((objectsL.map (·.1)).map V.str)) := by rw [upd_same, keys_of]
    generalize upd H l1 (.lst ((txtKV objectsL).map fun kv => kV kv.1)) = H1 at S1 e1 ⊢
    refine ⟨.inl ⟨rfl, _, SqL.of e1⟩, _, rfl, q, _, _, _, rfl, rfl, Same.tupl S1 hq, at0, l1, _, .str kd, i, .str kd, rfl, rfl, SqL.of e1, i1, i2, i3, i4, i5, ?_⟩
    refine ⟨i, rfl, Nat.lt_of_le_of_lt (show i ≤ 60 by omega) (by decide +kernel), fun l2 H2 n2 S2 e2 => ?_⟩
    have S02 := S1.trans S2
    refine ⟨_, rfl, q, _, _, _, rfl, rfl, Same.tupl S02 hq, at0, aD_OBJECTS, _, .inr kd, _, rfl, kD, rfl, tab_val objects_at hmem, _, rfl, _, kd, fs, _, ns, m, rfl, dv.mono S02, rfl, hsm, hm, hE, hnl, hok.2, hok.1, fun l3 H3 n3 S3 e3 => ?_⟩
    have hc := cnt_b (n := i) (by omega)
    refine ⟨l2, l3, _, _, rfl, rfl, S3 _ _ e2, e3, by rw [nV_len, nV_len]; exact Nat.le_trans (show (cnt i).length + ns.length ≤ 500000 by omega) (by decide), fun l4 hl4 => ?_⟩
    have S03 := S02.trans S3
    exact k l4 _ (none_same0 S03 hl4) (S03.trans (Same.new hl4)) (by rw [upd_same, nV_app])
theorem ok_wcontrol {f : Addr} {fd : FuncData} (F : Fun K "write_control" "write_control" s_write_control f fd) (T : Txt K mg) (U_CONTROLS : UseD P w K mg "CONTROLS" (txtKV controlsL)) (U_write_count : Use P w K mg base CX0 "write_count" 1 P_write_count (spCount K)) (U_written_fields : Use P w K mg base CX0 "_written_fields" 5 P_written_fields (spWFs0 K)) : FnG P w K mg base CX0 6 f fd P_write_control (spWFr K coTab) := by
  obtain ⟨aD_CONTROLS, gD_CONTROLS, kD⟩ := U_CONTROLS.ex
  refine okG0 F sc_write_control (fun vs H Q E h => ?_) fun cdv A outer s H vs Q E hr hg h => ?_
  · obtain ⟨v, kd, fs, i, ns, m, rfl, _⟩ := h
    rfl
  · obtain ⟨v, kd, fs, i, ns, m, rfl, dv, hi, hsm, hm, hE, k⟩ := h
    refine ⟨_, (pss_one (ps_ret (pe_op op_cat (pe_use U_write_count (hr.mono (by decide)) hg rfl (pa_cons (pe_bm PySem.F.plainAttrs_list PySem.F.slot_list_index PySem.F.type_list_index mt_index (pe_callTy (call_listK rfl) (by rfl) T.b_list (by decide +kernel) (pa_cons (pe_glob (v := .ref aD_CONTROLS) (by rfl) gD_CONTROLS rfl) pa_nil)) (pa_cons (pe_ix ix_tup (pv 0) pe_int (fun _ _ => rfl)) pa_nil)) pa_nil)) (pe_use U_written_fields (hr.mono (by decide)) hg rfl (pa_cons (pe_dgetK (pe_glob (v := .ref aD_CONTROLS) (by rfl) gD_CONTROLS rfl) (pe_ix ix_tup (pv 0) pe_int (fun _ _ => rfl)) (fun _ _ => rfl)) (pa_cons (pv 0) pa_nil)))))), ?_⟩
    have hmem := List.mem_of_getElem? hi
    have hok := coTab_ok _ hmem
    have hi60 : i < 10 := by rw [← coTab_n]; exact (List.getElem?_eq_some_iff.mp hi).1
    have hnl := flds_len hE
    have hfl : fs.length ≤ 10 := by
      have := hok.2
      simpa using this
    have hnl : ns.length ≤ 100000 := by
      have := Nat.mul_le_mul_right 10000 hfl
      omega
    obtain ⟨i1, i2, i3, i4, i5⟩ := idx_str controls_nd (tab_key controls_keys hi)
    obtain ⟨q, ws, rfl, hq, ha⟩ := (id dv).head
    refine ⟨aD_CONTROLS, _, rfl, kD, by decide, fun l1 hl1 => ?_⟩
    have S1 := Same.new (o := .lst ((txtKV controlsL).map fun kv => kV kv.1)) hl1
    have e1 : (upd H l1 (.lst ((txtKV controlsL).map fun kv => kV kv.1))) l1 = some (.lst ((controlsL.map (·.1)).map V.str)) := by rw [upd_same, keys_of]
    generalize upd H l1 (.lst ((txtKV controlsL).map fun kv => kV kv.1)) = H1 at S1 e1 ⊢
    refine ⟨.inl ⟨rfl, _, SqL.of e1⟩, _, rfl, q, _, _, _, rfl, rfl, Same.tupl S1 hq, at0, l1, _, .str kd, i, .str kd, rfl, rfl, SqL.of e1, i1, i2, i3, i4, i5, ?_⟩
    refine ⟨i, rfl, Nat.lt_of_le_of_lt (show i ≤ 60 by omega) (by decide +kernel), fun l2 H2 n2 S2 e2 => ?_⟩
    have S02 := S1.trans S2
    refine ⟨_, rfl, q, _, _, _, rfl, rfl, Same.tupl S02 hq, at0, aD_CONTROLS, _, .inr kd, _, rfl, kD, rfl, tab_val controls_at hmem, _, rfl, _, kd, fs, _, ns, m, rfl, dv.mono S02, rfl, hsm, hm, hE, hok.2, hok.1, fun l3 H3 n3 S3 e3 => ?_⟩
    have hc := cnt_b (n := i) (by omega)
    refine ⟨l2, l3, _, _, rfl, rfl, S3 _ _ e2, e3, by rw [nV_len, nV_len]; exact Nat.le_trans (show (cnt i).length + ns.length ≤ 200000 by omega) (by decide), fun l4 hl4 => ?_⟩
    have S03 := S02.trans S3
    exact k l4 _ (none_same0 S03 hl4) (S03.trans (Same.new hl4)) (by rw [upd_same, nV_app])
end

section
--SPLIT
end
abbrev s_law_field_numbers : Stmt := top 70
abbrev N_law_field_numbers : List Str := ["letter", "field", "numbers", "part"]
abbrev P_law_field_numbers : List Str := ["letter", "field"]
theorem sc_law_field_numbers : FnScope N_law_field_numbers P_law_field_numbers (defScope s_law_field_numbers) := ⟨rfl, rfl, rfl, by decide +kernel, rfl, by decide +kernel, by decide +kernel⟩
abbrev s_law_shape_numbers : Stmt := top 71
abbrev N_law_shape_numbers : List Str := ["table", "item", "kinds", "row", "place", "numbers", "letters", "k"]
abbrev P_law_shape_numbers : List Str := ["table", "item"]
theorem sc_law_shape_numbers : FnScope N_law_shape_numbers P_law_shape_numbers (defScope s_law_shape_numbers) := ⟨rfl, rfl, rfl, by decide +kernel, rfl, by decide +kernel, by decide +kernel⟩
section
variable {P : Program} {w : World} {K : PySem.W.Frag} {mg : Str → Option Value} {base : Heap}
theorem cat_ok {H1 : Hp} {l1 l2 : Addr} {a b : List Nat} {R : V → Hp → Prop} (e1 : H1 l1 = some (.lst (nV a))) (e2 : H1 l2 = some (.lst (nV b))) (hl : a.length + b.length ≤ 900000) (kk : ∀ l H2, H1 l = none → Same H1 H2 → H2 l = some (.lst (nV (a ++ b))) → R (.ref l) H2) : rCat (.ref l1) (.ref l2) H1 R :=
  ⟨_, _, _, _, rfl, rfl, e1, e2, by rw [nV_len, nV_len]; exact Nat.le_trans hl (by decide), fun l h => kk l _ h (Same.new h) (by rw [upd_same, nV_app])⟩
def spLFN0 (K : PySem.W.Frag) : Sp := fun vs H Q _ => ∃ (v : V) (x : Fld) (ns : List Nat) (m : Nat), vs = [.str (S [ltr x]), v] ∧ Dt K H v (fldD x) ∧ FldSm m x ∧ m ≤ 10 ^ 6 ∧ FldE x ns ∧ ns.length ≤ 10000 ∧ ∀ l H', H l = none → Same H H' → H' l = some (.lst (nV ns)) → Q (.ref l) H'
theorem ok_lfn0 {f : Addr} {fd : FuncData} (F : Fun K "_law_field_numbers" "_law_field_numbers" s_law_field_numbers f fd) (T : Txt K mg) (U_law_value_numbers : Use P w K mg base CX0 "_law_value_numbers" 3 P_law_value_numbers (spLVNum K)) (U_law_tree_numbers : Use P w K mg base CX0 "_law_tree_numbers" (3 + 6) P_law_tree_numbers (spLTree K 6))
    (U_law_count : Use P w K mg base CX0 "_law_count" 1 P_law_count (spLCount K)) (U_law_integer : Use P w K mg base CX0 "_law_integer" 2 P_law_integer (spLInt K)) (U_law_string : Use P w K mg base CX0 "_law_string" 2 P_law_string (spWStr K)) : FnG P w K mg base CX0 10 f fd P_law_field_numbers (spLFN0 K) := by
  refine okG0 F sc_law_field_numbers (fun vs H Q E h => ?_) fun cdv A outer s H vs Q E hr hg h => ?_
  · obtain ⟨v, x, ns, m, rfl, _⟩ := h
    rfl
  · obtain ⟨v, x, ns, m, rfl, dv, sm, hm, he, hl, k⟩ := h
    refine ⟨_, (pss_cons (ps_if (pt_cmpR op_eq (pv 0) pe_str (nomark _))
   (pss_one (ps_ret (pe_use U_law_value_numbers (hr.mono (by decide)) hg rfl (pa_cons (pv 1) pa_nil))))
   pss_nil)
  (pss_cons (ps_if (pt_cmpR op_eq (pv 0) pe_str (nomark _))
   (pss_one (ps_ret (pe_use U_law_tree_numbers (hr.mono (by decide)) hg rfl (pa_cons (pv 1) pa_nil))))
   pss_nil)
  (pss_cons (ps_if (pt_cmpR op_eq (pv 0) pe_str (nomark _))
   (pss_one (ps_ret (pe_use U_law_count (hr.mono (by decide)) hg rfl (pa_cons (pv 1) pa_nil))))
   pss_nil)
  (pss_cons (ps_if (pt_cmpR op_eq (pv 0) pe_str (nomark _))
   (pss_one (ps_ret (pe_use U_law_count (hr.mono (by decide)) hg rfl (pa_cons (pe_op op_add (pv 1) pe_int) pa_nil))))
   pss_nil)
  (pss_cons (ps_if (pt_cmpR op_eq (pv 0) pe_str (nomark _))
   (pss_one (ps_ret (pe_use U_law_integer (hr.mono (by decide)) hg rfl (pa_cons (pv 1) pa_nil))))
   pss_nil)
  (pss_cons (ps_if (pt_cmpR op_eq (pv 0) pe_str (nomark _))
   (pss_one (ps_ret (pe_use U_law_string (hr.mono (by decide)) hg rfl (pa_cons (pv 1) pa_nil))))
   pss_nil)
  (pss_cons (ps_if (pt_cmpR op_eq (pv 0) pe_str (nomark _))
   (pss_cons (ps_if (pt_cmpR op_eq (pe_callB call_len (by rfl) T.b_len PySem.boot_len (pa_cons (pv 1) pa_nil)) pe_int (nomark _))
   (pss_one (ps_ret (pe_lst (pa_cons pe_int pa_nil))))
   pss_nil)
  (pss_cons (ps_set (i := 2) sc_law_field_numbers.nd rfl (Or.inl rfl) (pe_lst (pa_cons (pe_op op_add (pe_bm PySem.F.plainAttrs_list PySem.F.slot_list_index PySem.F.type_list_index mt_index (pe_lst (pa_cons pe_str (pa_cons pe_str (pa_cons pe_str (pa_cons pe_str pa_nil))))) (pa_cons (pe_ix ix_tup (pv 1) pe_int (fun _ _ => rfl)) pa_nil)) pe_int) pa_nil)))
  (pss_cons (ps_if (pt_cmpR op_eq (pe_callB call_len (by rfl) T.b_len PySem.boot_len (pa_cons (pv 1) pa_nil)) pe_int (nomark _))
   (pss_one (ps_ret (pe_op op_cat (pv 2) (pe_use U_law_value_numbers (hr.mono (by decide)) hg rfl (pa_cons (pe_ix ix_tup (pv 1) pe_int (fun _ _ => rfl)) pa_nil)))))
   pss_nil)
  (pss_one (ps_ret (pv 2))))))
   pss_nil)
  (pss_cons (ps_set (i := 2) sc_law_field_numbers.nd rfl (Or.inl rfl) (pe_use U_law_count (hr.mono (by decide)) hg rfl (pa_cons (pe_callB call_len (by rfl) T.b_len PySem.boot_len (pa_cons (pv 1) pa_nil)) pa_nil)))
  (pss_cons (ps_for PassesOwn.never rfl (pi_tup (pv 1)) (pg_name (i := 3) sc_law_field_numbers.nd rfl (Or.inl rfl))
   (pss_one (ps_if (pt_cmpR op_eq (pv 0) pe_str (nomark _))
   (pss_one (ps_set (i := 2) sc_law_field_numbers.nd rfl (Or.inl rfl) (pe_op op_cat (pv 2) (pe_use U_law_value_numbers (hr.mono (by decide)) hg rfl (pa_cons (pv 3) pa_nil)))))
   (pss_one (ps_if (pt_cmpR op_eq (pv 0) pe_str (nomark _))
   (pss_one (ps_set (i := 2) sc_law_field_numbers.nd rfl (Or.inl rfl) (pe_op op_cat (pe_op op_cat (pv 2) (pe_use U_law_value_numbers (hr.mono (by decide)) hg rfl (pa_cons (pe_ix ix_tup (pv 3) pe_int (fun _ _ => rfl)) pa_nil))) (pe_use U_law_value_numbers (hr.mono (by decide)) hg rfl (pa_cons (pe_ix ix_tup (pv 3) pe_int (fun _ _ => rfl)) pa_nil)))))
   (pss_one (ps_if (pt_cmpR op_eq (pv 0) pe_str (nomark _))
   (pss_one (ps_set (i := 2) sc_law_field_numbers.nd rfl (Or.inl rfl) (pe_op op_cat (pe_op op_cat (pv 2) (pe_use U_law_string (hr.mono (by decide)) hg rfl (pa_cons (pe_ix ix_tup (pv 3) pe_int (fun _ _ => rfl)) pa_nil))) (pe_use U_law_value_numbers (hr.mono (by decide)) hg rfl (pa_cons (pe_ix ix_tup (pv 3) pe_int (fun _ _ => rfl)) pa_nil)))))
   pss_never)))))))
  (pss_one (ps_ret (pv 2)))))))))))), ?_⟩
    cases x with
    | v x =>
      refine ⟨_, rfl, rfl, _, rfl, iteTb (by show decide (V.str (S [118]) = _) = _; decide +kernel) ?_⟩
      exact ⟨_, rfl, v, x, rfl, dv, sm_rd sm, by rw [show ns = _ from he] at k; exact k⟩
    | t d =>
      refine ⟨_, rfl, rfl, _, rfl, iteFb (by show decide (V.str (S [116]) = _) = _; decide +kernel) ?_⟩
      refine ⟨_, rfl, rfl, _, rfl, iteTb (by show decide (V.str (S [116]) = _) = _; decide +kernel) ?_⟩
      exact ⟨_, rfl, v, d, ns, rfl, dv, he, by omega, k⟩
    | a n =>
      refine ⟨_, rfl, rfl, _, rfl, iteFb (by show decide (V.str (S [97]) = _) = _; decide +kernel) ?_⟩
      refine ⟨_, rfl, rfl, _, rfl, iteFb (by show decide (V.str (S [97]) = _) = _; decide +kernel) ?_⟩
      refine ⟨_, rfl, rfl, _, rfl, iteTb (by show decide (V.str (S [97]) = _) = _; decide +kernel) ?_⟩
      obtain rfl := Dt.int_inv (show Dt K H v (.int (n : Int)) from dv)
      have hn : n < m := sm
      exact ⟨_, rfl, n, rfl, Nat.lt_of_le_of_lt (show n ≤ 10 ^ 6 by omega) (by decide +kernel), by rw [show ns = _ from he] at k; exact k⟩
    | b n =>
      refine ⟨_, rfl, rfl, _, rfl, iteFb (by show decide (V.str (S [98]) = _) = _; decide +kernel) ?_⟩
      refine ⟨_, rfl, rfl, _, rfl, iteFb (by show decide (V.str (S [98]) = _) = _; decide +kernel) ?_⟩
      refine ⟨_, rfl, rfl, _, rfl, iteFb (by show decide (V.str (S [98]) = _) = _; decide +kernel) ?_⟩
      refine ⟨_, rfl, rfl, _, rfl, iteTb (by show decide (V.str (S [98]) = _) = _; decide +kernel) ?_⟩
      obtain rfl := Dt.int_inv (show Dt K H v (.int n) from dv)
      have h1 : -1 ≤ n := sm.1
      have h2 : n < (m : Int) := sm.2
      refine ⟨_, rfl, _, _, rfl, rfl, (n + 1).toNat, ?_, Nat.lt_of_le_of_lt (show (n + 1).toNat ≤ 10 ^ 7 by omega) (by decide +kernel), by rw [show ns = _ from he] at k; exact k⟩
      dsimp only
      rw [Int.toNat_of_nonneg (by omega)]
    | n n =>
      refine ⟨_, rfl, rfl, _, rfl, iteFb (by show decide (V.str (S [110]) = _) = _; decide +kernel) ?_⟩
      refine ⟨_, rfl, rfl, _, rfl, iteFb (by show decide (V.str (S [110]) = _) = _; decide +kernel) ?_⟩
      refine ⟨_, rfl, rfl, _, rfl, iteFb (by show decide (V.str (S [110]) = _) = _; decide +kernel) ?_⟩
      refine ⟨_, rfl, rfl, _, rfl, iteFb (by show decide (V.str (S [110]) = _) = _; decide +kernel) ?_⟩
      refine ⟨_, rfl, rfl, _, rfl, iteTb (by show decide (V.str (S [110]) = _) = _; decide +kernel) ?_⟩
      obtain rfl := Dt.int_inv (show Dt K H v (.int n) from dv)
      exact ⟨_, rfl, n, rfl, sm, by rw [show ns = _ from he] at k; exact k⟩
    | x js =>
      refine ⟨_, rfl, rfl, _, rfl, iteFb (by show decide (V.str (S [120]) = _) = _; decide +kernel) ?_⟩
      refine ⟨_, rfl, rfl, _, rfl, iteFb (by show decide (V.str (S [120]) = _) = _; decide +kernel) ?_⟩
      refine ⟨_, rfl, rfl, _, rfl, iteFb (by show decide (V.str (S [120]) = _) = _; decide +kernel) ?_⟩
      refine ⟨_, rfl, rfl, _, rfl, iteFb (by show decide (V.str (S [120]) = _) = _; decide +kernel) ?_⟩
      refine ⟨_, rfl, rfl, _, rfl, iteFb (by show decide (V.str (S [120]) = _) = _; decide +kernel) ?_⟩
      refine ⟨_, rfl, rfl, _, rfl, iteTb (by show decide (V.str (S [120]) = _) = _; decide +kernel) ?_⟩
      obtain rfl := Dt.str_inv (show Dt K H v (.str (tx js)) from dv)
      exact ⟨_, rfl, js, rfl, Nat.le_trans sm.len (by decide), sm.lt, by rw [show ns = _ from he] at k; exact k⟩
    | s0 =>
      refine ⟨_, rfl, rfl, _, rfl, iteFb (by show decide (V.str (S [115]) = _) = _; decide +kernel) ?_⟩
      refine ⟨_, rfl, rfl, _, rfl, iteFb (by show decide (V.str (S [115]) = _) = _; decide +kernel) ?_⟩
      refine ⟨_, rfl, rfl, _, rfl, iteFb (by show decide (V.str (S [115]) = _) = _; decide +kernel) ?_⟩
      refine ⟨_, rfl, rfl, _, rfl, iteFb (by show decide (V.str (S [115]) = _) = _; decide +kernel) ?_⟩
      refine ⟨_, rfl, rfl, _, rfl, iteFb (by show decide (V.str (S [115]) = _) = _; decide +kernel) ?_⟩
      refine ⟨_, rfl, rfl, _, rfl, iteFb (by show decide (V.str (S [115]) = _) = _; decide +kernel) ?_⟩
      refine ⟨_, rfl, rfl, _, rfl, iteTb (by show decide (V.str (S [115]) = _) = _; decide +kernel) ?_⟩
      obtain ⟨q, ws, rfl, hq, ax⟩ := Dt.tuple_inv (show Dt K H v (.tuple []) from dv)
      obtain rfl := ax.nil_inv
      refine ⟨_, rfl, _, _, rfl, .inr ⟨_, hq, rfl⟩, rfl, _, rfl, iteTb rfl ?_⟩
      have he : ns = [0] := he
      subst he
      exact ⟨sz_1, fun l hl => k l _ hl (Same.new hl) upd_same⟩
    | s1 z =>
      refine ⟨_, rfl, rfl, _, rfl, iteFb (by show decide (V.str (S [115]) = _) = _; decide +kernel) ?_⟩
      refine ⟨_, rfl, rfl, _, rfl, iteFb (by show decide (V.str (S [115]) = _) = _; decide +kernel) ?_⟩
      refine ⟨_, rfl, rfl, _, rfl, iteFb (by show decide (V.str (S [115]) = _) = _; decide +kernel) ?_⟩
      refine ⟨_, rfl, rfl, _, rfl, iteFb (by show decide (V.str (S [115]) = _) = _; decide +kernel) ?_⟩
      refine ⟨_, rfl, rfl, _, rfl, iteFb (by show decide (V.str (S [115]) = _) = _; decide +kernel) ?_⟩
      refine ⟨_, rfl, rfl, _, rfl, iteFb (by show decide (V.str (S [115]) = _) = _; decide +kernel) ?_⟩
      refine ⟨_, rfl, rfl, _, rfl, iteTb (by show decide (V.str (S [115]) = _) = _; decide +kernel) ?_⟩
      obtain ⟨q, ws, rfl, hq, ax⟩ := Dt.tuple_inv (show Dt K H v (.tuple [.str z]) from dv)
      obtain ⟨y, ws, rfl, dy, ax⟩ := DtAll.cons_inv ax
      obtain rfl := ax.nil_inv
      cases dy.str_inv
      refine ⟨_, rfl, _, _, rfl, .inr ⟨_, hq, rfl⟩, rfl, _, rfl, iteFb rfl ?_⟩
      obtain ⟨num, hns, hz⟩ : ∃ num : Nat, ns = [num + 1] ∧ ([("break" : Str), "continue", "return", "raise"] : List Str)[num]? = some z := by
        rcases (he : (z = "break" ∧ ns = [1]) ∨ (z = "continue" ∧ ns = [2])) with ⟨rfl, rfl⟩ | ⟨rfl, rfl⟩
        · exact ⟨0, rfl, rfl⟩
        · exact ⟨1, rfl, rfl⟩
      obtain ⟨i1, i2, i3, i4, i5⟩ := idx_str (ks := [("break" : Str), "continue", "return", "raise"]) (by decide +kernel) hz
      refine ⟨by decide, fun u hu => ?_⟩
      have S1 := Same.new (o := .lst [.str "break", .str "continue", .str "return", .str "raise"]) hu
      refine ⟨.inl ⟨rfl, _, SqL.of upd_same⟩, _, rfl, q, _, _, _, rfl, rfl, Same.tupl S1 hq, at0, u, _, .str z, num, .str z, rfl, rfl, SqL.of upd_same, i1, i2, i3, i4, i5, _, _, rfl, rfl, sz_1, fun nl hnl => ?_⟩
      have S2 := Same.new (o := .lst [.int ((num : Int) + 1)]) hnl
      refine ⟨_, rfl, _, _, rfl, .inr ⟨_, Same.tupl (S1.trans S2) hq, rfl⟩, rfl, _, rfl, iteFb rfl ?_⟩
      exact ⟨_, rfl, k nl _ (none_same0 S1 hnl) (S1.trans S2) (by rw [upd_same, hns]; rfl)⟩
    | s2 z x =>
      refine ⟨_, rfl, rfl, _, rfl, iteFb (by show decide (V.str (S [115]) = _) = _; decide +kernel) ?_⟩
      refine ⟨_, rfl, rfl, _, rfl, iteFb (by show decide (V.str (S [115]) = _) = _; decide +kernel) ?_⟩
      refine ⟨_, rfl, rfl, _, rfl, iteFb (by show decide (V.str (S [115]) = _) = _; decide +kernel) ?_⟩
      refine ⟨_, rfl, rfl, _, rfl, iteFb (by show decide (V.str (S [115]) = _) = _; decide +kernel) ?_⟩
      refine ⟨_, rfl, rfl, _, rfl, iteFb (by show decide (V.str (S [115]) = _) = _; decide +kernel) ?_⟩
      refine ⟨_, rfl, rfl, _, rfl, iteFb (by show decide (V.str (S [115]) = _) = _; decide +kernel) ?_⟩
      refine ⟨_, rfl, rfl, _, rfl, iteTb (by show decide (V.str (S [115]) = _) = _; decide +kernel) ?_⟩
      obtain ⟨q, ws, rfl, hq, ax⟩ := Dt.tuple_inv (show Dt K H v (.tuple [.str z, valD x]) from dv)
      obtain ⟨y, ws, rfl, dy, ax⟩ := DtAll.cons_inv ax
      obtain ⟨y2, ws, rfl, dy2, ax⟩ := DtAll.cons_inv ax
      obtain rfl := ax.nil_inv
      cases dy.str_inv
      refine ⟨_, rfl, _, _, rfl, .inr ⟨_, hq, rfl⟩, rfl, _, rfl, iteFb rfl ?_⟩
      obtain ⟨num, hns, hz⟩ : ∃ num : Nat, ns = (num + 1) :: enc x ∧ ([("break" : Str), "continue", "return", "raise"] : List Str)[num]? = some z := by
        rcases (he : (z = "return" ∧ ns = 3 :: enc x) ∨ (z = "raise" ∧ ns = 4 :: enc x)) with ⟨rfl, rfl⟩ | ⟨rfl, rfl⟩
        · exact ⟨2, rfl, rfl⟩
        · exact ⟨3, rfl, rfl⟩
      have hxl := sm_len sm.2
      obtain ⟨i1, i2, i3, i4, i5⟩ := idx_str (ks := [("break" : Str), "continue", "return", "raise"]) (by decide +kernel) hz
      refine ⟨by decide, fun u hu => ?_⟩
      have S1 := Same.new (o := .lst [.str "break", .str "continue", .str "return", .str "raise"]) hu
      refine ⟨.inl ⟨rfl, _, SqL.of upd_same⟩, _, rfl, q, _, _, _, rfl, rfl, Same.tupl S1 hq, at0, u, _, .str z, num, .str z, rfl, rfl, SqL.of upd_same, i1, i2, i3, i4, i5, _, _, rfl, rfl, sz_1, fun nl hnl => ?_⟩
      have S2 := Same.new (o := .lst [.int ((num : Int) + 1)]) hnl
      have S12 := S1.trans S2
      have e2 : (upd (upd H u (.lst [.str "break", .str "continue", .str "return", .str "raise"])) nl (.lst [.int ((num : Int) + 1)])) nl = some (.lst (nV [num + 1])) := upd_same
      refine ⟨_, rfl, _, _, rfl, .inr ⟨_, Same.tupl S12 hq, rfl⟩, rfl, _, rfl, iteTb rfl ?_⟩
      refine ⟨_, rfl, _, rfl, q, _, _, _, rfl, rfl, Same.tupl S12 hq, at1, y2, x, rfl, dy2.mono S12, sm_rd sm.2, fun l3 H3 n3 S3 e3 => ?_⟩
      refine cat_ok (S3 _ _ e2) e3 (by simp; omega) fun l4 H4 n4 S4 e4 => k l4 H4 (none_same0 (S12.trans S3) n4) ((S12.trans S3).trans S4) (by rw [e4, hns]; rfl)
    | V xs =>
      refine ⟨_, rfl, rfl, _, rfl, iteFb (by show decide (V.str (S [86]) = _) = _; decide +kernel) ?_⟩
      refine ⟨_, rfl, rfl, _, rfl, iteFb (by show decide (V.str (S [86]) = _) = _; decide +kernel) ?_⟩
      refine ⟨_, rfl, rfl, _, rfl, iteFb (by show decide (V.str (S [86]) = _) = _; decide +kernel) ?_⟩
      refine ⟨_, rfl, rfl, _, rfl, iteFb (by show decide (V.str (S [86]) = _) = _; decide +kernel) ?_⟩
      refine ⟨_, rfl, rfl, _, rfl, iteFb (by show decide (V.str (S [86]) = _) = _; decide +kernel) ?_⟩
      refine ⟨_, rfl, rfl, _, rfl, iteFb (by show decide (V.str (S [86]) = _) = _; decide +kernel) ?_⟩
      refine ⟨_, rfl, rfl, _, rfl, iteFb (by show decide (V.str (S [86]) = _) = _; decide +kernel) ?_⟩
      obtain ⟨hx4, hsm⟩ := sm
      obtain ⟨q, ws, rfl, hq, ax⟩ := Dt.tuple_inv (show Dt K H v (.tuple (xs.map valD)) from dv)
      have lx := ax.length
      rw [List.length_map] at lx
      refine ⟨_, rfl, _, _, rfl, .inr ⟨_, hq, rfl⟩, ws.length, rfl, Nat.lt_of_le_of_lt (show ws.length ≤ 1000 by omega) (by decide +kernel), fun nl H1 hnl S1 e1 => ?_⟩
      have hc := cnt_small (n := xs.length) (by omega)
      refine ⟨_, rfl, q, rfl, ⟨_, Same.tupl S1 hq⟩, ?_⟩
      refine for_tup (xs := ws) (fun i σ H5 => ∃ nl x3, σ = [some (.str (S [86])), some (.ref q), some (.ref nl), x3] ∧ H nl = none ∧ Same H H5 ∧ H5 nl = some (.lst (nV (cnt xs.length ++ (xs.take i).flatMap enc)))) ⟨nl, none, rfl, hnl, S1, by rw [e1, lx]; simp⟩ ?_ ?_ ?_
      · rintro i σ H5 _ ⟨nl, x3, rfl, hnl, S5, _⟩
        exact Same.tupl S5 hq
      · rintro i y σ H5 hy ⟨nl, x3, rfl, hnl, S5, e5⟩
        obtain ⟨d, hd, dy⟩ := (ax.mono S5).getV hy
        rw [List.getElem?_map] at hd
        obtain ⟨x, hxi, rfl⟩ := Option.map_eq_some_iff.mp hd
        have hxm := hsm x (List.mem_of_getElem? hxi)
        have hle := sm_len hxm
        have hfl := fm_le (b := 100) (g := enc) (xs := xs.take i) fun z hz => sm_len (hsm z (List.mem_of_mem_take hz))
        have htl : (xs.take i).length ≤ 1000 := by rw [List.length_take]; omega
        refine ⟨_, rfl, rfl, _, rfl, iteTb (by show decide (V.str (S [86]) = _) = _; decide +kernel) ?_⟩
        refine ⟨_, rfl, _, rfl, y, x, rfl, dy, sm_rd hxm, fun l H6 _ S6 e6 => ?_⟩
        refine cat_ok (S6 _ _ e5) e6 (by rw [List.length_append]; omega) fun l4 H4 n4 S4 e4 => ⟨l4, _, rfl, none_same0 (S5.trans S6) n4, (S5.trans S6).trans S4, ?_⟩
        rw [e4, take_fm hxi, List.append_assoc]
      · rintro σ H5 ⟨nl, x3, rfl, hnl, S5, e5⟩
        rw [lx, List.take_length] at e5
        exact ⟨_, rfl, k nl H5 hnl S5 (by rw [e5, show ns = _ from he])⟩
    | W xs =>
      refine ⟨_, rfl, rfl, _, rfl, iteFb (by show decide (V.str (S [87]) = _) = _; decide +kernel) ?_⟩
      refine ⟨_, rfl, rfl, _, rfl, iteFb (by show decide (V.str (S [87]) = _) = _; decide +kernel) ?_⟩
      refine ⟨_, rfl, rfl, _, rfl, iteFb (by show decide (V.str (S [87]) = _) = _; decide +kernel) ?_⟩
      refine ⟨_, rfl, rfl, _, rfl, iteFb (by show decide (V.str (S [87]) = _) = _; decide +kernel) ?_⟩
      refine ⟨_, rfl, rfl, _, rfl, iteFb (by show decide (V.str (S [87]) = _) = _; decide +kernel) ?_⟩
      refine ⟨_, rfl, rfl, _, rfl, iteFb (by show decide (V.str (S [87]) = _) = _; decide +kernel) ?_⟩
      refine ⟨_, rfl, rfl, _, rfl, iteFb (by show decide (V.str (S [87]) = _) = _; decide +kernel) ?_⟩
      obtain ⟨hx4, hsm⟩ := sm
      obtain ⟨q, ws, rfl, hq, ax⟩ := Dt.tuple_inv (show Dt K H v (.tuple (xs.map fun p => .tuple [valD p.1, valD p.2])) from dv)
      have lx := ax.length
      rw [List.length_map] at lx
      refine ⟨_, rfl, _, _, rfl, .inr ⟨_, hq, rfl⟩, ws.length, rfl, Nat.lt_of_le_of_lt (show ws.length ≤ 1000 by omega) (by decide +kernel), fun nl H1 hnl S1 e1 => ?_⟩
      have hc := cnt_small (n := xs.length) (by omega)
      refine ⟨_, rfl, q, rfl, ⟨_, Same.tupl S1 hq⟩, ?_⟩
      refine for_tup (xs := ws) (fun i σ H5 => ∃ nl x3, σ = [some (.str (S [87])), some (.ref q), some (.ref nl), x3] ∧ H nl = none ∧ Same H H5 ∧ H5 nl = some (.lst (nV (cnt xs.length ++ (xs.take i).flatMap fun p => enc p.1 ++ enc p.2)))) ⟨nl, none, rfl, hnl, S1, by rw [e1, lx]; simp⟩ ?_ ?_ ?_
      · rintro i σ H5 _ ⟨nl, x3, rfl, hnl, S5, _⟩
        exact Same.tupl S5 hq
      · rintro i y σ H5 hy ⟨nl, x3, rfl, hnl, S5, e5⟩
        obtain ⟨d, hd, dy⟩ := (ax.mono S5).getV hy
        rw [List.getElem?_map] at hd
        obtain ⟨x, hxi, rfl⟩ := Option.map_eq_some_iff.mp hd
        have hxm := hsm x (List.mem_of_getElem? hxi)
        have hle1 := sm_len hxm.1
        have hle2 := sm_len hxm.2
        have hfl := fm_le (b := 200) (g := fun p : Val × Val => enc p.1 ++ enc p.2) (xs := xs.take i) fun z hz => by
          have := hsm z (List.mem_of_mem_take hz)
          have a := sm_len this.1
          have b := sm_len this.2
          rw [List.length_append]; omega
        have htl : (xs.take i).length ≤ 1000 := by rw [List.length_take]; omega
        obtain ⟨t, ys, rfl, ht, ay⟩ := dy.tuple_inv
        obtain ⟨a, ys, rfl, da, ay⟩ := DtAll.cons_inv ay
        obtain ⟨b, ys, rfl, db, ay⟩ := DtAll.cons_inv ay
        obtain rfl := ay.nil_inv
        refine ⟨_, rfl, rfl, _, rfl, iteFb (by show decide (V.str (S [87]) = _) = _; decide +kernel) ?_⟩
        refine ⟨_, rfl, rfl, _, rfl, iteTb (by show decide (V.str (S [87]) = _) = _; decide +kernel) ?_⟩
        refine ⟨_, rfl, _, rfl, t, _, _, _, rfl, rfl, ht, at0, a, x.1, rfl, da, sm_rd hxm.1, fun l H6 _ S6 e6 => ?_⟩
        refine cat_ok (S6 _ _ e5) e6 (by rw [List.length_append]; omega) fun l4 H4 n4 S4 e4 => ?_
        have S64 := S6.trans S4
        refine ⟨_, rfl, t, _, _, _, rfl, rfl, Same.tupl S64 ht, at1, b, x.2, rfl, db.mono S64, sm_rd hxm.2, fun l7 H7 _ S7 e7 => ?_⟩
        refine cat_ok (S7 _ _ e4) e7 (by rw [List.length_append, List.length_append]; omega) fun l8 H8 n8 S8 e8 => ⟨l8, _, rfl, none_same0 ((S5.trans S64).trans S7) n8, ((S5.trans S64).trans S7).trans S8, ?_⟩
        rw [e8, take_fm hxi]
        simp only [List.append_assoc]
      · rintro σ H5 ⟨nl, x3, rfl, hnl, S5, e5⟩
        rw [lx, List.take_length] at e5
        exact ⟨_, rfl, k nl H5 hnl S5 (by rw [e5, show ns = _ from he])⟩
    | X xs =>
      refine ⟨_, rfl, rfl, _, rfl, iteFb (by show decide (V.str (S [88]) = _) = _; decide +kernel) ?_⟩
      refine ⟨_, rfl, rfl, _, rfl, iteFb (by show decide (V.str (S [88]) = _) = _; decide +kernel) ?_⟩
      refine ⟨_, rfl, rfl, _, rfl, iteFb (by show decide (V.str (S [88]) = _) = _; decide +kernel) ?_⟩
      refine ⟨_, rfl, rfl, _, rfl, iteFb (by show decide (V.str (S [88]) = _) = _; decide +kernel) ?_⟩
      refine ⟨_, rfl, rfl, _, rfl, iteFb (by show decide (V.str (S [88]) = _) = _; decide +kernel) ?_⟩
      refine ⟨_, rfl, rfl, _, rfl, iteFb (by show decide (V.str (S [88]) = _) = _; decide +kernel) ?_⟩
      refine ⟨_, rfl, rfl, _, rfl, iteFb (by show decide (V.str (S [88]) = _) = _; decide +kernel) ?_⟩
      obtain ⟨hx4, hsm⟩ := sm
      obtain ⟨q, ws, rfl, hq, ax⟩ := Dt.tuple_inv (show Dt K H v (.tuple (xs.map fun p => .tuple [.str (tx p.1), valD p.2])) from dv)
      have lx := ax.length
      rw [List.length_map] at lx
      refine ⟨_, rfl, _, _, rfl, .inr ⟨_, hq, rfl⟩, ws.length, rfl, Nat.lt_of_le_of_lt (show ws.length ≤ 1000 by omega) (by decide +kernel), fun nl H1 hnl S1 e1 => ?_⟩
      have hc := cnt_small (n := xs.length) (by omega)
      refine ⟨_, rfl, q, rfl, ⟨_, Same.tupl S1 hq⟩, ?_⟩
      refine for_tup (xs := ws) (fun i σ H5 => ∃ nl x3, σ = [some (.str (S [88])), some (.ref q), some (.ref nl), x3] ∧ H nl = none ∧ Same H H5 ∧ H5 nl = some (.lst (nV (cnt xs.length ++ (xs.take i).flatMap fun p => strN p.1 ++ enc p.2)))) ⟨nl, none, rfl, hnl, S1, by rw [e1, lx]; simp⟩ ?_ ?_ ?_
      · rintro i σ H5 _ ⟨nl, x3, rfl, hnl, S5, _⟩
        exact Same.tupl S5 hq
      · rintro i y σ H5 hy ⟨nl, x3, rfl, hnl, S5, e5⟩
        obtain ⟨d, hd, dy⟩ := (ax.mono S5).getV hy
        rw [List.getElem?_map] at hd
        obtain ⟨x, hxi, rfl⟩ := Option.map_eq_some_iff.mp hd
        have hxm := hsm x (List.mem_of_getElem? hxi)
        have hle1 := tx_len2 hxm.1
        have hle2 := sm_len hxm.2
        have hfl := fm_le (b := 200) (g := fun p : List Nat × Val => strN p.1 ++ enc p.2) (xs := xs.take i) fun z hz => by
          have := hsm z (List.mem_of_mem_take hz)
          have a := tx_len2 this.1
          have b := sm_len this.2
          rw [List.length_append]; omega
        have htl : (xs.take i).length ≤ 1000 := by rw [List.length_take]; omega
        obtain ⟨t, ys, rfl, ht, ay⟩ := dy.tuple_inv
        obtain ⟨a, ys, rfl, da, ay⟩ := DtAll.cons_inv ay
        obtain ⟨b, ys, rfl, db, ay⟩ := DtAll.cons_inv ay
        obtain rfl := ay.nil_inv
        cases da.str_inv
        refine ⟨_, rfl, rfl, _, rfl, iteFb (by show decide (V.str (S [88]) = _) = _; decide +kernel) ?_⟩
        refine ⟨_, rfl, rfl, _, rfl, iteFb (by show decide (V.str (S [88]) = _) = _; decide +kernel) ?_⟩
        refine ⟨_, rfl, rfl, _, rfl, iteTb (by show decide (V.str (S [88]) = _) = _; decide +kernel) ?_⟩
        refine ⟨_, rfl, _, rfl, t, _, _, _, rfl, rfl, ht, at0, x.1, rfl, Nat.le_trans hxm.1.len (by decide), hxm.1.lt, fun l H6 _ S6 e6 => ?_⟩
        refine cat_ok (S6 _ _ e5) e6 (by rw [List.length_append]; omega) fun l4 H4 n4 S4 e4 => ?_
        have S64 := S6.trans S4
        refine ⟨_, rfl, t, _, _, _, rfl, rfl, Same.tupl S64 ht, at1, b, x.2, rfl, db.mono S64, sm_rd hxm.2, fun l7 H7 _ S7 e7 => ?_⟩
        refine cat_ok (S7 _ _ e4) e7 (by rw [List.length_append, List.length_append]; omega) fun l8 H8 n8 S8 e8 => ⟨l8, _, rfl, none_same0 ((S5.trans S64).trans S7) n8, ((S5.trans S64).trans S7).trans S8, ?_⟩
        rw [e8, take_fm hxi]
        simp only [List.append_assoc]
      · rintro σ H5 ⟨nl, x3, rfl, hnl, S5, e5⟩
        rw [lx, List.take_length] at e5
        exact ⟨_, rfl, k nl H5 hnl S5 (by rw [e5, show ns = _ from he])⟩
--SPLIT
def spLSN0 (K : PySem.W.Frag) : Sp := fun vs H Q _ => ∃ (tl : Addr) (v : V) (tab : Tab) (kd : Str) (fs : List Fld) (i : Nat) (ns : List Nat) (m : Nat), vs = [.ref tl, v] ∧ TabAt H tl tab ∧ (tab.map (·.1)).Nodup ∧ tab.length ≤ 100 ∧ Dt K H v (.tuple (.str kd :: fs.map fldD)) ∧ tab[i]? = some (kd, fs.map ltr) ∧ (∀ x ∈ fs, FldSm m x) ∧ m ≤ 10 ^ 6 ∧ FldsE fs ns ∧ fs.length ≤ 10 ∧
  ∀ l H', H l = none → Same H H' → H' l = some (.lst (nV (cnt i ++ ns))) → Q (.ref l) H'
theorem ok_lsn0 {f : Addr} {fd : FuncData} (F : Fun K "_law_shape_numbers" "_law_shape_numbers" s_law_shape_numbers f fd) (T : Txt K mg) (U_law_count : Use P w K mg base CX0 "_law_count" 1 P_law_count (spLCount K)) (U_law_field_numbers : Use P w K mg base CX0 "_law_field_numbers" 10 P_law_field_numbers (spLFN0 K)) : FnG P w K mg base CX0 11 f fd P_law_shape_numbers (spLSN0 K) := by
  refine okG0 F sc_law_shape_numbers (fun vs H Q E h => ?_) fun cdv A outer s H vs Q E hr hg h => ?_
  · obtain ⟨tl, v, tab, kd, fs, i, ns, m, rfl, _⟩ := h
    rfl
  · obtain ⟨tl, v, tab, kd, fs, i, ns, m, rfl, hT, hnd, htl, dv, hi, hsm, hm, hE, hfl, k⟩ := h
    refine ⟨_, (pss_cons (ps_setLc (i := 2) (own := [("row", 3)]) (g := (gName 3)) rfl sc_law_shape_numbers.nd rfl rfl (sw_true rfl rfl rfl (by decide +kernel)) (pi_list (pv 0)) (blkOk_by (N := N_law_shape_numbers) (sc := defScope s_law_shape_numbers) (by decide +kernel)) (fun _ _ _ _ _ => (pg_name (i := 3) sc_law_shape_numbers.nd rfl (Or.inl rfl))) (fun _ _ _ _ _ => pts_nil) (fun _ _ _ _ _ => (pe_ix (ix_list : IxR _ (rIxL K)) (pv 3) pe_int (fun _ _ => rfl))))
  (pss_cons (ps_set (i := 4) sc_law_shape_numbers.nd rfl (Or.inl rfl) (pe_bm PySem.F.plainAttrs_list PySem.F.slot_list_index PySem.F.type_list_index mt_index (pv 2) (pa_cons (pe_ix ix_tup (pv 1) pe_int (fun _ _ => rfl)) pa_nil)))
  (pss_cons (ps_set (i := 5) sc_law_shape_numbers.nd rfl (Or.inl rfl) (pe_use U_law_count (hr.mono (by decide)) hg rfl (pa_cons (pv 4) pa_nil)))
  (pss_cons (ps_set (i := 6) sc_law_shape_numbers.nd rfl (Or.inl rfl) (pe_ix ix_list (pe_ix ix_list (pv 0) (pv 4) (fun _ _ => rfl)) pe_int (fun _ _ => rfl)))
  (pss_cons (ps_for PassesOwn.never rfl (pi_range1 (by rfl) T.b_range (pa_cons (pe_callB call_len (by rfl) T.b_len PySem.boot_len (pa_cons (pv 6) pa_nil)) pa_nil)) (pg_name (i := 7) sc_law_shape_numbers.nd rfl (Or.inl rfl))
   (pss_one (ps_set (i := 5) sc_law_shape_numbers.nd rfl (Or.inl rfl) (pe_op op_cat (pv 5) (pe_use U_law_field_numbers (hr.mono (by decide)) hg rfl (pa_cons (pe_ix ix_str (pv 6) (pv 7) (fun _ _ => rfl)) (pa_cons (pe_ix ix_tup (pv 1) (pe_op op_add (pv 7) pe_int) (fun _ _ => rfl)) pa_nil)))))))
  (pss_one (ps_ret (pv 5)))))))), ?_⟩
    obtain ⟨lss, e1, rfl, e3, e4⟩ := hE.at
    obtain ⟨rs, er, hrl, hrs⟩ := id hT
    refine ⟨_, rfl, tl, rfl, ⟨_, SqL.of er⟩, fun D hD => ?_⟩
    refine lc_it (walk_list (xs := rs.map V.ref)) (fun i H' => H' D = some (.lst (((tab.take i).map (·.1)).map V.str)) ∧ Same H H') ⟨by rw [upd_same]; simp, Same.new hD⟩ (fun _ _ _ h => SqL.of (h.2 _ _ er)) ?_ ?_
    · rintro j x H5 H6 hj ⟨e5, S5⟩ ⟨rfl, hx⟩
      refine ⟨rfl, tYes_of ?_⟩
      rw [List.getElem?_map] at hx
      obtain ⟨r, hr, rfl⟩ := Option.map_eq_some_iff.mp hx
      obtain ⟨kd', ls', ht', hrow⟩ := hrs j r hr
      have hj2 : j < tab.length := (List.getElem?_eq_some_iff.mp ht').1
      refine ⟨_, rfl, r, _, _, _, rfl, rfl, SqL.of (S5 _ _ hrow), at0, _, e5, ?_, ?_, fun b o e => by rw [upd_ne (ne_of_none e hD)]; exact S5 _ _ e⟩
      · rw [List.length_map, List.length_map, List.length_take]
        exact Nat.lt_of_le_of_lt (show min j tab.length ≤ 100 by omega) (by decide)
      · rw [upd_same, List.take_succ, ht', List.map_append, List.map_append]
        rfl
    rintro H5 ⟨e5, S5⟩
    rw [List.length_map, hrl, List.take_length] at e5
    have hik : (tab.map (·.1))[i]? = some kd := by rw [List.getElem?_map, hi]; rfl
    obtain ⟨i1, i2, i3, i4, i5⟩ := idx_str hnd hik
    have hi2 : i < tab.length := (List.getElem?_eq_some_iff.mp hi).1
    obtain ⟨q, ws, rfl, hq, ha⟩ := (id dv).head
    have hal := ha.length
    rw [List.length_map] at hal
    refine ⟨_, rfl, .inl ⟨rfl, _, SqL.of e5⟩, _, rfl, q, _, _, _, rfl, rfl, Same.tupl S5 hq, at0, D, _, .str kd, i, .str kd, rfl, rfl, SqL.of e5, i1, i2, i3, i4, i5, ?_⟩
    refine ⟨_, rfl, i, rfl, Nat.lt_of_le_of_lt (show i ≤ 100 by omega) (by decide +kernel), fun nl H6 hnl S6 e6 => ?_⟩
    have S06 := S5.trans S6
    have hri : rs[i]? = some (rs[i]'(by omega)) := List.getElem?_eq_getElem (by omega)
    generalize rs[i]'(by omega) = r at hri
    obtain ⟨kd', ls', ht', hrow⟩ := hrs i r hri
    rw [hi] at ht'
    obtain ⟨rfl, rfl⟩ := Prod.mk.inj (Option.some.inj ht')
    have hrv : (rs.map V.ref)[i]? = some (.ref r) := by rw [List.getElem?_map, hri]; rfl
    refine ⟨_, rfl, _, rfl, tl, _, _, _, rfl, rfl, SqL.of (S06 _ _ er), atI_nat hrv, r, _, _, _, rfl, rfl, SqL.of (S06 _ _ hrow), at1, ?_⟩
    have hls : (S (fs.map ltr)).length = fs.length := by rw [S_len, List.length_map]
    have hz : (S (fs.map ltr)).length ≤ sizeLine := by rw [hls]; exact Nat.le_trans hfl (by decide)
    refine ⟨_, rfl, _, fs.length, rfl, ⟨hz, by rw [hls]⟩, fs.length, rfl, by omega, by omega, ?_⟩
    rw [Int.toNat_natCast]
    have hcl := cnt_b (n := i) (by omega)
    refine for_range (lo := 0) (n := fs.length) (fun j σ H7 => ∃ (nl : Addr) (x7 : Option V), σ = [some (.ref tl), some (.ref q), some (.ref D), none, some (.int (i : Int)), some (.ref nl), some (.str (S (fs.map ltr))), x7] ∧ H nl = none ∧ Same H H7 ∧ H7 nl = some (.lst (nV (cnt i ++ (lss.take j).flatten))))
      ⟨nl, none, rfl, none_same0 S5 hnl, S06, by rw [e6]; simp⟩ ?_ ?_
    · rintro j σ H7 hj ⟨nl, x7, rfl, hnl, S7, e7⟩
      have hx : fs[j]? = some fs[j] := List.getElem?_eq_getElem hj
      have hsx := hsm _ (List.getElem_mem hj)
      have hl : lss[j]? = some (lss[j]'(by omega)) := List.getElem?_eq_getElem (by omega)
      have hEx := e3 j _ _ hx hl
      have hEl := e4 _ (List.mem_of_getElem? hl)
      generalize fs[j] = x at hx hsx hEx
      generalize lss[j]'(by omega) = ln at hl hEx hEl
      have hlc : (fs.map ltr)[j]? = some (ltr x) := by rw [List.getElem?_map, hx]; rfl
      have hdx : (fs.map fldD)[j]? = some (fldD x) := by rw [List.getElem?_map, hx]; rfl
      obtain ⟨y, hy, dy⟩ := ha.get hdx
      have hlen : (lss.take j).flatten.length ≤ 10 * 10000 := by
        have := flat_le (b := 10000) (ls := lss.take j) fun l hl => e4 l (List.mem_of_mem_take hl)
        have h2 : (lss.take j).length ≤ 10 := by rw [List.length_take]; omega
        have := Nat.mul_le_mul_right 10000 h2
        omega
      have htk : (lss.take (j + 1)).flatten = (lss.take j).flatten ++ ln := by rw [List.take_succ, hl]; simp
      have hyw : (V.str kd :: ws)[j + 1]? = some y := by simpa using hy
      refine ⟨_, rfl, _, rfl, _, rfl, S (fs.map ltr), (0 + (j : Int)), ltr x, rfl, rfl, hz, by rw [Int.zero_add]; exact at_S hlc, _, rfl, _, rfl, _, _, rfl, rfl, q, _, _, _, rfl, rfl, Same.tupl S7 hq, at_of' (j := j + 1) (show (0 + (j : Int)) + 1 = ((j + 1 : Nat) : Int) by omega) hyw, y, x, ln, m, rfl, dy.mono S7, hsx, hm, hEx, hEl, fun l8 H8 n8 S8 e8 => ?_⟩
      refine cat_ok (S8 _ _ e7) e8 (by rw [List.length_append]; omega) fun l9 H9 n9 S9 e9 => ⟨l9, _, rfl, none_same0 (S7.trans S8) n9, (S7.trans S8).trans S9, ?_⟩
      rw [e9, htk, List.append_assoc]
    · rintro σ H7 ⟨nl, x7, rfl, hnl, S7, e7⟩
      rw [← e1, List.take_length] at e7
      exact ⟨_, rfl, k nl H7 hnl S7 e7⟩
end

section
--SPLIT
end
section
variable {P : Program} {w : World} {K : PySem.W.Frag} {mg : Str → Option Value} {base : Heap}
def spLFNF (K : PySem.W.Frag) : Sp := fun vs H Q _ => ∃ (v : V) (l : List Fr) (ns : List Nat) (m : Nat), vs = [.str (S [70]), v] ∧ Dt K H v (.tuple (l.map frD)) ∧ Fl2Sm m (.fr l) ∧ m ≤ 10 ^ 6 ∧ FldE2 (.fr l) ns ∧ ∀ l H', H l = none → Same H H' → H' l = some (.lst (nV ns)) → Q (.ref l) H'
theorem ok_lfnF {f : Addr} {fd : FuncData} (F : Fun K "_law_field_numbers" "_law_field_numbers" s_law_field_numbers f fd) (T : Txt K mg) (U_law_count : Use P w K mg base CX0 "_law_count" 1 P_law_count (spLCount K)) (U_law_frames : Use P w K mg base CX0 "_law_frames" 1 P_law_frames (spTab frTab)) (U_law_shape_numbers : Use P w K mg base CX0 "_law_shape_numbers" 11 P_law_shape_numbers (spLSN0 K)) :
    FnG P w K mg base CX0 12 f fd P_law_field_numbers (spLFNF K) := by
  refine okG0 F sc_law_field_numbers (fun vs H Q E h => ?_) fun cdv A outer s H vs Q E hr hg h => ?_
  · obtain ⟨v, l, ns, m, rfl, _⟩ := h
    rfl
  · obtain ⟨v, l, ns, m, rfl, dv, sm, hm, ⟨lss, h1, rfl, h2, h3⟩, k⟩ := h
    refine ⟨_, (pss_cons (ps_if (pt_cmpR op_eq (pv 0) pe_str (nomark _))
   pss_never
   pss_nil)
  (pss_cons (ps_if (pt_cmpR op_eq (pv 0) pe_str (nomark _))
   pss_never
   pss_nil)
  (pss_cons (ps_if (pt_cmpR op_eq (pv 0) pe_str (nomark _))
   pss_never
   pss_nil)
  (pss_cons (ps_if (pt_cmpR op_eq (pv 0) pe_str (nomark _))
   pss_never
   pss_nil)
  (pss_cons (ps_if (pt_cmpR op_eq (pv 0) pe_str (nomark _))
   pss_never
   pss_nil)
  (pss_cons (ps_if (pt_cmpR op_eq (pv 0) pe_str (nomark _))
   pss_never
   pss_nil)
  (pss_cons (ps_if (pt_cmpR op_eq (pv 0) pe_str (nomark _))
   pss_never
   pss_nil)
  (pss_cons (ps_set (i := 2) sc_law_field_numbers.nd rfl (Or.inl rfl) (pe_use U_law_count (hr.mono (by decide)) hg rfl (pa_cons (pe_callB call_len (by rfl) T.b_len PySem.boot_len (pa_cons (pv 1) pa_nil)) pa_nil)))
  (pss_cons (ps_for PassesOwn.never rfl (pi_tup (pv 1)) (pg_name (i := 3) sc_law_field_numbers.nd rfl (Or.inl rfl))
   (pss_one (ps_if (pt_cmpR op_eq (pv 0) pe_str (nomark _))
   pss_never
   (pss_one (ps_if (pt_cmpR op_eq (pv 0) pe_str (nomark _))
   pss_never
   (pss_one (ps_if (pt_cmpR op_eq (pv 0) pe_str (nomark _))
   pss_never
   (pss_one (ps_set (i := 2) sc_law_field_numbers.nd rfl (Or.inl rfl) (pe_op op_cat (pv 2) (pe_use U_law_shape_numbers (hr.mono (by decide)) hg rfl (pa_cons (pe_use0 U_law_frames (hr.mono (by decide)) hg rfl) (pa_cons (pv 3) pa_nil)))))))))))))
  (pss_one (ps_ret (pv 2)))))))))))), ?_⟩
    refine ⟨_, rfl, rfl, _, rfl, iteFb (by decide +kernel) ?_⟩
    refine ⟨_, rfl, rfl, _, rfl, iteFb (by decide +kernel) ?_⟩
    refine ⟨_, rfl, rfl, _, rfl, iteFb (by decide +kernel) ?_⟩
    refine ⟨_, rfl, rfl, _, rfl, iteFb (by decide +kernel) ?_⟩
    refine ⟨_, rfl, rfl, _, rfl, iteFb (by decide +kernel) ?_⟩
    refine ⟨_, rfl, rfl, _, rfl, iteFb (by decide +kernel) ?_⟩
    refine ⟨_, rfl, rfl, _, rfl, iteFb (by decide +kernel) ?_⟩
    obtain ⟨q, ws, rfl, hq, ax⟩ := dv.tuple_inv
    have lx := ax.length
    rw [List.length_map] at lx
    have hl2 : l.length ≤ 2 := sm.1
    refine ⟨_, rfl, _, _, rfl, .inr ⟨_, hq, rfl⟩, ws.length, rfl, Nat.lt_of_le_of_lt (show ws.length ≤ 1000 by omega) (by decide +kernel), fun nl H1 hnl S1 e1 => ?_⟩
    have hc := cnt_small (n := l.length) (by omega)
    refine ⟨_, rfl, q, rfl, ⟨_, Same.tupl S1 hq⟩, ?_⟩
    refine for_tup (xs := ws) (fun i σ H5 => ∃ nl x3, σ = [some (.str (S [70])), some (.ref q), some (.ref nl), x3] ∧ H nl = none ∧ Same H H5 ∧ H5 nl = some (.lst (nV (cnt l.length ++ (lss.take i).flatten)))) ⟨nl, none, rfl, hnl, S1, by rw [e1, lx]; simp⟩ ?_ ?_ ?_
    · rintro i σ H5 _ ⟨nl, x3, rfl, hnl, S5, _⟩
      exact Same.tupl S5 hq
    · rintro i y σ H5 hy ⟨nl, x3, rfl, hnl, S5, e5⟩
      obtain ⟨d, hd, dy⟩ := (ax.mono S5).getV hy
      rw [List.getElem?_map] at hd
      obtain ⟨fr, hfi, rfl⟩ := Option.map_eq_some_iff.mp hd
      have hfm := sm.2 fr (List.mem_of_getElem? hfi)
      have hil : i < l.length := (List.getElem?_eq_some_iff.mp hfi).1
      have hl : lss[i]? = some (lss[i]'(by omega)) := List.getElem?_eq_getElem (by omega)
      have hE := h2 i fr _ hfi hl
      have hlb := h3 _ (List.mem_of_getElem? hl)
      generalize lss[i]'(by omega) = ln at hl hE hlb
      obtain ⟨j, fn, hj, hfn, rfl⟩ := hE
      have hok := (frTab_ok _ hfm.1).2
      have hfl10 : fr.fs.length ≤ 10 := by simpa using hok
      have hfl := flat_le (b := 100100) (ls := lss.take i) fun z hz => h3 z (List.mem_of_mem_take hz)
      have htl : (lss.take i).length ≤ 2 := by rw [List.length_take]; omega
      have := Nat.mul_le_mul_right 100100 htl
      refine ⟨_, rfl, rfl, _, rfl, iteFb (by decide +kernel) ?_⟩
      refine ⟨_, rfl, rfl, _, rfl, iteFb (by decide +kernel) ?_⟩
      refine ⟨_, rfl, rfl, _, rfl, iteFb (by decide +kernel) ?_⟩
      refine ⟨_, rfl, rfl, fun tl H6 S6 hT => ⟨_, rfl, tl, y, frTab, fr.kd, fr.fs, j, fn, m, rfl, hT, frTab_nd, frTab_len, dy.mono S6, hj, hfm.2, hm, hfn, hfl10, fun l7 H7 _ S7 e7 => ?_⟩⟩
      have S57 := (S5.trans S6).trans S7
      refine cat_ok (S7 _ _ (S6 _ _ e5)) e7 (by rw [List.length_append]; omega) fun l8 H8 n8 S8 e8 => ⟨l8, _, rfl, none_same0 S57 n8, S57.trans S8, ?_⟩
      rw [e8, List.take_succ, hl, List.append_assoc]
      simp
    · rintro σ H5 ⟨nl, x3, rfl, hnl, S5, e5⟩
      rw [show ws.length = lss.length by omega, List.take_length] at e5
      exact ⟨_, rfl, k nl H5 hnl S5 e5⟩
def spLFN2 (K : PySem.W.Frag) : Sp := fun vs H Q _ => ∃ (v : V) (x : Fl2) (ns : List Nat) (m : Nat), vs = [.str (S [ltr2 x]), v] ∧ Dt K H v (fl2D x) ∧ Fl2Sm m x ∧ m ≤ 10 ^ 6 ∧ FldE2 x ns ∧ ns.length ≤ 300000 ∧ ∀ l H', H l = none → Same H H' → H' l = some (.lst (nV ns)) → Q (.ref l) H'
theorem ok_lfn2 {f : Addr} {fd : FuncData} (F : Fun K "_law_field_numbers" "_law_field_numbers" s_law_field_numbers f fd) (T : Txt K mg) (U_law_value_numbers : Use P w K mg base CX0 "_law_value_numbers" 3 P_law_value_numbers (spLVNum K)) (U_law_tree_numbers : Use P w K mg base CX0 "_law_tree_numbers" (3 + 6) P_law_tree_numbers (spLTree K 6))
    (U_law_count : Use P w K mg base CX0 "_law_count" 1 P_law_count (spLCount K)) (U_law_integer : Use P w K mg base CX0 "_law_integer" 2 P_law_integer (spLInt K)) (U_law_string : Use P w K mg base CX0 "_law_string" 2 P_law_string (spWStr K)) (U_law_frames : Use P w K mg base CX0 "_law_frames" 1 P_law_frames (spTab frTab)) (U_law_shape_numbers : Use P w K mg base CX0 "_law_shape_numbers" 11 P_law_shape_numbers (spLSN0 K)) :
    FnG P w K mg base CX0 12 f fd P_law_field_numbers (spLFN2 K) :=
  ((FnG.upw (ok_lfn0 F T U_law_value_numbers U_law_tree_numbers U_law_count U_law_integer U_law_string) (by decide)).or (ok_lfnF F T U_law_count U_law_frames U_law_shape_numbers)).imp fun vs H Q E h => by
    obtain ⟨v, x, ns, m, rfl, dv, sm, hm, he, hn, k⟩ := h
    cases x with
    | one y => exact .inl ⟨v, y, ns, m, rfl, dv, sm, hm, he, fld_len0 hm sm he, k⟩
    | fr l => exact .inr ⟨v, l, ns, m, rfl, dv, sm, hm, he, k⟩
--SPLIT
def spLSN2 (K : PySem.W.Frag) : Sp := fun vs H Q _ => ∃ (tl : Addr) (v : V) (tab : Tab) (kd : Str) (fs : List Fl2) (i : Nat) (ns : List Nat) (m : Nat), vs = [.ref tl, v] ∧ TabAt H tl tab ∧ (tab.map (·.1)).Nodup ∧ tab.length ≤ 100 ∧ Dt K H v (.tuple (.str kd :: fs.map fl2D)) ∧ tab[i]? = some (kd, fs.map ltr2) ∧ (∀ x ∈ fs, Fl2Sm m x) ∧ m ≤ 10 ^ 6 ∧ FldsE2 fs ns ∧ ns.length ≤ 400000 ∧ fs.length ≤ 10 ∧
  ∀ l H', H l = none → Same H H' → H' l = some (.lst (nV (cnt i ++ ns))) → Q (.ref l) H'
theorem ok_lsn2 {f : Addr} {fd : FuncData} (F : Fun K "_law_shape_numbers" "_law_shape_numbers" s_law_shape_numbers f fd) (T : Txt K mg) (U_law_count : Use P w K mg base CX0 "_law_count" 1 P_law_count (spLCount K)) (U_law_field_numbers : Use P w K mg base CX0 "_law_field_numbers" 12 P_law_field_numbers (spLFN2 K)) : FnG P w K mg base CX0 13 f fd P_law_shape_numbers (spLSN2 K) := by
  refine okG0 F sc_law_shape_numbers (fun vs H Q E h => ?_) fun cdv A outer s H vs Q E hr hg h => ?_
  · obtain ⟨tl, v, tab, kd, fs, i, ns, m, rfl, _⟩ := h
    rfl
  · obtain ⟨tl, v, tab, kd, fs, i, ns, m, rfl, hT, hnd, htl, dv, hi, hsm, hm, hE, hn4, hfl, k⟩ := h
    refine ⟨_, (pss_cons (ps_setLc (i := 2) (own := [("row", 3)]) (g := (gName 3)) rfl sc_law_shape_numbers.nd rfl rfl (sw_true rfl rfl rfl (by decide +kernel)) (pi_list (pv 0)) (blkOk_by (N := N_law_shape_numbers) (sc := defScope s_law_shape_numbers) (by decide +kernel)) (fun _ _ _ _ _ => (pg_name (i := 3) sc_law_shape_numbers.nd rfl (Or.inl rfl))) (fun _ _ _ _ _ => pts_nil) (fun _ _ _ _ _ => (pe_ix (ix_list : IxR _ (rIxL K)) (pv 3) pe_int (fun _ _ => rfl))))
  (pss_cons (ps_set (i := 4) sc_law_shape_numbers.nd rfl (Or.inl rfl) (pe_bm PySem.F.plainAttrs_list PySem.F.slot_list_index PySem.F.type_list_index mt_index (pv 2) (pa_cons (pe_ix ix_tup (pv 1) pe_int (fun _ _ => rfl)) pa_nil)))
  (pss_cons (ps_set (i := 5) sc_law_shape_numbers.nd rfl (Or.inl rfl) (pe_use U_law_count (hr.mono (by decide)) hg rfl (pa_cons (pv 4) pa_nil)))
  (pss_cons (ps_set (i := 6) sc_law_shape_numbers.nd rfl (Or.inl rfl) (pe_ix ix_list (pe_ix ix_list (pv 0) (pv 4) (fun _ _ => rfl)) pe_int (fun _ _ => rfl)))
  (pss_cons (ps_for PassesOwn.never rfl (pi_range1 (by rfl) T.b_range (pa_cons (pe_callB call_len (by rfl) T.b_len PySem.boot_len (pa_cons (pv 6) pa_nil)) pa_nil)) (pg_name (i := 7) sc_law_shape_numbers.nd rfl (Or.inl rfl))
   (pss_one (ps_set (i := 5) sc_law_shape_numbers.nd rfl (Or.inl rfl) (pe_op op_cat (pv 5) (pe_use U_law_field_numbers (hr.mono (by decide)) hg rfl (pa_cons (pe_ix ix_str (pv 6) (pv 7) (fun _ _ => rfl)) (pa_cons (pe_ix ix_tup (pv 1) (pe_op op_add (pv 7) pe_int) (fun _ _ => rfl)) pa_nil)))))))
  (pss_one (ps_ret (pv 5)))))))), ?_⟩
    obtain ⟨lss, e1, rfl, e3, e4⟩ := hE.at
    obtain ⟨rs, er, hrl, hrs⟩ := id hT
    refine ⟨_, rfl, tl, rfl, ⟨_, SqL.of er⟩, fun D hD => ?_⟩
    refine lc_it (walk_list (xs := rs.map V.ref)) (fun i H' => H' D = some (.lst (((tab.take i).map (·.1)).map V.str)) ∧ Same H H') ⟨by rw [upd_same]; simp, Same.new hD⟩ (fun _ _ _ h => SqL.of (h.2 _ _ er)) ?_ ?_
    · rintro j x H5 H6 hj ⟨e5, S5⟩ ⟨rfl, hx⟩
      refine ⟨rfl, tYes_of ?_⟩
      rw [List.getElem?_map] at hx
      obtain ⟨r, hr, rfl⟩ := Option.map_eq_some_iff.mp hx
      obtain ⟨kd', ls', ht', hrow⟩ := hrs j r hr
      have hj2 : j < tab.length := (List.getElem?_eq_some_iff.mp ht').1
      refine ⟨_, rfl, r, _, _, _, rfl, rfl, SqL.of (S5 _ _ hrow), at0, _, e5, ?_, ?_, fun b o e => by rw [upd_ne (ne_of_none e hD)]; exact S5 _ _ e⟩
      · rw [List.length_map, List.length_map, List.length_take]
        exact Nat.lt_of_le_of_lt (show min j tab.length ≤ 100 by omega) (by decide)
      · rw [upd_same, List.take_succ, ht', List.map_append, List.map_append]
        rfl
    rintro H5 ⟨e5, S5⟩
    rw [List.length_map, hrl, List.take_length] at e5
    have hik : (tab.map (·.1))[i]? = some kd := by rw [List.getElem?_map, hi]; rfl
    obtain ⟨i1, i2, i3, i4, i5⟩ := idx_str hnd hik
    have hi2 : i < tab.length := (List.getElem?_eq_some_iff.mp hi).1
    obtain ⟨q, ws, rfl, hq, ha⟩ := (id dv).head
    have hal := ha.length
    rw [List.length_map] at hal
    refine ⟨_, rfl, .inl ⟨rfl, _, SqL.of e5⟩, _, rfl, q, _, _, _, rfl, rfl, Same.tupl S5 hq, at0, D, _, .str kd, i, .str kd, rfl, rfl, SqL.of e5, i1, i2, i3, i4, i5, ?_⟩
    refine ⟨_, rfl, i, rfl, Nat.lt_of_le_of_lt (show i ≤ 100 by omega) (by decide +kernel), fun nl H6 hnl S6 e6 => ?_⟩
    have S06 := S5.trans S6
    have hri : rs[i]? = some (rs[i]'(by omega)) := List.getElem?_eq_getElem (by omega)
    generalize rs[i]'(by omega) = r at hri
    obtain ⟨kd', ls', ht', hrow⟩ := hrs i r hri
    rw [hi] at ht'
    obtain ⟨rfl, rfl⟩ := Prod.mk.inj (Option.some.inj ht')
    have hrv : (rs.map V.ref)[i]? = some (.ref r) := by rw [List.getElem?_map, hri]; rfl
    refine ⟨_, rfl, _, rfl, tl, _, _, _, rfl, rfl, SqL.of (S06 _ _ er), atI_nat hrv, r, _, _, _, rfl, rfl, SqL.of (S06 _ _ hrow), at1, ?_⟩
    have hls : (S (fs.map ltr2)).length = fs.length := by rw [S_len, List.length_map]
    have hz : (S (fs.map ltr2)).length ≤ sizeLine := by rw [hls]; exact Nat.le_trans hfl (by decide)
    refine ⟨_, rfl, _, fs.length, rfl, ⟨hz, by rw [hls]⟩, fs.length, rfl, by omega, by omega, ?_⟩
    rw [Int.toNat_natCast]
    have hcl := cnt_b (n := i) (by omega)
    refine for_range (lo := 0) (n := fs.length) (fun j σ H7 => ∃ (nl : Addr) (x7 : Option V), σ = [some (.ref tl), some (.ref q), some (.ref D), none, some (.int (i : Int)), some (.ref nl), some (.str (S (fs.map ltr2))), x7] ∧ H nl = none ∧ Same H H7 ∧ H7 nl = some (.lst (nV (cnt i ++ (lss.take j).flatten))))
      ⟨nl, none, rfl, none_same0 S5 hnl, S06, by rw [e6]; simp⟩ ?_ ?_
    · rintro j σ H7 hj ⟨nl, x7, rfl, hnl, S7, e7⟩
      have hx : fs[j]? = some fs[j] := List.getElem?_eq_getElem hj
      have hsx := hsm _ (List.getElem_mem hj)
      have hl : lss[j]? = some (lss[j]'(by omega)) := List.getElem?_eq_getElem (by omega)
      have hEx := e3 j _ _ hx hl
      have hEl := e4 _ (List.mem_of_getElem? hl)
      generalize fs[j] = x at hx hsx hEx
      generalize lss[j]'(by omega) = ln at hl hEx hEl
      have hlc : (fs.map ltr2)[j]? = some (ltr2 x) := by rw [List.getElem?_map, hx]; rfl
      have hdx : (fs.map fl2D)[j]? = some (fl2D x) := by rw [List.getElem?_map, hx]; rfl
      obtain ⟨y, hy, dy⟩ := ha.get hdx
      have hlen : (lss.take j).flatten.length ≤ 400000 := Nat.le_trans (take_flat lss j) hn4
      have htk : (lss.take (j + 1)).flatten = (lss.take j).flatten ++ ln := by rw [List.take_succ, hl]; simp
      have hyw : (V.str kd :: ws)[j + 1]? = some y := by simpa using hy
      refine ⟨_, rfl, _, rfl, _, rfl, S (fs.map ltr2), (0 + (j : Int)), ltr2 x, rfl, rfl, hz, by rw [Int.zero_add]; exact at_S hlc, _, rfl, _, rfl, _, _, rfl, rfl, q, _, _, _, rfl, rfl, Same.tupl S7 hq, at_of' (j := j + 1) (show (0 + (j : Int)) + 1 = ((j + 1 : Nat) : Int) by omega) hyw, y, x, ln, m, rfl, dy.mono S7, hsx, hm, hEx, hEl, fun l8 H8 n8 S8 e8 => ?_⟩
      refine cat_ok (S8 _ _ e7) e8 (by rw [List.length_append]; omega) fun l9 H9 n9 S9 e9 => ⟨l9, _, rfl, none_same0 (S7.trans S8) n9, (S7.trans S8).trans S9, ?_⟩
      rw [e9, htk, List.append_assoc]
    · rintro σ H7 ⟨nl, x7, rfl, hnl, S7, e7⟩
      rw [← e1, List.take_length] at e7
      exact ⟨_, rfl, k nl H7 hnl S7 e7⟩
end

section
--SPLIT
end
abbrev s_NumberReader__read_signal : Stmt := inClass (top 39) 17
abbrev N_NumberReader__read_signal : List Str := ["self", "kind"]
abbrev P_NumberReader__read_signal : List Str := ["self"]
theorem sc_NumberReader__read_signal : FnScope N_NumberReader__read_signal P_NumberReader__read_signal (defScope s_NumberReader__read_signal) := ⟨rfl, rfl, rfl, by decide +kernel, rfl, by decide +kernel, by decide +kernel⟩
abbrev s_NumberReader__read_item : Stmt := inClass (top 39) 16
abbrev N_NumberReader__read_item : List Str := ["self", "letter", "first"]
abbrev P_NumberReader__read_item : List Str := ["self", "letter"]
theorem sc_NumberReader__read_item : FnScope N_NumberReader__read_item P_NumberReader__read_item (defScope s_NumberReader__read_item) := ⟨rfl, rfl, rfl, by decide +kernel, rfl, by decide +kernel, by decide +kernel⟩
abbrev s_NumberReader__read_field : Stmt := inClass (top 39) 15
abbrev N_NumberReader__read_field : List Str := ["self", "letter", "many", "_"]
abbrev P_NumberReader__read_field : List Str := ["self", "letter"]
theorem sc_NumberReader__read_field : FnScope N_NumberReader__read_field P_NumberReader__read_field (defScope s_NumberReader__read_field) := ⟨rfl, rfl, rfl, by decide +kernel, rfl, by decide +kernel, by decide +kernel⟩
abbrev s_NumberReader__with_fields : Stmt := inClass (top 39) 14
abbrev N_NumberReader__with_fields : List Str := ["self", "kind", "letters", "letter"]
abbrev P_NumberReader__with_fields : List Str := ["self", "kind", "letters"]
theorem sc_NumberReader__with_fields : FnScope N_NumberReader__with_fields P_NumberReader__with_fields (defScope s_NumberReader__with_fields) := ⟨rfl, rfl, rfl, by decide +kernel, rfl, by decide +kernel, by decide +kernel⟩
section
variable {P : Program} {w : World} {K : PySem.W.Frag} {mg : Str → Option Value} {base : Heap}
/-- the reader, its numbers, and at most so many references read -/
structure RdS (C p dx nl rl : Addr) (ns : List Nat) (H : Hp) (i cap : Nat) : Prop where
  at_ : RAt C p dx nl rl H i
  num : H nl = some (.lst (nV ns))
  ref : ∃ rs, H rl = some (.lst rs) ∧ rs.length ≤ cap
  ne : nl ≠ rl
def Keep2 (p rl : Addr) (H H' : Hp) : Prop := ∀ b o, H b = some o → b ≠ p → b ≠ rl → H' b = some o
theorem Keep2.refl (p rl : Addr) (H : Hp) : Keep2 p rl H H := fun _ _ h _ _ => h
theorem Keep2.trans {p rl : Addr} {H H1 H2 : Hp} (a : Keep2 p rl H H1) (b : Keep2 p rl H1 H2) : Keep2 p rl H H2 := fun c o h h1 h2 => b c o (a c o h h1 h2) h1 h2
theorem KeepR.two {p rl : Addr} {H H' : Hp} (k : KeepR p H H') : Keep2 p rl H H' := fun b o h h1 _ => k b o h h1
theorem Same.two {p rl : Addr} {H H' : Hp} (k : Same H H') : Keep2 p rl H H' := fun b o h _ _ => k b o h
theorem RdS.np {C p dx nl rl : Addr} {ns : List Nat} {H : Hp} {i cap : Nat} (r : RdS C p dx nl rl ns H i cap) : nl ≠ p ∧ rl ≠ p := by
  obtain ⟨rs, hr, _⟩ := r.ref
  exact ⟨ne_of r.num r.at_ (by intro z; cases z), ne_of hr r.at_ (by intro z; cases z)⟩
theorem RdS.kt {C p dx nl rl : Addr} {ns : List Nat} {H H' : Hp} {i cap : Nat} (r : RdS C p dx nl rl ns H i cap) (k : Keep2 p rl H H') : KeepT K H H' := fun a xs g => by
  obtain ⟨rs, hr, _⟩ := r.ref
  have hp := r.at_
  rw [RAt] at hp
  rcases g with (g | ⟨o, g⟩) | g
  · exact .inl (.inl (k _ _ g (fun e => by subst e; rw [hp] at g; cases g) fun e => by subst e; rw [hr] at g; cases g))
  · exact .inl (.inr ⟨o, k _ _ g (fun e => by subst e; rw [hp] at g; cases g) fun e => by subst e; rw [hr] at g; cases g⟩)
  · exact .inr g
theorem RdS.step {C p dx nl rl : Addr} {ns : List Nat} {H H' : Hp} {i j cap : Nat} (r : RdS C p dx nl rl ns H i cap) (h : RAt C p dx nl rl H' j) (k : KeepR p H H') : RdS C p dx nl rl ns H' j cap := by
  obtain ⟨rs, hr, hc⟩ := r.ref
  exact ⟨h, k _ _ r.num r.np.1, ⟨rs, k _ _ hr r.np.2, hc⟩, r.ne⟩
theorem RdS.same {C p dx nl rl : Addr} {ns : List Nat} {H H' : Hp} {i cap : Nat} (r : RdS C p dx nl rl ns H i cap) (k : Same H H') : RdS C p dx nl rl ns H' i cap := by
  obtain ⟨rs, hr, hc⟩ := r.ref
  exact ⟨k _ _ r.at_, k _ _ r.num, ⟨rs, k _ _ hr, hc⟩, r.ne⟩
theorem RdS.more {C p dx nl rl : Addr} {ns : List Nat} {H : Hp} {i cap cap' : Nat} (r : RdS C p dx nl rl ns H i cap) (h : cap ≤ cap') : RdS C p dx nl rl ns H i cap' := by
  obtain ⟨rs, hr, hc⟩ := r.ref
  exact ⟨r.at_, r.num, ⟨rs, hr, Nat.le_trans hc h⟩, r.ne⟩
theorem RdS.free {C p dx nl rl : Addr} {ns : List Nat} {H H' : Hp} {i j cap cap' : Nat} {b : Addr} (r : RdS C p dx nl rl ns H i cap) (r' : RdS C p dx nl rl ns H' j cap') (k : Keep2 p rl H H') (h : H' b = none) : H b = none ∧ b ≠ p ∧ b ≠ rl := by
  obtain ⟨rs, hr, _⟩ := r'.ref
  have hp := r'.at_
  rw [RAt] at hp
  have h1 : b ≠ p := fun e => by subst e; rw [hp] at h; cases h
  have h2 : b ≠ rl := fun e => by subst e; rw [hr] at h; cases h
  refine ⟨?_, h1, h2⟩
  cases e : H b with
  | none => rfl
  | some o => rw [k _ _ e h1 h2] at h; cases h
/-- a value, read -/
def spRV2 (K : PySem.W.Frag) (C : Addr) : Sp := fun vs H Q _ => ∃ (p dx nl rl : Addr) (ns tl : List Nat) (i cap : Nat) (x : Val), vs = [.ref p] ∧ RdS C p dx nl rl ns H i cap ∧ cap ≤ 900000 ∧ ns.drop i = enc x ++ tl ∧ ValSm x ∧
  ∀ v H', RdS C p dx nl rl ns H' (i + (enc x).length) (cap + 1) → Keep2 p rl H H' → Dt K H' v (valD x) → Q v H'
theorem rv2 (vs : List V) (H : Hp) (Q : VK) (E : XK) {C : Addr} (h : spRV2 K C vs H Q E) : spRVal K C vs H Q E := by
  obtain ⟨p, dx, nl, rl, ns, tl, i, cap, x, rfl, r, hc, hd, sm, k⟩ := h
  obtain ⟨rs, hr, hcap⟩ := r.ref
  exact ⟨p, dx, nl, rl, ns, tl, rs, i, x, rfl, r.at_, r.num, hr, by omega, r.ne, hd, sm_rd sm, fun v H' rs' h1 h2 h3 h4 h5 => k v H' ⟨h1, h5 _ _ r.num r.np.1 r.ne, ⟨rs', h2, by omega⟩, r.ne⟩ h5 h4⟩
def spRSig (K : PySem.W.Frag) (C : Addr) : Sp := fun vs H Q _ => ∃ (p dx nl rl : Addr) (ns tl : List Nat) (i cap m : Nat) (x : Fld) (fn : List Nat), vs = [.ref p] ∧ RdS C p dx nl rl ns H i cap ∧ cap ≤ 900000 ∧ ns.drop i = fn ++ tl ∧ ltr x = 115 ∧ FldSm m x ∧ FldE x fn ∧
  ∀ v H', RdS C p dx nl rl ns H' (i + fn.length) (cap + 1) → Keep2 p rl H H' → Dt K H' v (fldD x) → Q v H'
theorem ok_rsig {C : Addr} {f : Addr} {fd : FuncData} (F : Fun K "_read_signal" "NumberReader._read_signal" s_NumberReader__read_signal f fd) (T : Txt K mg) (UC_NumberReader : UseC K mg "NumberReader" fR C) (U_NumberReader_read_number : UseM P w K mg base CX0 C "read_number" 1 P_NumberReader_read_number (spRNum C)) (U_NumberReader_read_value : UseM P w K mg base CX0 C "read_value" 5 P_NumberReader_read_value (spRVal K C)) :
    FnG P w K mg base CX0 6 f fd P_NumberReader__read_signal (spRSig K C) := by
  have U_NumberReader_read_value := U_NumberReader_read_value.imp fun _ _ _ _ h => rv2 _ _ _ _ h
  refine okG0 F sc_NumberReader__read_signal (fun vs H Q E h => ?_) fun cdv A outer s H vs Q E hr hg h => ?_
  · obtain ⟨p, dx, nl, rl, ns, tl, i, cap, m, x, fn, rfl, _⟩ := h
    rfl
  · obtain ⟨p, dx, nl, rl, ns, tl, i, cap, m, x, fn, rfl, r, hc, hd, hl, sm, he, k⟩ := h
    refine ⟨_, (pss_cons (ps_set (i := 1) sc_NumberReader__read_signal.nd rfl (Or.inl rfl) (pe_ix ix_tup (pe_globT T.c_SIGNALS (by rfl)) (pe_mc UC_NumberReader U_NumberReader_read_number pass0 (hr.mono (by decide)) hg (pv 0) (pa_cons (pe_callB call_len (by rfl) T.b_len PySem.boot_len (pa_cons (pe_globT T.c_SIGNALS (by rfl)) pa_nil)) pa_nil)) (fun _ _ => rfl)))
  (pss_cons (ps_if (pt_cmpR op_eq (pv 1) pe_str (nomark _))
   (pss_one (ps_ret (pe_tup pa_nil)))
   pss_nil)
  (pss_cons (ps_if (pt_cmpR op_in_seq (pv 1) (pe_tup (pa_cons pe_str (pa_cons pe_str pa_nil))) (by rfl))
   (pss_one (ps_ret (pe_tup (pa_cons (pv 1) pa_nil))))
   pss_nil)
  (pss_one (ps_ret (pe_tup (pa_cons (pv 1) (pa_cons (pe_mc0 UC_NumberReader U_NumberReader_read_value pass0 (hr.mono (by decide)) hg (pv 0)) pa_nil)))))))), ?_⟩
    obtain ⟨num, rest, z, rfl, hnum, hz, hcase⟩ : ∃ (num : Nat) (rest : List Nat) (z : Str), fn = num :: rest ∧ num < 5 ∧ ([("" : Str), "break", "continue", "return", "raise"].map V.str)[num]? = some (.str z) ∧
        ((z = "" ∧ rest = [] ∧ fldD x = .tuple []) ∨ ((z = "break" ∨ z = "continue") ∧ rest = [] ∧ fldD x = .tuple [.str z]) ∨ ((z = "return" ∨ z = "raise") ∧ ∃ y, rest = enc y ∧ fldD x = .tuple [.str z, valD y] ∧ ValSm y)) := by
      cases x <;> try cases hl
      case s0 => exact ⟨0, [], "", he, by decide, rfl, .inl ⟨rfl, rfl, rfl⟩⟩
      case s1 z =>
        rcases (he : (z = "break" ∧ fn = [1]) ∨ (z = "continue" ∧ fn = [2])) with ⟨rfl, rfl⟩ | ⟨rfl, rfl⟩
        · exact ⟨1, [], _, rfl, by decide, rfl, .inr (.inl ⟨.inl rfl, rfl, rfl⟩)⟩
        · exact ⟨2, [], _, rfl, by decide, rfl, .inr (.inl ⟨.inr rfl, rfl, rfl⟩)⟩
      case s2 z y =>
        rcases (he : (z = "return" ∧ fn = 3 :: enc y) ∨ (z = "raise" ∧ fn = 4 :: enc y)) with ⟨rfl, rfl⟩ | ⟨rfl, rfl⟩
        · exact ⟨3, _, _, rfl, by decide, rfl, .inr (.inr ⟨.inl rfl, y, rfl, rfl, sm.2⟩)⟩
        · exact ⟨4, _, _, rfl, by decide, rfl, .inr (.inr ⟨.inr rfl, y, rfl, rfl, sm.2⟩)⟩
    have hget : ns[i]? = some num := by
      have : (ns.drop i)[0]? = some num := by rw [hd]; rfl
      rw [List.getElem?_drop, Nat.add_zero] at this
      exact this
    have hd1 : ns.drop (i + 1) = rest ++ tl := by rw [← List.drop_drop, hd]; rfl
    refine fun a8 k8 => ⟨_, rfl, p, dx, _, rfl, r.at_, by rfl, fun a9 k9 => ⟨_, _, rfl, .inr ⟨_, k9.sq _, rfl⟩, p, dx, nl, rl, ns, i, num, 5, rfl, r.at_, r.num, hget, hnum, ?_⟩⟩
    have hp1 : RAt C p dx nl rl (upd H p (.ins C dx (rf (.ref nl) (.int ((i + 1 : Nat) : Int)) (.ref rl)))) (i + 1) := upd_same
    have kr1 : KeepR p H (upd H p (.ins C dx (rf (.ref nl) (.int ((i + 1 : Nat) : Int)) (.ref rl)))) := fun b o e hb => by rw [upd_ne hb]; exact e
    generalize upd H p (.ins C dx (rf (.ref nl) (.int ((i + 1 : Nat) : Int)) (.ref rl))) = H1 at hp1 kr1 ⊢
    have r1 := r.step hp1 kr1
    refine ⟨a8, _, _, _, rfl, rfl, k8.sq _, at_of' (j := num) rfl hz, ?_⟩
    rw [List.length_cons, show i + (rest.length + 1) = i + 1 + rest.length by omega] at k
    rcases hcase with ⟨rfl, rfl, hx⟩ | ⟨hz2, rfl, hx⟩ | ⟨hz2, y, rfl, hx, hy⟩
    · refine ⟨_, rfl, rfl, _, rfl, iteTb (by decide +kernel) ?_⟩
      refine ⟨sz_0, fun t ht => k _ _ ((r1.same (Same.new ht)).more (by omega)) (kr1.two.trans (Same.two (Same.new ht))) ?_⟩
      rw [hx]
      exact Dt.made ht .nil
    · refine ⟨_, rfl, rfl, _, rfl, iteFb (by rcases hz2 with rfl | rfl <;> decide +kernel) ?_⟩
      refine ⟨_, rfl, sz_2, fun u hu => ⟨u, _, rfl, .inr (SqT.of upd_same), rfl, rfl, _, rfl, iteTb (by rcases hz2 with rfl | rfl <;> decide +kernel) ?_⟩⟩
      have S2 := Same.new (o := .tup [.str "break", .str "continue"]) hu
      have r2 := r1.same S2
      generalize upd H1 u (.tup [.str "break", .str "continue"]) = H2 at S2 r2 ⊢
      refine ⟨_, rfl, sz_1, fun t ht => k _ _ ((r2.same (Same.new ht)).more (by omega)) ((kr1.two.trans (Same.two S2)).trans (Same.two (Same.new ht))) ?_⟩
      rw [hx]
      exact Dt.made ht (.cons (.str _) .nil)
    · refine ⟨_, rfl, rfl, _, rfl, iteFb (by rcases hz2 with rfl | rfl <;> decide +kernel) ?_⟩
      refine ⟨_, rfl, sz_2, fun u hu => ⟨u, _, rfl, .inr (SqT.of upd_same), rfl, rfl, _, rfl, iteFb (by rcases hz2 with rfl | rfl <;> decide +kernel) ?_⟩⟩
      have S2 := Same.new (o := .tup [.str "break", .str "continue"]) hu
      have r2 := r1.same S2
      generalize upd H1 u (.tup [.str "break", .str "continue"]) = H2 at S2 r2 ⊢
      refine ⟨_, rfl, _, rfl, p, dx, _, rfl, r2.at_, by rfl, p, dx, nl, rl, ns, tl, i + 1, cap, y, rfl, r2, hc, hd1, hy, fun v H3 r3 k3 dv => ?_⟩
      refine ⟨sz_2, fun t ht => k _ _ (r3.same (Same.new ht)) (((kr1.two.trans (Same.two S2)).trans k3).trans (Same.two (Same.new ht))) ?_⟩
      rw [hx]
      exact Dt.made ht (.cons (.str _) (.cons dv .nil))
--SPLIT
inductive It
  | v (x : Val) | w (x y : Val) | n (js : List Nat) (y : Val)
def itD : It → PyData
  | .v x => valD x
  | .w x y => .tuple [valD x, valD y]
  | .n js y => .tuple [.str (tx js), valD y]
def itN : It → List Nat
  | .v x => enc x
  | .w x y => enc x ++ enc y
  | .n js y => strN js ++ enc y
def itL : It → Nat
  | .v _ => 86
  | .w _ _ => 87
  | .n _ _ => 88
def ItOk : It → Prop
  | .v x => ValSm x
  | .w x y => ValSm x ∧ ValSm y
  | .n js y => TxSm js ∧ ValSm y
/-- a field that is a row of items -/
theorem fld_its {m : Nat} {x : Fld} {fn : List Nat} (hl : ltr x = 86 ∨ ltr x = 87 ∨ ltr x = 88) (sm : FldSm m x) (he : FldE x fn) : ∃ its : List It, fldD x = .tuple (its.map itD) ∧ fn = cnt its.length ++ its.flatMap itN ∧ its.length ≤ 4 ∧ ∀ t ∈ its, itL t = ltr x ∧ ItOk t := by
  cases x <;> (first | (rcases hl with hl | hl | hl <;> cases hl) | skip)
  case V xs => exact ⟨xs.map .v, by rw [List.map_map]; rfl, by rw [List.length_map, List.flatMap_map]; exact he, by rw [List.length_map]; exact sm.1, fun t ht => by
    obtain ⟨y, hy, rfl⟩ := List.mem_map.mp ht
    exact ⟨rfl, sm.2 y hy⟩⟩
  case W xs => exact ⟨xs.map fun p => .w p.1 p.2, by rw [List.map_map]; rfl, by rw [List.length_map, List.flatMap_map]; exact he, by rw [List.length_map]; exact Nat.le_trans sm.1 (by decide), fun t ht => by
    obtain ⟨y, hy, rfl⟩ := List.mem_map.mp ht
    exact ⟨rfl, sm.2 y hy⟩⟩
  case X xs => exact ⟨xs.map fun p => .n p.1 p.2, by rw [List.map_map]; rfl, by rw [List.length_map, List.flatMap_map]; exact he, by rw [List.length_map]; exact Nat.le_trans sm.1 (by decide), fun t ht => by
    obtain ⟨y, hy, rfl⟩ := List.mem_map.mp ht
    exact ⟨rfl, sm.2 y hy⟩⟩
def spRItem (K : PySem.W.Frag) (C : Addr) : Sp := fun vs H Q _ => ∃ (p dx nl rl : Addr) (ns tl : List Nat) (i cap : Nat) (x : It), vs = [.ref p, .str (S [itL x])] ∧ RdS C p dx nl rl ns H i cap ∧ cap ≤ 800000 ∧ ns.drop i = itN x ++ tl ∧ ItOk x ∧
  ∀ v H', RdS C p dx nl rl ns H' (i + (itN x).length) (cap + 2) → Keep2 p rl H H' → Dt K H' v (itD x) → Q v H'
theorem ok_ritem0 {C : Addr} {f : Addr} {fd : FuncData} (F : Fun K "_read_item" "NumberReader._read_item" s_NumberReader__read_item f fd) (T : Txt K mg) (UC_NumberReader : UseC K mg "NumberReader" fR C) (U_NumberReader_read_value : UseM P w K mg base CX0 C "read_value" 5 P_NumberReader_read_value (spRVal K C)) (U_NumberReader_read_string : UseM P w K mg base CX0 C "read_string" 4 P_NumberReader_read_string (spRStr C)) :
    FnG P w K mg base CX0 6 f fd P_NumberReader__read_item (spRItem K C) := by
  have U_NumberReader_read_value := U_NumberReader_read_value.imp fun _ _ _ _ h => rv2 _ _ _ _ h
  refine okG0 F sc_NumberReader__read_item (fun vs H Q E h => ?_) fun cdv A outer s H vs Q E hr hg h => ?_
  · obtain ⟨p, dx, nl, rl, ns, tl, i, cap, x, rfl, _⟩ := h
    rfl
  · obtain ⟨p, dx, nl, rl, ns, tl, i, cap, x, rfl, r, hc, hd, sm, k⟩ := h
    refine ⟨_, (pss_cons (ps_if (pt_cmpR op_eq (pv 1) pe_str (nomark _))
   (pss_one (ps_ret (pe_mc0 UC_NumberReader U_NumberReader_read_value pass0 (hr.mono (by decide)) hg (pv 0))))
   pss_nil)
  (pss_cons (ps_if (pt_cmpR op_eq (pv 1) pe_str (nomark _))
   pss_never
   pss_nil)
  (pss_cons (ps_if (pt_cmpR op_eq (pv 1) pe_str (nomark _))
   (pss_one (ps_set (i := 2) sc_NumberReader__read_item.nd rfl (Or.inl rfl) (pe_mc0 UC_NumberReader U_NumberReader_read_value pass0 (hr.mono (by decide)) hg (pv 0))))
   (pss_one (ps_set (i := 2) sc_NumberReader__read_item.nd rfl (Or.inl rfl) (pe_mc UC_NumberReader U_NumberReader_read_string pass0 (hr.mono (by decide)) hg (pv 0) (pa_cons (pe_globI T.c_MOST_IN_NAME (by rfl)) pa_nil)))))
  (pss_one (ps_ret (pe_tup (pa_cons (pv 2) (pa_cons (pe_mc0 UC_NumberReader U_NumberReader_read_value pass0 (hr.mono (by decide)) hg (pv 0)) pa_nil)))))))), ?_⟩
    cases x with
    | v x =>
      refine ⟨_, rfl, rfl, _, rfl, iteTb (by show decide (V.str (S [86]) = _) = _; decide +kernel) ?_⟩
      exact ⟨_, rfl, p, dx, _, rfl, r.at_, by rfl, p, dx, nl, rl, ns, tl, i, cap, x, rfl, r, by omega, hd, sm, fun v H1 r1 k1 dv => k v H1 (r1.more (by omega)) k1 dv⟩
    | w x y =>
      refine ⟨_, rfl, rfl, _, rfl, iteFb (by show decide (V.str (S [87]) = _) = _; decide +kernel) ?_⟩
      refine ⟨_, rfl, rfl, _, rfl, iteFb (by show decide (V.str (S [87]) = _) = _; decide +kernel) ?_⟩
      refine ⟨_, rfl, rfl, _, rfl, iteTb (by show decide (V.str (S [87]) = _) = _; decide +kernel) ?_⟩
      have hd : ns.drop i = enc x ++ (enc y ++ tl) := by rw [hd, itN, List.append_assoc]
      refine ⟨_, rfl, p, dx, _, rfl, r.at_, by rfl, p, dx, nl, rl, ns, enc y ++ tl, i, cap, x, rfl, r, by omega, hd, sm.1, fun v H1 r1 k1 dv => ?_⟩
      have hd1 : ns.drop (i + (enc x).length) = enc y ++ tl := by rw [← List.drop_drop, hd, List.drop_left]
      refine ⟨_, rfl, _, rfl, p, dx, _, rfl, r1.at_, by rfl, p, dx, nl, rl, ns, tl, _, cap + 1, y, rfl, r1, by omega, hd1, sm.2, fun v2 H2 r2 k2 dv2 => ?_⟩
      refine ⟨sz_2, fun t ht => k _ _ ?_ ((k1.trans k2).trans (Same.two (Same.new ht))) (Dt.made ht (.cons (dv.keepT (r1.kt k2)) (.cons dv2 .nil)))⟩
      rw [itN, List.length_append, ← Nat.add_assoc]
      exact r2.same (Same.new ht)
    | n js y =>
      refine ⟨_, rfl, rfl, _, rfl, iteFb (by show decide (V.str (S [88]) = _) = _; decide +kernel) ?_⟩
      refine ⟨_, rfl, rfl, _, rfl, iteFb (by show decide (V.str (S [88]) = _) = _; decide +kernel) ?_⟩
      refine ⟨_, rfl, rfl, _, rfl, iteFb (by show decide (V.str (S [88]) = _) = _; decide +kernel) ?_⟩
      have hd : ns.drop i = strN js ++ (enc y ++ tl) := by rw [hd, itN, List.append_assoc]
      refine ⟨_, rfl, p, dx, _, rfl, r.at_, by rfl, p, dx, nl, rl, ns, enc y ++ tl, js, i, 200, rfl, r.at_, r.num, hd, sm.1.lt, Nat.le_trans sm.1.len (by decide), by decide, fun H1 h1 kr1 => ?_⟩
      have r1 := r.step h1 kr1
      have hd1 : ns.drop (i + (strN js).length) = enc y ++ tl := by rw [← List.drop_drop, hd, List.drop_left]
      refine ⟨_, rfl, _, rfl, p, dx, _, rfl, r1.at_, by rfl, p, dx, nl, rl, ns, tl, _, cap, y, rfl, r1, by omega, hd1, sm.2, fun v2 H2 r2 k2 dv2 => ?_⟩
      refine ⟨sz_2, fun t ht => k _ _ ?_ ((kr1.two.trans k2).trans (Same.two (Same.new ht))) (Dt.made ht (.cons (.str _) (.cons dv2 .nil)))⟩
      rw [itN, List.length_append, ← Nat.add_assoc]
      exact (r2.same (Same.new ht)).more (by omega)
--SPLIT
def spRTree0 (K : PySem.W.Frag) (C : Addr) : Sp := fun vs H Q _ => ∃ (p dx nl rl : Addr) (ns tl a : List Nat) (i : Nat) (d : PyData), vs = [.ref p] ∧ RAt C p dx nl rl H i ∧ H nl = some (.lst (nV ns)) ∧ ns.drop i = a ++ tl ∧ ns.length ≤ 1000000 ∧ TrR d a ∧ d.depth ≤ 200 ∧
  ∀ v H', RAt C p dx nl rl H' (i + a.length) → KeepR p H H' → Dt K H' v d → Q v H'
theorem ok_rtree0 {C CB B : Addr} {f : Addr} {fd : FuncData} (F : Fun K "read_tree" "NumberReader.read_tree" s_NumberReader_read_tree f fd) (T : Txt K mg) (U_BadNumbers : UseB P w K mg base CB B) (UC_NumberReader : UseC K mg "NumberReader" fR C) (U_NumberReader_read_number : UseM P w K mg base CX0 C "read_number" 1 P_NumberReader_read_number (spRNum C))
    (U_NumberReader_read_count : UseM P w K mg base CX0 C "read_count" 2 P_NumberReader_read_count (spRCnt C)) (U_closed : Use P w K mg base CX0 "_closed" 1 P_closed (spClosed K)) (U_NumberReader__read_leaf : UseM P w K mg base CX0 C "_read_leaf" 5 P_NumberReader__read_leaf (spRLeaf K C)) : FnG P w K mg base CX0 6 f fd P_NumberReader_read_tree (spRTree0 K C) :=
  FnG.calm ((ok_rtree F T U_BadNumbers UC_NumberReader U_NumberReader_read_number U_NumberReader_read_count U_closed U_NumberReader__read_leaf).imp fun vs H Q E ⟨p, dx, nl, rl, ns, tl, a, i, d, h1, h2, h3, h4, h5, h6, h7, h8⟩ =>
    ⟨p, dx, nl, rl, ns, tl, a, i, d, none, h1, h2, h3, h4, h5, by have := Rd.ok (l := 0) h6 (by omega) .nil; rw [List.append_nil] at this; exact this, h8⟩) fun _ _ _ _ _ h => h
def spRRefS (K : PySem.W.Frag) (C : Addr) : Sp := fun vs H Q _ => ∃ (p dx nl rl : Addr) (ns tl : List Nat) (i cap n : Nat) (sh : Int), vs = [.ref p, .int sh] ∧ RdS C p dx nl rl ns H i cap ∧ cap ≤ 900000 ∧ ns.drop i = cnt n ++ tl ∧ n < 128 ^ 40 ∧
  ∀ H', RdS C p dx nl rl ns H' (i + (cnt n).length) (cap + 1) → Keep2 p rl H H' → Q (.int ((n : Int) - sh)) H'
theorem ok_rrefS {C : Addr} {f : Addr} {fd : FuncData} (F : Fun K "read_reference" "NumberReader.read_reference" s_NumberReader_read_reference f fd) (T : Txt K mg) (UC_NumberReader : UseC K mg "NumberReader" fR C) (U_NumberReader_read_count : UseM P w K mg base CX0 C "read_count" 2 P_NumberReader_read_count (spRCnt C)) :
    FnG P w K mg base CX0 3 f fd P_NumberReader_read_reference (spRRefS K C) := by
  refine okG0 F sc_NumberReader_read_reference (fun vs H Q E h => ?_) fun cdv A outer s H vs Q E hr hg h => ?_
  · obtain ⟨p, dx, nl, rl, ns, tl, i, cap, n, sh, rfl, _⟩ := h
    rfl
  · obtain ⟨p, dx, nl, rl, ns, tl, i, cap, n, sh, rfl, r, hc, hd, h40, k⟩ := h
    refine ⟨_, (pss_cons (ps_set (i := 2) sc_NumberReader_read_reference.nd rfl (Or.inl rfl) (pe_fd UC_NumberReader (by decide +kernel) (pv 0)))
  (pss_cons (ps_set (i := 3) sc_NumberReader_read_reference.nd rfl (Or.inl rfl) (pe_op op_sub (pe_mc0 UC_NumberReader U_NumberReader_read_count pass0 (hr.mono (by decide)) hg (pv 0)) (pv 1)))
  (pss_cons (ps_expr (pe_bm PySem.F.plainAttrs_list PySem.F.slot_list_append PySem.F.type_list_append mt_append (pe_fd UC_NumberReader (by decide +kernel) (pv 0)) (pa_cons (pe_tup (pa_cons (pv 2) (pa_cons (pv 3) pa_nil))) pa_nil)))
  (pss_one (ps_ret (pv 3)))))), ?_⟩
    refine ⟨_, rfl, p, dx, _, _, rfl, r.at_, rf_at, ?_⟩
    refine ⟨_, rfl, p, dx, _, rfl, r.at_, by rfl, p, dx, nl, rl, ns, tl, i, n, rfl, r.at_, r.num, hd, h40, fun H1 hp1 kp1 => ?_⟩
    have r1 := r.step hp1 kp1
    refine ⟨_, rfl, _, _, rfl, rfl, ?_⟩
    obtain ⟨rs, hrl, hcap⟩ := r1.ref
    refine ⟨_, rfl, p, dx, _, _, rfl, r1.at_, rf_refs, .inl ⟨rfl, _, SqL.of hrl⟩, _, rfl, _, rfl, sz_2, fun t ht => ?_⟩
    have S2 := Same.new (o := .tup [.int (i : Int), .int ((n : Int) - sh)]) ht
    have r2 := r1.same S2
    have hrl2 := S2 _ _ hrl
    refine ⟨rl, rs, .ref t, rfl, rfl, hrl2, Nat.lt_of_le_of_lt (show rs.length ≤ 900000 by omega) (by decide), ?_⟩
    refine ⟨_, rfl, k _ ⟨?_, ?_, ⟨rs ++ [.ref t], upd_same, by rw [List.length_append, List.length_singleton]; omega⟩, r.ne⟩ fun b o e h1 h2 => ?_⟩
    · show upd _ rl _ p = _
      rw [upd_ne r.np.2.symm]; exact r2.at_
    · rw [upd_ne r.ne]; exact r2.num
    · rw [upd_ne h2]; exact S2 _ _ (kp1 _ _ e h1)
def spRField (K : PySem.W.Frag) (C : Addr) : Sp := fun vs H Q _ => ∃ (p dx nl rl : Addr) (ns tl : List Nat) (i cap m : Nat) (x : Fld) (fn : List Nat), vs = [.ref p, .str (S [ltr x])] ∧ RdS C p dx nl rl ns H i cap ∧ cap ≤ 700000 ∧ ns.length ≤ 1000000 ∧ ns.drop i = fn ++ tl ∧ FldSm m x ∧ m ≤ 10 ^ 6 ∧ FldE x fn ∧
  ∀ v H', RdS C p dx nl rl ns H' (i + fn.length) (cap + 20) → Keep2 p rl H H' → Dt K H' v (fldD x) → Q v H'
theorem ok_rfield0 {C : Addr} {f : Addr} {fd : FuncData} (F : Fun K "_read_field" "NumberReader._read_field" s_NumberReader__read_field f fd) (T : Txt K mg) (UC_NumberReader : UseC K mg "NumberReader" fR C) (U_NumberReader_read_value : UseM P w K mg base CX0 C "read_value" 5 P_NumberReader_read_value (spRVal K C)) (U_NumberReader_read_tree : UseM P w K mg base CX0 C "read_tree" 6 P_NumberReader_read_tree (spRTree0 K C))
    (U_NumberReader_read_reference : UseM P w K mg base CX0 C "read_reference" 3 P_NumberReader_read_reference (spRRefS K C)) (U_NumberReader_read_integer : UseM P w K mg base CX0 C "read_integer" 3 P_NumberReader_read_integer (spRInt C)) (U_NumberReader_read_string : UseM P w K mg base CX0 C "read_string" 4 P_NumberReader_read_string (spRStr C))
    (U_NumberReader__read_signal : UseM P w K mg base CX0 C "_read_signal" 6 P_NumberReader__read_signal (spRSig K C)) (U_NumberReader_read_count : UseM P w K mg base CX0 C "read_count" 2 P_NumberReader_read_count (spRCnt C)) (U_NumberReader__read_item : UseM P w K mg base CX0 C "_read_item" 6 P_NumberReader__read_item (spRItem K C)) :
    FnG P w K mg base CX0 7 f fd P_NumberReader__read_field (spRField K C) := by
  have U_NumberReader_read_value := U_NumberReader_read_value.imp fun _ _ _ _ h => rv2 _ _ _ _ h
  refine okG0 F sc_NumberReader__read_field (fun vs H Q E h => ?_) fun cdv A outer s H vs Q E hr hg h => ?_
  · obtain ⟨p, dx, nl, rl, ns, tl, i, cap, m, x, fn, rfl, _⟩ := h
    rfl
  · obtain ⟨p, dx, nl, rl, ns, tl, i, cap, m, x, fn, rfl, r, hc, hn, hd, sm, hm, he, k⟩ := h
    refine ⟨_, (pss_cons (ps_if (pt_cmpR op_eq (pv 1) pe_str (nomark _))
   (pss_one (ps_ret (pe_mc0 UC_NumberReader U_NumberReader_read_value pass0 (hr.mono (by decide)) hg (pv 0))))
   pss_nil)
  (pss_cons (ps_if (pt_cmpR op_eq (pv 1) pe_str (nomark _))
   (pss_one (ps_ret (pe_mc0 UC_NumberReader U_NumberReader_read_tree pass0 (hr.mono (by decide)) hg (pv 0))))
   pss_nil)
  (pss_cons (ps_if (pt_cmpR op_eq (pv 1) pe_str (nomark _))
   (pss_one (ps_ret (pe_mc UC_NumberReader U_NumberReader_read_reference pass0 (hr.mono (by decide)) hg (pv 0) (pa_cons pe_int pa_nil))))
   pss_nil)
  (pss_cons (ps_if (pt_cmpR op_eq (pv 1) pe_str (nomark _))
   (pss_one (ps_ret (pe_mc UC_NumberReader U_NumberReader_read_reference pass0 (hr.mono (by decide)) hg (pv 0) (pa_cons pe_int pa_nil))))
   pss_nil)
  (pss_cons (ps_if (pt_cmpR op_eq (pv 1) pe_str (nomark _))
   (pss_one (ps_ret (pe_mc0 UC_NumberReader U_NumberReader_read_integer pass0 (hr.mono (by decide)) hg (pv 0))))
   pss_nil)
  (pss_cons (ps_if (pt_cmpR op_eq (pv 1) pe_str (nomark _))
   (pss_one (ps_ret (pe_mc UC_NumberReader U_NumberReader_read_string pass0 (hr.mono (by decide)) hg (pv 0) (pa_cons (pe_globI T.c_MOST_IN_NAME (by rfl)) pa_nil))))
   pss_nil)
  (pss_cons (ps_if (pt_cmpR op_eq (pv 1) pe_str (nomark _))
   (pss_one (ps_ret (pe_mc0 UC_NumberReader U_NumberReader__read_signal pass0 (hr.mono (by decide)) hg (pv 0))))
   pss_nil)
  (pss_cons (ps_set (i := 2) sc_NumberReader__read_field.nd rfl (Or.inl rfl) (pe_mc0 UC_NumberReader U_NumberReader_read_count pass0 (hr.mono (by decide)) hg (pv 0)))
  (pss_one (ps_ret (pe_callTy call_tuple_of (by rfl) T.b_tuple (by decide +kernel) (pa_cons (pe_lc (own := [("_", 3)]) (g := (gName 3)) rfl sc_NumberReader__read_field.nd (pi_range1 (by rfl) T.b_range (pa_cons (pv 2) pa_nil)) (blkOk_by (N := N_NumberReader__read_field) (sc := defScope s_NumberReader__read_field) (by decide +kernel)) (fun _ _ _ _ _ => (pg_name (i := 3) sc_NumberReader__read_field.nd rfl (Or.inl rfl))) (fun _ _ _ _ _ => pts_nil) (fun _ _ _ _ _ => (pe_mc UC_NumberReader U_NumberReader__read_item pass0 (hr.mono (by decide)) hg (pv 0) (pa_cons (pv 1) pa_nil)))) pa_nil)))))))))))), ?_⟩
    by_cases hits : ltr x = 86 ∨ ltr x = 87 ∨ ltr x = 88
    · obtain ⟨its, hx, rfl, hl4, hok⟩ := fld_its hits sm he
      refine ⟨_, rfl, rfl, _, rfl, iteFb (by rcases hits with e | e | e <;> rw [e] <;> decide +kernel) ?_⟩
      refine ⟨_, rfl, rfl, _, rfl, iteFb (by rcases hits with e | e | e <;> rw [e] <;> decide +kernel) ?_⟩
      refine ⟨_, rfl, rfl, _, rfl, iteFb (by rcases hits with e | e | e <;> rw [e] <;> decide +kernel) ?_⟩
      refine ⟨_, rfl, rfl, _, rfl, iteFb (by rcases hits with e | e | e <;> rw [e] <;> decide +kernel) ?_⟩
      refine ⟨_, rfl, rfl, _, rfl, iteFb (by rcases hits with e | e | e <;> rw [e] <;> decide +kernel) ?_⟩
      refine ⟨_, rfl, rfl, _, rfl, iteFb (by rcases hits with e | e | e <;> rw [e] <;> decide +kernel) ?_⟩
      refine ⟨_, rfl, rfl, _, rfl, iteFb (by rcases hits with e | e | e <;> rw [e] <;> decide +kernel) ?_⟩
      rw [List.append_assoc] at hd
      refine ⟨_, rfl, p, dx, _, rfl, r.at_, by rfl, p, dx, nl, rl, ns, its.flatMap itN ++ tl, i, its.length, rfl, r.at_, r.num, hd, Nat.lt_of_le_of_lt (show its.length ≤ 4 by omega) (by decide +kernel), fun H1 hp1 kr1 => ?_⟩
      have r1 := r.step hp1 kr1
      have hd1 : ns.drop (i + (cnt its.length).length) = its.flatMap itN ++ tl := by rw [← List.drop_drop, hd, List.drop_left]
      refine ⟨_, rfl, its.length, rfl, by omega, by omega, fun D hD => ?_⟩
      rw [Int.toNat_natCast]
      have rD := r1.same (Same.new (o := .lst []) hD)
      obtain ⟨nD0, nDp, nDr⟩ := r1.free r1 (Keep2.refl p rl H1) hD
      refine lc_it (walk_range (lo := 0) (n := its.length)) (fun j H' => ∃ acc : List V, H' D = some (.lst acc) ∧ DtAll K H' acc ((its.take j).map itD) ∧ acc.length = j ∧ RdS C p dx nl rl ns H' (i + (cnt its.length).length + ((its.take j).flatMap itN).length) (cap + 2 * j) ∧ Keep2 p rl H1 H') ⟨[], upd_same, .nil, rfl, by simpa using rD, Same.two (Same.new hD)⟩ (fun _ _ _ _ => trivial) ?_ ?_
      · rintro j y H5 H6 hj ⟨acc, e5, a5, l5, r5, k5⟩ ⟨rfl, rfl⟩
        refine ⟨rfl, tYes_of ?_⟩
        have hx : its[j]? = some its[j] := List.getElem?_eq_getElem hj
        obtain ⟨hlt, hit⟩ := hok _ (List.getElem_mem hj)
        have hdr : its.drop j = its[j] :: its.drop (j + 1) := List.drop_eq_getElem_cons hj
        generalize its[j] = t at hx hlt hit hdr
        have hdt : its.flatMap itN = (its.take j).flatMap itN ++ (itN t ++ (its.drop (j + 1)).flatMap itN) := by
          have e : its = its.take j ++ t :: its.drop (j + 1) := by
            rw [← hdr, List.take_append_drop]
          conv => lhs; rw [e]
          rw [List.flatMap_append, List.flatMap_cons]
        have hdj : ns.drop (i + (cnt its.length).length + ((its.take j).flatMap itN).length) = itN t ++ ((its.drop (j + 1)).flatMap itN ++ tl) := by
          rw [← List.drop_drop, hd1, hdt, List.append_assoc, List.drop_left, List.append_assoc]
        refine ⟨_, rfl, p, dx, _, rfl, r5.at_, by rfl, _, rfl, p, dx, nl, rl, ns, _, _, cap + 2 * j, t, by rw [hlt], r5, by omega, hdj, hit, fun v H7 r7 k7 dv => ?_⟩
        have e7 := k7 _ _ e5 nDp nDr
        have kT : KeepT K H7 (upd H7 D (.lst (acc ++ [v]))) := KeepT.upd e7
        refine ⟨acc, e7, Nat.lt_of_le_of_lt (show acc.length ≤ 4 by omega) (by decide), acc ++ [v], upd_same, ?_, by simp [l5], ?_, fun b o e h1 h2 => ?_⟩
        · rw [List.take_succ, hx, List.map_append]
          exact DtAll.app ((a5.keepT (r5.kt k7)).keepT kT) (.cons (dv.keepT kT) .nil)
        · rw [take_fm hx, List.length_append, ← Nat.add_assoc, show cap + 2 * (j + 1) = cap + 2 * j + 2 by omega]
          obtain ⟨rs, h1, h2⟩ := r7.ref
          refine ⟨?_, ?_, ⟨rs, ?_, h2⟩, r7.ne⟩
          · show upd H7 D _ p = _
            rw [upd_ne nDp.symm]; exact r7.at_
          · rw [upd_ne (ne_of_none r1.num hD)]; exact r7.num
          · rw [upd_ne nDr.symm]; exact h1
        · rw [upd_ne (ne_of_none e hD)]; exact k7 _ _ (k5 _ _ e h1 h2) h1 h2
      · rintro H5 ⟨acc, e5, a5, l5, r5, k5⟩
        rw [List.take_length] at a5 r5
        refine ⟨D, _, rfl, .inl ⟨SqL.of e5, fun t ht => ?_⟩⟩
        refine k _ _ ?_ (((KeepR.two kr1).trans k5).trans (Same.two (Same.new ht))) (by rw [hx]; exact Dt.made ht a5)
        rw [List.length_append, ← Nat.add_assoc]
        exact (r5.same (Same.new ht)).more (by omega)
    cases x with
    | V xs => exact absurd (.inl rfl) hits
    | W xs => exact absurd (.inr (.inl rfl)) hits
    | X xs => exact absurd (.inr (.inr rfl)) hits
    | v x =>
      refine ⟨_, rfl, rfl, _, rfl, iteTb (by show decide (V.str (S [118]) = _) = _; decide +kernel) ?_⟩
      have he : fn = enc x := he
      subst he
      exact ⟨_, rfl, p, dx, _, rfl, r.at_, by rfl, p, dx, nl, rl, ns, tl, i, cap, x, rfl, r, by omega, hd, sm, fun v H1 r1 k1 dv => k v H1 (r1.more (by omega)) k1 dv⟩
    | t d =>
      refine ⟨_, rfl, rfl, _, rfl, iteFb (by show decide (V.str (S [116]) = _) = _; decide +kernel) ?_⟩
      refine ⟨_, rfl, rfl, _, rfl, iteTb (by show decide (V.str (S [116]) = _) = _; decide +kernel) ?_⟩
      have ht : TreeD 3 d := sm
      exact ⟨_, rfl, p, dx, _, rfl, r.at_, by rfl, p, dx, nl, rl, ns, tl, fn, i, d, rfl, r.at_, r.num, hd, hn, TrL.rd he, Nat.le_trans (tree_dep ht) (by decide), fun v H1 h1 k1 dv => k v H1 ((r.step h1 k1).more (by omega)) k1.two dv⟩
    | a n =>
      refine ⟨_, rfl, rfl, _, rfl, iteFb (by show decide (V.str (S [97]) = _) = _; decide +kernel) ?_⟩
      refine ⟨_, rfl, rfl, _, rfl, iteFb (by show decide (V.str (S [97]) = _) = _; decide +kernel) ?_⟩
      refine ⟨_, rfl, rfl, _, rfl, iteTb (by show decide (V.str (S [97]) = _) = _; decide +kernel) ?_⟩
      have he : fn = cnt n := he
      subst he
      have hn : n < m := sm
      refine ⟨_, rfl, p, dx, _, rfl, r.at_, by rfl, p, dx, nl, rl, ns, tl, i, cap, n, 0, rfl, r, by omega, hd, Nat.lt_of_le_of_lt (show n ≤ 10 ^ 6 by omega) (by decide +kernel), fun H1 r1 k1 => ?_⟩
      have := k (.int ((n : Int) - 0)) H1 (r1.more (by omega)) k1 (by rw [Int.sub_zero]; exact .int _)
      exact this
    | b n =>
      refine ⟨_, rfl, rfl, _, rfl, iteFb (by show decide (V.str (S [98]) = _) = _; decide +kernel) ?_⟩
      refine ⟨_, rfl, rfl, _, rfl, iteFb (by show decide (V.str (S [98]) = _) = _; decide +kernel) ?_⟩
      refine ⟨_, rfl, rfl, _, rfl, iteFb (by show decide (V.str (S [98]) = _) = _; decide +kernel) ?_⟩
      refine ⟨_, rfl, rfl, _, rfl, iteTb (by show decide (V.str (S [98]) = _) = _; decide +kernel) ?_⟩
      have he : fn = cnt (n + 1).toNat := he
      subst he
      have h1 : -1 ≤ n := sm.1
      have h2 : n < (m : Int) := sm.2
      refine ⟨_, rfl, p, dx, _, rfl, r.at_, by rfl, p, dx, nl, rl, ns, tl, i, cap, (n + 1).toNat, 1, rfl, r, by omega, hd, Nat.lt_of_le_of_lt (show (n + 1).toNat ≤ 10 ^ 7 by omega) (by decide +kernel), fun H1 r1 k1 => ?_⟩
      have := k (.int (((n + 1).toNat : Int) - 1)) H1 (r1.more (by omega)) k1 (by rw [show ((n + 1).toNat : Int) - 1 = n by omega]; exact .int _)
      exact this
    | n z =>
      refine ⟨_, rfl, rfl, _, rfl, iteFb (by show decide (V.str (S [110]) = _) = _; decide +kernel) ?_⟩
      refine ⟨_, rfl, rfl, _, rfl, iteFb (by show decide (V.str (S [110]) = _) = _; decide +kernel) ?_⟩
      refine ⟨_, rfl, rfl, _, rfl, iteFb (by show decide (V.str (S [110]) = _) = _; decide +kernel) ?_⟩
      refine ⟨_, rfl, rfl, _, rfl, iteFb (by show decide (V.str (S [110]) = _) = _; decide +kernel) ?_⟩
      refine ⟨_, rfl, rfl, _, rfl, iteTb (by show decide (V.str (S [110]) = _) = _; decide +kernel) ?_⟩
      have he : fn = cnt (zig z) := he
      subst he
      exact ⟨_, rfl, p, dx, _, rfl, r.at_, by rfl, p, dx, nl, rl, ns, tl, i, z, rfl, r.at_, r.num, hd, sm, fun H1 h1 k1 => k _ H1 ((r.step h1 k1).more (by omega)) k1.two (.int _)⟩
    | x js =>
      refine ⟨_, rfl, rfl, _, rfl, iteFb (by show decide (V.str (S [120]) = _) = _; decide +kernel) ?_⟩
      refine ⟨_, rfl, rfl, _, rfl, iteFb (by show decide (V.str (S [120]) = _) = _; decide +kernel) ?_⟩
      refine ⟨_, rfl, rfl, _, rfl, iteFb (by show decide (V.str (S [120]) = _) = _; decide +kernel) ?_⟩
      refine ⟨_, rfl, rfl, _, rfl, iteFb (by show decide (V.str (S [120]) = _) = _; decide +kernel) ?_⟩
      refine ⟨_, rfl, rfl, _, rfl, iteFb (by show decide (V.str (S [120]) = _) = _; decide +kernel) ?_⟩
      refine ⟨_, rfl, rfl, _, rfl, iteTb (by show decide (V.str (S [120]) = _) = _; decide +kernel) ?_⟩
      have he : fn = strN js := he
      subst he
      exact ⟨_, rfl, p, dx, _, rfl, r.at_, by rfl, p, dx, nl, rl, ns, tl, js, i, 200, rfl, r.at_, r.num, hd, sm.lt, Nat.le_trans sm.len (by decide), by decide, fun H1 h1 k1 => k _ H1 ((r.step h1 k1).more (by omega)) k1.two (.str _)⟩
    | s0 =>
      refine ⟨_, rfl, rfl, _, rfl, iteFb (by show decide (V.str (S [115]) = _) = _; decide +kernel) ?_⟩
      refine ⟨_, rfl, rfl, _, rfl, iteFb (by show decide (V.str (S [115]) = _) = _; decide +kernel) ?_⟩
      refine ⟨_, rfl, rfl, _, rfl, iteFb (by show decide (V.str (S [115]) = _) = _; decide +kernel) ?_⟩
      refine ⟨_, rfl, rfl, _, rfl, iteFb (by show decide (V.str (S [115]) = _) = _; decide +kernel) ?_⟩
      refine ⟨_, rfl, rfl, _, rfl, iteFb (by show decide (V.str (S [115]) = _) = _; decide +kernel) ?_⟩
      refine ⟨_, rfl, rfl, _, rfl, iteFb (by show decide (V.str (S [115]) = _) = _; decide +kernel) ?_⟩
      refine ⟨_, rfl, rfl, _, rfl, iteTb (by show decide (V.str (S [115]) = _) = _; decide +kernel) ?_⟩
      exact ⟨_, rfl, p, dx, _, rfl, r.at_, by rfl, p, dx, nl, rl, ns, tl, i, cap, m, .s0, fn, rfl, r, by omega, hd, rfl, sm, he, fun v H1 r1 k1 dv => k v H1 (r1.more (by omega)) k1 dv⟩
    | s1 z =>
      refine ⟨_, rfl, rfl, _, rfl, iteFb (by show decide (V.str (S [115]) = _) = _; decide +kernel) ?_⟩
      refine ⟨_, rfl, rfl, _, rfl, iteFb (by show decide (V.str (S [115]) = _) = _; decide +kernel) ?_⟩
      refine ⟨_, rfl, rfl, _, rfl, iteFb (by show decide (V.str (S [115]) = _) = _; decide +kernel) ?_⟩
      refine ⟨_, rfl, rfl, _, rfl, iteFb (by show decide (V.str (S [115]) = _) = _; decide +kernel) ?_⟩
      refine ⟨_, rfl, rfl, _, rfl, iteFb (by show decide (V.str (S [115]) = _) = _; decide +kernel) ?_⟩
      refine ⟨_, rfl, rfl, _, rfl, iteFb (by show decide (V.str (S [115]) = _) = _; decide +kernel) ?_⟩
      refine ⟨_, rfl, rfl, _, rfl, iteTb (by show decide (V.str (S [115]) = _) = _; decide +kernel) ?_⟩
      exact ⟨_, rfl, p, dx, _, rfl, r.at_, by rfl, p, dx, nl, rl, ns, tl, i, cap, m, .s1 z, fn, rfl, r, by omega, hd, rfl, sm, he, fun v H1 r1 k1 dv => k v H1 (r1.more (by omega)) k1 dv⟩
    | s2 z y =>
      refine ⟨_, rfl, rfl, _, rfl, iteFb (by show decide (V.str (S [115]) = _) = _; decide +kernel) ?_⟩
      refine ⟨_, rfl, rfl, _, rfl, iteFb (by show decide (V.str (S [115]) = _) = _; decide +kernel) ?_⟩
      refine ⟨_, rfl, rfl, _, rfl, iteFb (by show decide (V.str (S [115]) = _) = _; decide +kernel) ?_⟩
      refine ⟨_, rfl, rfl, _, rfl, iteFb (by show decide (V.str (S [115]) = _) = _; decide +kernel) ?_⟩
      refine ⟨_, rfl, rfl, _, rfl, iteFb (by show decide (V.str (S [115]) = _) = _; decide +kernel) ?_⟩
      refine ⟨_, rfl, rfl, _, rfl, iteFb (by show decide (V.str (S [115]) = _) = _; decide +kernel) ?_⟩
      refine ⟨_, rfl, rfl, _, rfl, iteTb (by show decide (V.str (S [115]) = _) = _; decide +kernel) ?_⟩
      exact ⟨_, rfl, p, dx, _, rfl, r.at_, by rfl, p, dx, nl, rl, ns, tl, i, cap, m, .s2 z y, fn, rfl, r, by omega, hd, rfl, sm, he, fun v H1 r1 k1 dv => k v H1 (r1.more (by omega)) k1 dv⟩
--SPLIT
def spRWith (K : PySem.W.Frag) (C : Addr) : Sp := fun vs H Q _ => ∃ (p dx nl rl : Addr) (ns tl : List Nat) (i cap m : Nat) (kd : Str) (fs : List Fld) (fn : List Nat), vs = [.ref p, .str kd, .str (S (fs.map ltr))] ∧ RdS C p dx nl rl ns H i cap ∧ cap ≤ 600000 ∧ ns.length ≤ 1000000 ∧ ns.drop i = fn ++ tl ∧ (∀ x ∈ fs, FldSm m x) ∧ m ≤ 10 ^ 6 ∧ FldsE fs fn ∧ fs.length ≤ 10 ∧
  ∀ v H', RdS C p dx nl rl ns H' (i + fn.length) (cap + 200) → Keep2 p rl H H' → Dt K H' v (.tuple (.str kd :: fs.map fldD)) → Q v H'
theorem ok_rwith0 {C : Addr} {f : Addr} {fd : FuncData} (F : Fun K "_with_fields" "NumberReader._with_fields" s_NumberReader__with_fields f fd) (T : Txt K mg) (UC_NumberReader : UseC K mg "NumberReader" fR C) (U_NumberReader__read_field : UseM P w K mg base CX0 C "_read_field" 7 P_NumberReader__read_field (spRField K C)) :
    FnG P w K mg base CX0 8 f fd P_NumberReader__with_fields (spRWith K C) := by
  refine okG0 F sc_NumberReader__with_fields (fun vs H Q E h => ?_) fun cdv A outer s H vs Q E hr hg h => ?_
  · obtain ⟨p, dx, nl, rl, ns, tl, i, cap, m, kd, fs, fn, rfl, _⟩ := h
    rfl
  · obtain ⟨p, dx, nl, rl, ns, tl, i, cap, m, kd, fs, fn, rfl, r, hc, hn, hd, hsm, hm, hE, hfl, k⟩ := h
    refine ⟨_, (pss_one (ps_ret (pe_op op_catTD (pe_tup (pa_cons (pv 1) pa_nil)) (pe_callTy call_tuple_of (by rfl) T.b_tuple (by decide +kernel) (pa_cons (pe_lc (own := [("letter", 3)]) (g := (gName 3)) rfl sc_NumberReader__with_fields.nd (pi_str (pv 2)) (blkOk_by (N := N_NumberReader__with_fields) (sc := defScope s_NumberReader__with_fields) (by decide +kernel)) (fun _ _ _ _ _ => (pg_name (i := 3) sc_NumberReader__with_fields.nd rfl (Or.inl rfl))) (fun _ _ _ _ _ => pts_nil) (fun _ _ _ _ _ => (pe_mc UC_NumberReader U_NumberReader__read_field pass0 (hr.mono (by decide)) hg (pv 0) (pa_cons (pv 3) pa_nil)))) pa_nil))))), ?_⟩
    obtain ⟨lss, e1, rfl, e3, e4⟩ := hE.at
    refine ⟨_, rfl, sz_1, fun t0 ht0 => ?_⟩
    have S0 := Same.new (o := .tup [.str kd]) ht0
    have r0 := r.same S0
    have d0 : Dt K (upd H t0 (.tup [.str kd])) (.ref t0) (.tuple [.str kd]) := Dt.made ht0 (.cons (.str _) .nil)
    generalize upd H t0 (.tup [.str kd]) = H0 at S0 r0 d0 ⊢
    refine ⟨_, rfl, S (fs.map ltr), rfl, fun D hD => ?_⟩
    have rD := r0.same (Same.new (o := .lst []) hD)
    obtain ⟨nD0, nDp, nDr⟩ := r0.free r0 (Keep2.refl p rl H0) hD
    refine lc_it walk_str (fun j H' => ∃ acc : List V, H' D = some (.lst acc) ∧ DtAll K H' acc ((fs.take j).map fldD) ∧ acc.length = j ∧ j ≤ fs.length ∧ RdS C p dx nl rl ns H' (i + (lss.take j).flatten.length) (cap + 20 * j) ∧ Keep2 p rl H0 H') ⟨[], upd_same, .nil, rfl, Nat.zero_le _, by simpa using rD, Same.two (Same.new hD)⟩ (fun _ _ _ _ => trivial) ?_ ?_
    · rintro j y H5 H6 hj ⟨acc, e5, a5, l5, _, r5, k5⟩ ⟨rfl, c, hc5, rfl⟩
      refine ⟨rfl, tYes_of ?_⟩
      have hcl : (fs.map ltr)[j]? = some c := by simpa [S] using hc5
      rw [List.getElem?_map] at hcl
      obtain ⟨x, hx, rfl⟩ := Option.map_eq_some_iff.mp hcl
      have hjl : j < fs.length := (List.getElem?_eq_some_iff.mp hx).1
      have hsx := hsm x (List.mem_of_getElem? hx)
      have hl : lss[j]? = some (lss[j]'(by omega)) := List.getElem?_eq_getElem (by omega)
      have hdr : lss.drop j = (lss[j]'(by omega)) :: lss.drop (j + 1) := List.drop_eq_getElem_cons (by omega)
      have hEx := e3 j _ _ hx hl
      generalize lss[j]'(by omega) = ln at hl hEx hdr
      have hdj : ns.drop (i + (lss.take j).flatten.length) = ln ++ ((lss.drop (j + 1)).flatten ++ tl) := by
        have e : lss.flatten = (lss.take j).flatten ++ (ln ++ (lss.drop (j + 1)).flatten) := by
          conv => lhs; rw [← List.take_append_drop j lss, hdr, List.flatten_append, List.flatten_cons]
        rw [← List.drop_drop, hd, e, List.append_assoc, List.drop_left, List.append_assoc]
      refine ⟨_, rfl, p, dx, _, rfl, r5.at_, by rfl, _, rfl, p, dx, nl, rl, ns, _, _, cap + 20 * j, m, x, ln, rfl, r5, by omega, hn, hdj, hsx, hm, hEx, fun v H7 r7 k7 dv => ?_⟩
      have e7 := k7 _ _ e5 nDp nDr
      have kT : KeepT K H7 (upd H7 D (.lst (acc ++ [v]))) := KeepT.upd e7
      refine ⟨acc, e7, Nat.lt_of_le_of_lt (show acc.length ≤ 10 by omega) (by decide), acc ++ [v], upd_same, ?_, by simp [l5], by omega, ?_, fun b o e h1 h2 => ?_⟩
      · rw [List.take_succ, hx, List.map_append]
        exact DtAll.app ((a5.keepT (r5.kt k7)).keepT kT) (.cons (dv.keepT kT) .nil)
      · rw [List.take_succ, hl, List.flatten_append, List.length_append, ← Nat.add_assoc, show cap + 20 * (j + 1) = cap + 20 * j + 20 by omega]
        rw [show ((some ln).toList : List (List Nat)).flatten.length = ln.length by simp]
        obtain ⟨rs, h1, h2⟩ := r7.ref
        refine ⟨?_, ?_, ⟨rs, ?_, h2⟩, r7.ne⟩
        · show upd H7 D _ p = _
          rw [upd_ne nDp.symm]; exact r7.at_
        · rw [upd_ne (ne_of_none r0.num hD)]; exact r7.num
        · rw [upd_ne nDr.symm]; exact h1
      · rw [upd_ne (ne_of_none e hD)]; exact k7 _ _ (k5 _ _ e h1 h2) h1 h2
    · rintro H5 ⟨acc, e5, a5, l5, _, r5, k5⟩
      have hz : (S (fs.map ltr)).cps.size = fs.length := by simp [S]
      rw [hz] at a5 r5
      rw [List.take_length] at a5
      rw [← e1, List.take_length] at r5
      refine ⟨D, _, rfl, .inl ⟨SqL.of e5, fun t ht => ?_⟩⟩
      have S6 := Same.new (o := .tup acc) ht
      have k06 := (Same.two (p := p) (rl := rl) S0).trans (k5.trans (Same.two S6))
      refine ⟨[.str kd], fs.map fldD, (d0.keepT (r0.kt k5)).mono S6, Dt.made ht a5, by rw [List.length_map, List.length_singleton]; omega, fun v H7 S7 dv => ?_⟩
      exact k v H7 (((r5.same S6).same S7).more (by omega)) (k06.trans (Same.two S7)) dv
end
abbrev s_NumberReader_read_frame : Stmt := inClass (top 39) 12
abbrev N_NumberReader_read_frame : List Str := ["self", "kind"]
abbrev P_NumberReader_read_frame : List Str := ["self"]
theorem sc_NumberReader_read_frame : FnScope N_NumberReader_read_frame P_NumberReader_read_frame (defScope s_NumberReader_read_frame) := ⟨rfl, rfl, rfl, by decide +kernel, rfl, by decide +kernel, by decide +kernel⟩
section
variable {P : Program} {w : World} {K : PySem.W.Frag} {mg : Str → Option Value} {base : Heap}
--SPLIT
/-- an item of a table of kinds, read -/
def spRKind (K : PySem.W.Frag) (C : Addr) (tab : Tab) : Sp := fun vs H Q _ => ∃ (p dx nl rl : Addr) (ns tl : List Nat) (i cap m j : Nat) (kd : Str) (fs : List Fld) (fn : List Nat), vs = [.ref p] ∧ RdS C p dx nl rl ns H i cap ∧ cap ≤ 500000 ∧ ns.length ≤ 1000000 ∧ ns.drop i = (cnt j ++ fn) ++ tl ∧ tab[j]? = some (kd, fs.map ltr) ∧ (∀ x ∈ fs, FldSm m x) ∧ m ≤ 10 ^ 6 ∧ FldsE fs fn ∧
  ∀ v H', RdS C p dx nl rl ns H' (i + (cnt j ++ fn).length) (cap + 200) → Keep2 p rl H H' → Dt K H' v (.tuple (.str kd :: fs.map fldD)) → Q v H'
theorem ok_rframe {C : Addr} {f : Addr} {fd : FuncData} (F : Fun K "read_frame" "NumberReader.read_frame" s_NumberReader_read_frame f fd) (T : Txt K mg) (U_FIELDS : UseD P w K mg "FIELDS" (txtKV fieldsL)) (UC_NumberReader : UseC K mg "NumberReader" fR C) (U_NumberReader_read_count_below : UseM P w K mg base CX0 C "read_count_below" 3 P_NumberReader_read_count_below (spRBelow C))
    (U_NumberReader__with_fields : UseM P w K mg base CX0 C "_with_fields" 8 P_NumberReader__with_fields (spRWith K C)) : FnG P w K mg base CX0 9 f fd P_NumberReader_read_frame (spRKind K C frTab) := by
  obtain ⟨aD_FIELDS, gD_FIELDS, kD⟩ := U_FIELDS.ex
  refine okG0 F sc_NumberReader_read_frame (fun vs H Q E h => ?_) fun cdv A outer s H vs Q E hr hg h => ?_
  · obtain ⟨p, dx, nl, rl, ns, tl, i, cap, m, j, kd, fs, fn, rfl, _⟩ := h
    rfl
  · obtain ⟨p, dx, nl, rl, ns, tl, i, cap, m, j, kd, fs, fn, rfl, r, hc, hn, hd, hj, hsm, hm, hE, k⟩ := h
    refine ⟨_, (pss_cons (ps_set (i := 1) sc_NumberReader_read_frame.nd rfl (Or.inl rfl) (pe_ix ix_list (pe_callTy (call_listK rfl) (by rfl) T.b_list (by decide +kernel) (pa_cons (pe_glob (v := .ref aD_FIELDS) (by rfl) gD_FIELDS rfl) pa_nil)) (pe_mc UC_NumberReader U_NumberReader_read_count_below pass0 (hr.mono (by decide)) hg (pv 0) (pa_cons (pe_callB call_lenDK (by rfl) T.b_len PySem.boot_len (pa_cons (pe_glob (v := .ref aD_FIELDS) (by rfl) gD_FIELDS rfl) pa_nil)) pa_nil)) (fun _ _ => rfl)))
  (pss_one (ps_ret (pe_mc UC_NumberReader U_NumberReader__with_fields pass0 (hr.mono (by decide)) hg (pv 0) (pa_cons (pv 1) (pa_cons (pe_dgetK (pe_glob (v := .ref aD_FIELDS) (by rfl) gD_FIELDS rfl) (pv 1) (fun _ _ => rfl)) pa_nil)))))), ?_⟩
    have hmem := List.mem_of_getElem? hj
    have hok := frTab_ok _ hmem
    have hfl : fs.length ≤ 10 := by
      have := hok.2
      simpa using this
    have hj60 : j < 60 := by rw [← fr_len.2]; exact (List.getElem?_eq_some_iff.mp hj).1
    refine ⟨aD_FIELDS, _, rfl, kD, by decide, fun l1 hl1 => ?_⟩
    have S1 := Same.new (o := .lst ((txtKV fieldsL).map fun kv => kV kv.1)) hl1
    have e1 : (upd H l1 (.lst ((txtKV fieldsL).map fun kv => kV kv.1))) l1 = some (.lst ((fieldsL.map (·.1)).map V.str)) := by rw [upd_same, keys_of]
    have r1 := r.same S1
    obtain ⟨_, n1p, n1r⟩ := r.free r (Keep2.refl p rl H) hl1
    generalize upd H l1 (.lst ((txtKV fieldsL).map fun kv => kV kv.1)) = H1 at S1 e1 r1 ⊢
    rw [List.append_assoc] at hd
    refine ⟨_, rfl, p, dx, _, rfl, r1.at_, by rfl, aD_FIELDS, _, rfl, kD, by decide, p, dx, nl, rl, ns, fn ++ tl, i, j, 60, by rw [show (txtKV fieldsL).length = 60 by decide +kernel], r1.at_, r1.num, hd, Nat.lt_of_le_of_lt (show j ≤ 60 by omega) (by decide +kernel), hj60, fun H2 h2 kr2 => ?_⟩
    have r2 := r1.step h2 kr2
    have e2 := kr2 _ _ e1 n1p
    have hkd : ((fieldsL.map (·.1)).map V.str)[j]? = some (.str kd) := by rw [List.getElem?_map, tab_key fields_keys hj]; rfl
    refine ⟨l1, _, _, _, rfl, rfl, SqL.of e2, atI_nat hkd, ?_⟩
    have hd2 : ns.drop (i + (cnt j).length) = fn ++ tl := by rw [← List.drop_drop, hd, List.drop_left]
    refine ⟨_, rfl, p, dx, _, rfl, r2.at_, by rfl, _, rfl, _, rfl, aD_FIELDS, _, .inr kd, _, rfl, kD, rfl, tab_val fields_at hmem, p, dx, nl, rl, ns, tl, _, cap, m, kd, fs, fn, rfl, r2, by omega, hn, hd2, hsm, hm, hE, hfl, fun v H3 r3 k3 dv => ?_⟩
    refine k v H3 ?_ ((Same.two S1).trans ((KeepR.two kr2).trans k3)) dv
    rw [List.length_append, ← Nat.add_assoc]
    exact r3
def spRdKind (K : PySem.W.Frag) (tab : Tab) : Sp := fun vs H Q _ => ∃ (nl : Addr) (ns tl : List Nat) (i m j : Nat) (kd : Str) (fs : List Fld) (fn : List Nat), vs = [.ref nl, .int (i : Int)] ∧ H nl = some (.lst (nV ns)) ∧ ns.length ≤ 1000000 ∧ ns.drop i = (cnt j ++ fn) ++ tl ∧ tab[j]? = some (kd, fs.map ltr) ∧ (∀ x ∈ fs, FldSm m x) ∧ m ≤ 10 ^ 6 ∧ FldsE fs fn ∧
  ∀ q v H', Same H H' → SqT K H' q [v, .int ((i + (cnt j ++ fn).length : Nat) : Int)] → Dt K H' v (.tuple (.str kd :: fs.map fldD)) → Q (.ref q) H'
end

section
--SPLIT
end
abbrev s_NumberReader_read_object : Stmt := inClass (top 39) 11
abbrev N_NumberReader_read_object : List Str := ["self", "kind"]
abbrev P_NumberReader_read_object : List Str := ["self"]
theorem sc_NumberReader_read_object : FnScope N_NumberReader_read_object P_NumberReader_read_object (defScope s_NumberReader_read_object) := ⟨rfl, rfl, rfl, by decide +kernel, rfl, by decide +kernel, by decide +kernel⟩
abbrev s_NumberReader_read_control : Stmt := inClass (top 39) 13
abbrev N_NumberReader_read_control : List Str := ["self", "kind"]
abbrev P_NumberReader_read_control : List Str := ["self"]
theorem sc_NumberReader_read_control : FnScope N_NumberReader_read_control P_NumberReader_read_control (defScope s_NumberReader_read_control) := ⟨rfl, rfl, rfl, by decide +kernel, rfl, by decide +kernel, by decide +kernel⟩
section
variable {P : Program} {w : World} {K : PySem.W.Frag} {mg : Str → Option Value} {base : Heap}
def spRItemF (K : PySem.W.Frag) (C : Addr) : Sp := fun vs H Q _ => ∃ (p dx nl rl : Addr) (ns tl : List Nat) (i cap m : Nat) (x : Fr) (ln : List Nat), vs = [.ref p, .str (S [70])] ∧ RdS C p dx nl rl ns H i cap ∧ cap ≤ 500000 ∧ ns.length ≤ 1000000 ∧ ns.drop i = ln ++ tl ∧ FrSm m x ∧ m ≤ 10 ^ 6 ∧ FrE x ln ∧
  ∀ v H', RdS C p dx nl rl ns H' (i + ln.length) (cap + 200) → Keep2 p rl H H' → Dt K H' v (frD x) → Q v H'
theorem ok_ritemF {C : Addr} {f : Addr} {fd : FuncData} (F : Fun K "_read_item" "NumberReader._read_item" s_NumberReader__read_item f fd) (T : Txt K mg) (UC_NumberReader : UseC K mg "NumberReader" fR C) (U_NumberReader_read_frame : UseM P w K mg base CX0 C "read_frame" 9 P_NumberReader_read_frame (spRKind K C frTab)) :
    FnG P w K mg base CX0 10 f fd P_NumberReader__read_item (spRItemF K C) := by
  refine okG0 F sc_NumberReader__read_item (fun vs H Q E h => ?_) fun cdv A outer s H vs Q E hr hg h => ?_
  · obtain ⟨p, dx, nl, rl, ns, tl, i, cap, m, x, ln, rfl, _⟩ := h
    rfl
  · obtain ⟨p, dx, nl, rl, ns, tl, i, cap, m, x, ln, rfl, r, hc, hn, hd, sm, hm, ⟨j, fn, hj, hE, rfl⟩, k⟩ := h
    refine ⟨_, (pss_cons (ps_if (pt_cmpR op_eq (pv 1) pe_str (nomark _))
   pss_never
   pss_nil)
  (pss_cons (ps_if (pt_cmpR op_eq (pv 1) pe_str (nomark _))
   (pss_one (ps_ret (pe_mc0 UC_NumberReader U_NumberReader_read_frame pass0 (hr.mono (by decide)) hg (pv 0))))
   pss_nil)
  pss_never)), ?_⟩
    refine ⟨_, rfl, rfl, _, rfl, iteFb (by decide +kernel) ?_⟩
    refine ⟨_, rfl, rfl, _, rfl, iteTb (by decide +kernel) ?_⟩
    exact ⟨_, rfl, p, dx, _, rfl, r.at_, by rfl, p, dx, nl, rl, ns, tl, i, cap, m, j, x.kd, x.fs, fn, rfl, r, hc, hn, hd, hj, sm.2, hm, hE, k⟩
def spRFieldF (K : PySem.W.Frag) (C : Addr) : Sp := fun vs H Q _ => ∃ (p dx nl rl : Addr) (ns tl : List Nat) (i cap m : Nat) (l : List Fr) (fn : List Nat), vs = [.ref p, .str (S [70])] ∧ RdS C p dx nl rl ns H i cap ∧ cap ≤ 400000 ∧ ns.length ≤ 1000000 ∧ ns.drop i = fn ++ tl ∧ Fl2Sm m (.fr l) ∧ m ≤ 10 ^ 6 ∧ FldE2 (.fr l) fn ∧
  ∀ v H', RdS C p dx nl rl ns H' (i + fn.length) (cap + 600) → Keep2 p rl H H' → Dt K H' v (.tuple (l.map frD)) → Q v H'
theorem ok_rfieldF {C : Addr} {f : Addr} {fd : FuncData} (F : Fun K "_read_field" "NumberReader._read_field" s_NumberReader__read_field f fd) (T : Txt K mg) (UC_NumberReader : UseC K mg "NumberReader" fR C) (U_NumberReader_read_count : UseM P w K mg base CX0 C "read_count" 2 P_NumberReader_read_count (spRCnt C)) (U_NumberReader__read_item : UseM P w K mg base CX0 C "_read_item" 10 P_NumberReader__read_item (spRItemF K C)) :
    FnG P w K mg base CX0 11 f fd P_NumberReader__read_field (spRFieldF K C) := by
  refine okG0 F sc_NumberReader__read_field (fun vs H Q E h => ?_) fun cdv A outer s H vs Q E hr hg h => ?_
  · obtain ⟨p, dx, nl, rl, ns, tl, i, cap, m, l, fn, rfl, _⟩ := h
    rfl
  · obtain ⟨p, dx, nl, rl, ns, tl, i, cap, m, l, fn, rfl, r, hc, hn, hd, sm, hm, ⟨lss, h1, rfl, h2, h3⟩, k⟩ := h
    refine ⟨_, (pss_cons (ps_if (pt_cmpR op_eq (pv 1) pe_str (nomark _))
   pss_never
   pss_nil)
  (pss_cons (ps_if (pt_cmpR op_eq (pv 1) pe_str (nomark _))
   pss_never
   pss_nil)
  (pss_cons (ps_if (pt_cmpR op_eq (pv 1) pe_str (nomark _))
   pss_never
   pss_nil)
  (pss_cons (ps_if (pt_cmpR op_eq (pv 1) pe_str (nomark _))
   pss_never
   pss_nil)
  (pss_cons (ps_if (pt_cmpR op_eq (pv 1) pe_str (nomark _))
   pss_never
   pss_nil)
  (pss_cons (ps_if (pt_cmpR op_eq (pv 1) pe_str (nomark _))
   pss_never
   pss_nil)
  (pss_cons (ps_if (pt_cmpR op_eq (pv 1) pe_str (nomark _))
   pss_never
   pss_nil)
  (pss_cons (ps_set (i := 2) sc_NumberReader__read_field.nd rfl (Or.inl rfl) (pe_mc0 UC_NumberReader U_NumberReader_read_count pass0 (hr.mono (by decide)) hg (pv 0)))
  (pss_one (ps_ret (pe_callTy call_tuple_of (by rfl) T.b_tuple (by decide +kernel) (pa_cons (pe_lc (own := [("_", 3)]) (g := (gName 3)) rfl sc_NumberReader__read_field.nd (pi_range1 (by rfl) T.b_range (pa_cons (pv 2) pa_nil)) (blkOk_by (N := N_NumberReader__read_field) (sc := defScope s_NumberReader__read_field) (by decide +kernel)) (fun _ _ _ _ _ => (pg_name (i := 3) sc_NumberReader__read_field.nd rfl (Or.inl rfl))) (fun _ _ _ _ _ => pts_nil) (fun _ _ _ _ _ => (pe_mc UC_NumberReader U_NumberReader__read_item pass0 (hr.mono (by decide)) hg (pv 0) (pa_cons (pv 1) pa_nil)))) pa_nil)))))))))))), ?_⟩
    refine ⟨_, rfl, rfl, _, rfl, iteFb (by decide +kernel) ?_⟩
    refine ⟨_, rfl, rfl, _, rfl, iteFb (by decide +kernel) ?_⟩
    refine ⟨_, rfl, rfl, _, rfl, iteFb (by decide +kernel) ?_⟩
    refine ⟨_, rfl, rfl, _, rfl, iteFb (by decide +kernel) ?_⟩
    refine ⟨_, rfl, rfl, _, rfl, iteFb (by decide +kernel) ?_⟩
    refine ⟨_, rfl, rfl, _, rfl, iteFb (by decide +kernel) ?_⟩
    refine ⟨_, rfl, rfl, _, rfl, iteFb (by decide +kernel) ?_⟩
    have hl2 : l.length ≤ 2 := sm.1
    rw [List.append_assoc] at hd
    refine ⟨_, rfl, p, dx, _, rfl, r.at_, by rfl, p, dx, nl, rl, ns, lss.flatten ++ tl, i, l.length, rfl, r.at_, r.num, hd, Nat.lt_of_le_of_lt (show l.length ≤ 4 by omega) (by decide +kernel), fun H1 hp1 kr1 => ?_⟩
    have r1 := r.step hp1 kr1
    have hd1 : ns.drop (i + (cnt l.length).length) = lss.flatten ++ tl := by rw [← List.drop_drop, hd, List.drop_left]
    refine ⟨_, rfl, l.length, rfl, by omega, by omega, fun D hD => ?_⟩
    rw [Int.toNat_natCast]
    have rD := r1.same (Same.new (o := .lst []) hD)
    obtain ⟨nD0, nDp, nDr⟩ := r1.free r1 (Keep2.refl p rl H1) hD
    refine lc_it (walk_range (lo := 0) (n := l.length)) (fun j H' => ∃ acc : List V, H' D = some (.lst acc) ∧ DtAll K H' acc ((l.take j).map frD) ∧ acc.length = j ∧ RdS C p dx nl rl ns H' (i + (cnt l.length).length + (lss.take j).flatten.length) (cap + 200 * j) ∧ Keep2 p rl H1 H') ⟨[], upd_same, .nil, rfl, by simpa using rD, Same.two (Same.new hD)⟩ (fun _ _ _ _ => trivial) ?_ ?_
    · rintro j y H5 H6 hj ⟨acc, e5, a5, l5, r5, k5⟩ ⟨rfl, rfl⟩
      refine ⟨rfl, tYes_of ?_⟩
      have hx : l[j]? = some l[j] := List.getElem?_eq_getElem hj
      have hsx := sm.2 _ (List.getElem_mem hj)
      have hl : lss[j]? = some (lss[j]'(by omega)) := List.getElem?_eq_getElem (by omega)
      have hdr : lss.drop j = (lss[j]'(by omega)) :: lss.drop (j + 1) := List.drop_eq_getElem_cons (by omega)
      have hE := h2 j _ _ hx hl
      generalize lss[j]'(by omega) = ln at hl hE hdr
      generalize l[j] = x at hx hsx hE
      have hdj : ns.drop (i + (cnt l.length).length + (lss.take j).flatten.length) = ln ++ ((lss.drop (j + 1)).flatten ++ tl) := by
        have e : lss.flatten = (lss.take j).flatten ++ (ln ++ (lss.drop (j + 1)).flatten) := by
          conv => lhs; rw [← List.take_append_drop j lss, hdr, List.flatten_append, List.flatten_cons]
        rw [← List.drop_drop, hd1, e, List.append_assoc, List.drop_left, List.append_assoc]
      refine ⟨_, rfl, p, dx, _, rfl, r5.at_, by rfl, _, rfl, p, dx, nl, rl, ns, _, _, cap + 200 * j, m, x, ln, rfl, r5, by omega, hn, hdj, hsx, hm, hE, fun v H7 r7 k7 dv => ?_⟩
      have e7 := k7 _ _ e5 nDp nDr
      have kT : KeepT K H7 (upd H7 D (.lst (acc ++ [v]))) := KeepT.upd e7
      refine ⟨acc, e7, Nat.lt_of_le_of_lt (show acc.length ≤ 4 by omega) (by decide), acc ++ [v], upd_same, ?_, by simp [l5], ?_, fun b o e h1 h2 => ?_⟩
      · rw [List.take_succ, hx, List.map_append]
        exact DtAll.app ((a5.keepT (r5.kt k7)).keepT kT) (.cons (dv.keepT kT) .nil)
      · rw [List.take_succ, hl, List.flatten_append, List.length_append, ← Nat.add_assoc, show cap + 200 * (j + 1) = cap + 200 * j + 200 by omega]
        rw [show ((some ln).toList : List (List Nat)).flatten.length = ln.length by simp]
        obtain ⟨rs, h1, h2⟩ := r7.ref
        refine ⟨?_, ?_, ⟨rs, ?_, h2⟩, r7.ne⟩
        · show upd H7 D _ p = _
          rw [upd_ne nDp.symm]; exact r7.at_
        · rw [upd_ne (ne_of_none r1.num hD)]; exact r7.num
        · rw [upd_ne nDr.symm]; exact h1
      · rw [upd_ne (ne_of_none e hD)]; exact k7 _ _ (k5 _ _ e h1 h2) h1 h2
    · rintro H5 ⟨acc, e5, a5, l5, r5, k5⟩
      rw [List.take_length] at a5
      rw [← h1, List.take_length] at r5
      refine ⟨D, _, rfl, .inl ⟨SqL.of e5, fun t ht => ?_⟩⟩
      refine k _ _ ?_ (((KeepR.two kr1).trans k5).trans (Same.two (Same.new ht))) (Dt.made ht a5)
      rw [List.length_append, ← Nat.add_assoc, ← h1]
      exact (r5.same (Same.new ht)).more (by omega)
def spRField2 (K : PySem.W.Frag) (C : Addr) : Sp := fun vs H Q _ => ∃ (p dx nl rl : Addr) (ns tl : List Nat) (i cap m : Nat) (x : Fl2) (fn : List Nat), vs = [.ref p, .str (S [ltr2 x])] ∧ RdS C p dx nl rl ns H i cap ∧ cap ≤ 400000 ∧ ns.length ≤ 1000000 ∧ ns.drop i = fn ++ tl ∧ Fl2Sm m x ∧ m ≤ 10 ^ 6 ∧ FldE2 x fn ∧
  ∀ v H', RdS C p dx nl rl ns H' (i + fn.length) (cap + 600) → Keep2 p rl H H' → Dt K H' v (fl2D x) → Q v H'
theorem ok_rfield2 {C : Addr} {f : Addr} {fd : FuncData} (F : Fun K "_read_field" "NumberReader._read_field" s_NumberReader__read_field f fd) (T : Txt K mg) (UC_NumberReader : UseC K mg "NumberReader" fR C) (U_NumberReader_read_value : UseM P w K mg base CX0 C "read_value" 5 P_NumberReader_read_value (spRVal K C)) (U_NumberReader_read_tree : UseM P w K mg base CX0 C "read_tree" 6 P_NumberReader_read_tree (spRTree0 K C))
    (U_NumberReader_read_reference : UseM P w K mg base CX0 C "read_reference" 3 P_NumberReader_read_reference (spRRefS K C)) (U_NumberReader_read_integer : UseM P w K mg base CX0 C "read_integer" 3 P_NumberReader_read_integer (spRInt C)) (U_NumberReader_read_string : UseM P w K mg base CX0 C "read_string" 4 P_NumberReader_read_string (spRStr C))
    (U_NumberReader__read_signal : UseM P w K mg base CX0 C "_read_signal" 6 P_NumberReader__read_signal (spRSig K C)) (U_NumberReader_read_count : UseM P w K mg base CX0 C "read_count" 2 P_NumberReader_read_count (spRCnt C)) (U_NumberReader__read_item : UseM P w K mg base CX0 C "_read_item" 6 P_NumberReader__read_item (spRItem K C)) (U_NumberReader__read_itemF : UseM P w K mg base CX0 C "_read_item" 10 P_NumberReader__read_item (spRItemF K C)) :
    FnG P w K mg base CX0 11 f fd P_NumberReader__read_field (spRField2 K C) :=
  ((FnG.upw (ok_rfield0 F T UC_NumberReader U_NumberReader_read_value U_NumberReader_read_tree U_NumberReader_read_reference U_NumberReader_read_integer U_NumberReader_read_string U_NumberReader__read_signal U_NumberReader_read_count U_NumberReader__read_item) (by decide)).or (ok_rfieldF F T UC_NumberReader U_NumberReader_read_count U_NumberReader__read_itemF)).imp fun vs H Q E h => by
    obtain ⟨p, dx, nl, rl, ns, tl, i, cap, m, x, fn, rfl, r, hc, hn, hd, sm, hm, he, k⟩ := h
    cases x with
    | one y => exact .inl ⟨p, dx, nl, rl, ns, tl, i, cap, m, y, fn, rfl, r, by omega, hn, hd, sm, hm, he, fun v H' r' => k v H' (r'.more (by omega))⟩
    | fr l => exact .inr ⟨p, dx, nl, rl, ns, tl, i, cap, m, l, fn, rfl, r, hc, hn, hd, sm, hm, he, k⟩
--SPLIT
def spRWith2 (K : PySem.W.Frag) (C : Addr) : Sp := fun vs H Q _ => ∃ (p dx nl rl : Addr) (ns tl : List Nat) (i cap m : Nat) (kd : Str) (fs : List Fl2) (fn : List Nat), vs = [.ref p, .str kd, .str (S (fs.map ltr2))] ∧ RdS C p dx nl rl ns H i cap ∧ cap ≤ 300000 ∧ ns.length ≤ 1000000 ∧ ns.drop i = fn ++ tl ∧ (∀ x ∈ fs, Fl2Sm m x) ∧ m ≤ 10 ^ 6 ∧ FldsE2 fs fn ∧ fs.length ≤ 10 ∧
  ∀ v H', RdS C p dx nl rl ns H' (i + fn.length) (cap + 6000) → Keep2 p rl H H' → Dt K H' v (.tuple (.str kd :: fs.map fl2D)) → Q v H'
theorem ok_rwith2 {C : Addr} {f : Addr} {fd : FuncData} (F : Fun K "_with_fields" "NumberReader._with_fields" s_NumberReader__with_fields f fd) (T : Txt K mg) (UC_NumberReader : UseC K mg "NumberReader" fR C) (U_NumberReader__read_field : UseM P w K mg base CX0 C "_read_field" 11 P_NumberReader__read_field (spRField2 K C)) :
    FnG P w K mg base CX0 12 f fd P_NumberReader__with_fields (spRWith2 K C) := by
  refine okG0 F sc_NumberReader__with_fields (fun vs H Q E h => ?_) fun cdv A outer s H vs Q E hr hg h => ?_
  · obtain ⟨p, dx, nl, rl, ns, tl, i, cap, m, kd, fs, fn, rfl, _⟩ := h
    rfl
  · obtain ⟨p, dx, nl, rl, ns, tl, i, cap, m, kd, fs, fn, rfl, r, hc, hn, hd, hsm, hm, hE, hfl, k⟩ := h
    refine ⟨_, (pss_one (ps_ret (pe_op op_catTD (pe_tup (pa_cons (pv 1) pa_nil)) (pe_callTy call_tuple_of (by rfl) T.b_tuple (by decide +kernel) (pa_cons (pe_lc (own := [("letter", 3)]) (g := (gName 3)) rfl sc_NumberReader__with_fields.nd (pi_str (pv 2)) (blkOk_by (N := N_NumberReader__with_fields) (sc := defScope s_NumberReader__with_fields) (by decide +kernel)) (fun _ _ _ _ _ => (pg_name (i := 3) sc_NumberReader__with_fields.nd rfl (Or.inl rfl))) (fun _ _ _ _ _ => pts_nil) (fun _ _ _ _ _ => (pe_mc UC_NumberReader U_NumberReader__read_field pass0 (hr.mono (by decide)) hg (pv 0) (pa_cons (pv 3) pa_nil)))) pa_nil))))), ?_⟩
    obtain ⟨lss, e1, rfl, e3, e4⟩ := hE.at
    refine ⟨_, rfl, sz_1, fun t0 ht0 => ?_⟩
    have S0 := Same.new (o := .tup [.str kd]) ht0
    have r0 := r.same S0
    have d0 : Dt K (upd H t0 (.tup [.str kd])) (.ref t0) (.tuple [.str kd]) := Dt.made ht0 (.cons (.str _) .nil)
    generalize upd H t0 (.tup [.str kd]) = H0 at S0 r0 d0 ⊢
    refine ⟨_, rfl, S (fs.map ltr2), rfl, fun D hD => ?_⟩
    have rD := r0.same (Same.new (o := .lst []) hD)
    obtain ⟨nD0, nDp, nDr⟩ := r0.free r0 (Keep2.refl p rl H0) hD
    refine lc_it walk_str (fun j H' => ∃ acc : List V, H' D = some (.lst acc) ∧ DtAll K H' acc ((fs.take j).map fl2D) ∧ acc.length = j ∧ j ≤ fs.length ∧ RdS C p dx nl rl ns H' (i + (lss.take j).flatten.length) (cap + 600 * j) ∧ Keep2 p rl H0 H') ⟨[], upd_same, .nil, rfl, Nat.zero_le _, by simpa using rD, Same.two (Same.new hD)⟩ (fun _ _ _ _ => trivial) ?_ ?_
    · rintro j y H5 H6 hj ⟨acc, e5, a5, l5, _, r5, k5⟩ ⟨rfl, c, hc5, rfl⟩
      refine ⟨rfl, tYes_of ?_⟩
      have hcl : (fs.map ltr2)[j]? = some c := by simpa [S] using hc5
      rw [List.getElem?_map] at hcl
      obtain ⟨x, hx, rfl⟩ := Option.map_eq_some_iff.mp hcl
      have hjl : j < fs.length := (List.getElem?_eq_some_iff.mp hx).1
      have hsx := hsm x (List.mem_of_getElem? hx)
      have hl : lss[j]? = some (lss[j]'(by omega)) := List.getElem?_eq_getElem (by omega)
      have hdr : lss.drop j = (lss[j]'(by omega)) :: lss.drop (j + 1) := List.drop_eq_getElem_cons (by omega)
      have hEx := e3 j _ _ hx hl
      generalize lss[j]'(by omega) = ln at hl hEx hdr
      have hdj : ns.drop (i + (lss.take j).flatten.length) = ln ++ ((lss.drop (j + 1)).flatten ++ tl) := by
        have e : lss.flatten = (lss.take j).flatten ++ (ln ++ (lss.drop (j + 1)).flatten) := by
          conv => lhs; rw [← List.take_append_drop j lss, hdr, List.flatten_append, List.flatten_cons]
        rw [← List.drop_drop, hd, e, List.append_assoc, List.drop_left, List.append_assoc]
      refine ⟨_, rfl, p, dx, _, rfl, r5.at_, by rfl, _, rfl, p, dx, nl, rl, ns, _, _, cap + 600 * j, m, x, ln, rfl, r5, by omega, hn, hdj, hsx, hm, hEx, fun v H7 r7 k7 dv => ?_⟩
      have e7 := k7 _ _ e5 nDp nDr
      have kT : KeepT K H7 (upd H7 D (.lst (acc ++ [v]))) := KeepT.upd e7
      refine ⟨acc, e7, Nat.lt_of_le_of_lt (show acc.length ≤ 10 by omega) (by decide), acc ++ [v], upd_same, ?_, by simp [l5], by omega, ?_, fun b o e h1 h2 => ?_⟩
      · rw [List.take_succ, hx, List.map_append]
        exact DtAll.app ((a5.keepT (r5.kt k7)).keepT kT) (.cons (dv.keepT kT) .nil)
      · rw [List.take_succ, hl, List.flatten_append, List.length_append, ← Nat.add_assoc, show cap + 600 * (j + 1) = cap + 600 * j + 600 by omega]
        rw [show ((some ln).toList : List (List Nat)).flatten.length = ln.length by simp]
        obtain ⟨rs, h1, h2⟩ := r7.ref
        refine ⟨?_, ?_, ⟨rs, ?_, h2⟩, r7.ne⟩
        · show upd H7 D _ p = _
          rw [upd_ne nDp.symm]; exact r7.at_
        · rw [upd_ne (ne_of_none r0.num hD)]; exact r7.num
        · rw [upd_ne nDr.symm]; exact h1
      · rw [upd_ne (ne_of_none e hD)]; exact k7 _ _ (k5 _ _ e h1 h2) h1 h2
    · rintro H5 ⟨acc, e5, a5, l5, _, r5, k5⟩
      have hz : (S (fs.map ltr2)).cps.size = fs.length := by simp [S]
      rw [hz] at a5 r5
      rw [List.take_length] at a5
      rw [← e1, List.take_length] at r5
      refine ⟨D, _, rfl, .inl ⟨SqL.of e5, fun t ht => ?_⟩⟩
      have S6 := Same.new (o := .tup acc) ht
      have k06 := (Same.two (p := p) (rl := rl) S0).trans (k5.trans (Same.two S6))
      refine ⟨[.str kd], fs.map fl2D, (d0.keepT (r0.kt k5)).mono S6, Dt.made ht a5, by rw [List.length_map, List.length_singleton]; omega, fun v H7 S7 dv => ?_⟩
      exact k v H7 (((r5.same S6).same S7).more (by omega)) (k06.trans (Same.two S7)) dv
--SPLIT
/-- an item of a table of kinds, read -/
def spRKind2 (K : PySem.W.Frag) (C : Addr) (tab : Tab) : Sp := fun vs H Q _ => ∃ (p dx nl rl : Addr) (ns tl : List Nat) (i cap m j : Nat) (kd : Str) (fs : List Fl2) (fn : List Nat), vs = [.ref p] ∧ RdS C p dx nl rl ns H i cap ∧ cap ≤ 200000 ∧ ns.length ≤ 1000000 ∧ ns.drop i = (cnt j ++ fn) ++ tl ∧ tab[j]? = some (kd, fs.map ltr2) ∧ (∀ x ∈ fs, Fl2Sm m x) ∧ m ≤ 10 ^ 6 ∧ FldsE2 fs fn ∧
  ∀ v H', RdS C p dx nl rl ns H' (i + (cnt j ++ fn).length) (cap + 6000) → Keep2 p rl H H' → Dt K H' v (.tuple (.str kd :: fs.map fl2D)) → Q v H'
theorem ok_robject {C : Addr} {f : Addr} {fd : FuncData} (F : Fun K "read_object" "NumberReader.read_object" s_NumberReader_read_object f fd) (T : Txt K mg) (U_OBJECTS : UseD P w K mg "OBJECTS" (txtKV objectsL)) (UC_NumberReader : UseC K mg "NumberReader" fR C) (U_NumberReader_read_count_below : UseM P w K mg base CX0 C "read_count_below" 3 P_NumberReader_read_count_below (spRBelow C))
    (U_NumberReader__with_fields : UseM P w K mg base CX0 C "_with_fields" 12 P_NumberReader__with_fields (spRWith2 K C)) : FnG P w K mg base CX0 13 f fd P_NumberReader_read_object (spRKind2 K C obTab) := by
  obtain ⟨aD_OBJECTS, gD_OBJECTS, kD⟩ := U_OBJECTS.ex
  refine okG0 F sc_NumberReader_read_object (fun vs H Q E h => ?_) fun cdv A outer s H vs Q E hr hg h => ?_
  · obtain ⟨p, dx, nl, rl, ns, tl, i, cap, m, j, kd, fs, fn, rfl, _⟩ := h
    rfl
  · obtain ⟨p, dx, nl, rl, ns, tl, i, cap, m, j, kd, fs, fn, rfl, r, hc, hn, hd, hj, hsm, hm, hE, k⟩ := h
    refine ⟨_, (pss_cons (ps_set (i := 1) sc_NumberReader_read_object.nd rfl (Or.inl rfl) (pe_ix ix_list (pe_callTy (call_listK rfl) (by rfl) T.b_list (by decide +kernel) (pa_cons (pe_glob (v := .ref aD_OBJECTS) (by rfl) gD_OBJECTS rfl) pa_nil)) (pe_mc UC_NumberReader U_NumberReader_read_count_below pass0 (hr.mono (by decide)) hg (pv 0) (pa_cons (pe_callB call_lenDK (by rfl) T.b_len PySem.boot_len (pa_cons (pe_glob (v := .ref aD_OBJECTS) (by rfl) gD_OBJECTS rfl) pa_nil)) pa_nil)) (fun _ _ => rfl)))
  (pss_one (ps_ret (pe_mc UC_NumberReader U_NumberReader__with_fields pass0 (hr.mono (by decide)) hg (pv 0) (pa_cons (pv 1) (pa_cons (pe_dgetK (pe_glob (v := .ref aD_OBJECTS) (by rfl) gD_OBJECTS rfl) (pv 1) (fun _ _ => rfl)) pa_nil)))))), ?_⟩
    have hmem := List.mem_of_getElem? hj
    have hok := obTab_ok _ hmem
    have hfl : fs.length ≤ 10 := by
      have := hok.2
      simpa using this
    have hj60 : j < 10 := by rw [← obTab_n]; exact (List.getElem?_eq_some_iff.mp hj).1
    refine ⟨aD_OBJECTS, _, rfl, kD, by decide, fun l1 hl1 => ?_⟩
    have S1 := Same.new (o := .lst ((txtKV objectsL).map fun kv => kV kv.1)) hl1
    have e1 : (upd H l1 (.lst ((txtKV objectsL).map fun kv => kV kv.1))) l1 = some (.lst ((objectsL.map (·.1)).map V.str)) := by rw [upd_same, keys_of]
    have r1 := r.same S1
    obtain ⟨_, n1p, n1r⟩ := r.free r (Keep2.refl p rl H) hl1
    generalize upd H l1 (.lst ((txtKV objectsL).map fun kv => kV kv.1)) = H1 at S1 e1 r1 ⊢
    rw [List.append_assoc] at hd
    refine ⟨_, rfl, p, dx, _, rfl, r1.at_, by rfl, aD_OBJECTS, _, rfl, kD, by decide, p, dx, nl, rl, ns, fn ++ tl, i, j, 10, by rw [show (txtKV objectsL).length = 10 by decide +kernel], r1.at_, r1.num, hd, Nat.lt_of_le_of_lt (show j ≤ 10 by omega) (by decide +kernel), hj60, fun H2 h2 kr2 => ?_⟩
    have r2 := r1.step h2 kr2
    have e2 := kr2 _ _ e1 n1p
    have hkd : ((objectsL.map (·.1)).map V.str)[j]? = some (.str kd) := by rw [List.getElem?_map, tab_key objects_keys hj]; rfl
    refine ⟨l1, _, _, _, rfl, rfl, SqL.of e2, atI_nat hkd, ?_⟩
    have hd2 : ns.drop (i + (cnt j).length) = fn ++ tl := by rw [← List.drop_drop, hd, List.drop_left]
    refine ⟨_, rfl, p, dx, _, rfl, r2.at_, by rfl, _, rfl, _, rfl, aD_OBJECTS, _, .inr kd, _, rfl, kD, rfl, tab_val objects_at hmem, p, dx, nl, rl, ns, tl, _, cap, m, kd, fs, fn, rfl, r2, by omega, hn, hd2, hsm, hm, hE, hfl, fun v H3 r3 k3 dv => ?_⟩
    refine k v H3 ?_ ((Same.two S1).trans ((KeepR.two kr2).trans k3)) dv
    rw [List.length_append, ← Nat.add_assoc]
    exact r3
theorem ok_rcontrol {C : Addr} {f : Addr} {fd : FuncData} (F : Fun K "read_control" "NumberReader.read_control" s_NumberReader_read_control f fd) (T : Txt K mg) (U_CONTROLS : UseD P w K mg "CONTROLS" (txtKV controlsL)) (UC_NumberReader : UseC K mg "NumberReader" fR C) (U_NumberReader_read_count_below : UseM P w K mg base CX0 C "read_count_below" 3 P_NumberReader_read_count_below (spRBelow C))
    (U_NumberReader__with_fields : UseM P w K mg base CX0 C "_with_fields" 8 P_NumberReader__with_fields (spRWith K C)) : FnG P w K mg base CX0 9 f fd P_NumberReader_read_control (spRKind K C coTab) := by
  obtain ⟨aD_CONTROLS, gD_CONTROLS, kD⟩ := U_CONTROLS.ex
  refine okG0 F sc_NumberReader_read_control (fun vs H Q E h => ?_) fun cdv A outer s H vs Q E hr hg h => ?_
  · obtain ⟨p, dx, nl, rl, ns, tl, i, cap, m, j, kd, fs, fn, rfl, _⟩ := h
    rfl
  · obtain ⟨p, dx, nl, rl, ns, tl, i, cap, m, j, kd, fs, fn, rfl, r, hc, hn, hd, hj, hsm, hm, hE, k⟩ := h
    refine ⟨_, (pss_cons (ps_set (i := 1) sc_NumberReader_read_control.nd rfl (Or.inl rfl) (pe_ix ix_list (pe_callTy (call_listK rfl) (by rfl) T.b_list (by decide +kernel) (pa_cons (pe_glob (v := .ref aD_CONTROLS) (by rfl) gD_CONTROLS rfl) pa_nil)) (pe_mc UC_NumberReader U_NumberReader_read_count_below pass0 (hr.mono (by decide)) hg (pv 0) (pa_cons (pe_callB call_lenDK (by rfl) T.b_len PySem.boot_len (pa_cons (pe_glob (v := .ref aD_CONTROLS) (by rfl) gD_CONTROLS rfl) pa_nil)) pa_nil)) (fun _ _ => rfl)))
  (pss_one (ps_ret (pe_mc UC_NumberReader U_NumberReader__with_fields pass0 (hr.mono (by decide)) hg (pv 0) (pa_cons (pv 1) (pa_cons (pe_dgetK (pe_glob (v := .ref aD_CONTROLS) (by rfl) gD_CONTROLS rfl) (pv 1) (fun _ _ => rfl)) pa_nil)))))), ?_⟩
    have hmem := List.mem_of_getElem? hj
    have hok := coTab_ok _ hmem
    have hfl : fs.length ≤ 10 := by
      have := hok.2
      simpa using this
    have hj60 : j < 10 := by rw [← coTab_n]; exact (List.getElem?_eq_some_iff.mp hj).1
    refine ⟨aD_CONTROLS, _, rfl, kD, by decide, fun l1 hl1 => ?_⟩
    have S1 := Same.new (o := .lst ((txtKV controlsL).map fun kv => kV kv.1)) hl1
    have e1 : (upd H l1 (.lst ((txtKV controlsL).map fun kv => kV kv.1))) l1 = some (.lst ((controlsL.map (·.1)).map V.str)) := by rw [upd_same, keys_of]
    have r1 := r.same S1
    obtain ⟨_, n1p, n1r⟩ := r.free r (Keep2.refl p rl H) hl1
    generalize upd H l1 (.lst ((txtKV controlsL).map fun kv => kV kv.1)) = H1 at S1 e1 r1 ⊢
    rw [List.append_assoc] at hd
    refine ⟨_, rfl, p, dx, _, rfl, r1.at_, by rfl, aD_CONTROLS, _, rfl, kD, by decide, p, dx, nl, rl, ns, fn ++ tl, i, j, 10, by rw [show (txtKV controlsL).length = 10 by decide +kernel], r1.at_, r1.num, hd, Nat.lt_of_le_of_lt (show j ≤ 10 by omega) (by decide +kernel), hj60, fun H2 h2 kr2 => ?_⟩
    have r2 := r1.step h2 kr2
    have e2 := kr2 _ _ e1 n1p
    have hkd : ((controlsL.map (·.1)).map V.str)[j]? = some (.str kd) := by rw [List.getElem?_map, tab_key controls_keys hj]; rfl
    refine ⟨l1, _, _, _, rfl, rfl, SqL.of e2, atI_nat hkd, ?_⟩
    have hd2 : ns.drop (i + (cnt j).length) = fn ++ tl := by rw [← List.drop_drop, hd, List.drop_left]
    refine ⟨_, rfl, p, dx, _, rfl, r2.at_, by rfl, _, rfl, _, rfl, aD_CONTROLS, _, .inr kd, _, rfl, kD, rfl, tab_val controls_at hmem, p, dx, nl, rl, ns, tl, _, cap, m, kd, fs, fn, rfl, r2, by omega, hn, hd2, hsm, hm, hE, hfl, fun v H3 r3 k3 dv => ?_⟩
    refine k v H3 ?_ ((Same.two S1).trans ((KeepR.two kr2).trans k3)) dv
    rw [List.length_append, ← Nat.add_assoc]
    exact r3
def spRdKind2 (K : PySem.W.Frag) (tab : Tab) : Sp := fun vs H Q _ => ∃ (nl : Addr) (ns tl : List Nat) (i m j : Nat) (kd : Str) (fs : List Fl2) (fn : List Nat), vs = [.ref nl, .int (i : Int)] ∧ H nl = some (.lst (nV ns)) ∧ ns.length ≤ 1000000 ∧ ns.drop i = (cnt j ++ fn) ++ tl ∧ tab[j]? = some (kd, fs.map ltr2) ∧ (∀ x ∈ fs, Fl2Sm m x) ∧ m ≤ 10 ^ 6 ∧ FldsE2 fs fn ∧
  ∀ q v H', Same H H' → SqT K H' q [v, .int ((i + (cnt j ++ fn).length : Nat) : Int)] → Dt K H' v (.tuple (.str kd :: fs.map fl2D)) → Q (.ref q) H'
end

abbrev s_read_object : Stmt := top 42
abbrev N_read_object : List Str := ["numbers", "at", "reader", "item"]
abbrev P_read_object : List Str := ["numbers", "at"]
theorem sc_read_object : FnScope N_read_object P_read_object (defScope s_read_object) := ⟨rfl, rfl, rfl, by decide +kernel, rfl, by decide +kernel, by decide +kernel⟩
abbrev s_read_control : Stmt := top 43
abbrev N_read_control : List Str := ["numbers", "at", "reader", "control"]
abbrev P_read_control : List Str := ["numbers", "at"]
theorem sc_read_control : FnScope N_read_control P_read_control (defScope s_read_control) := ⟨rfl, rfl, rfl, by decide +kernel, rfl, by decide +kernel, by decide +kernel⟩
section
variable {P : Program} {w : World} {K : PySem.W.Frag} {mg : Str → Option Value} {base : Heap}
theorem ok_readobject {C : Addr} {f : Addr} {fd : FuncData} (F : Fun K "read_object" "read_object" s_read_object f fd) (T : Txt K mg) (UC_NumberReader : UseC K mg "NumberReader" fR C) (U_NumberReader___init__ : UseK P w K mg base "NumberReader" C 1 P_NumberReader___init__ (spRInit C)) (U_NumberReader_read_object : UseM P w K mg base CX0 C "read_object" 13 P_NumberReader_read_object (spRKind2 K C obTab)) :
    FnG P w K mg base CX0 14 f fd P_read_object (spRdKind2 K obTab) := by
  refine okG0 F sc_read_object (fun vs H Q E h => ?_) fun cdv A outer s H vs Q E hr hg h => ?_
  · obtain ⟨nl, ns, tl, i, m, j, kd, fs, fn, rfl, _⟩ := h
    rfl
  · obtain ⟨nl, ns, tl, i, m, j, kd, fs, fn, rfl, hn, hl, hd, hj, hsm, hm, hE, k⟩ := h
    refine ⟨_, (pss_cons (ps_set (i := 2) sc_read_object.nd rfl (Or.inl rfl) (pe_mk U_NumberReader___init__ (hr.mono (by decide)) rfl (pa_cons (pv 0) (pa_cons (pv 1) pa_nil))))
  (pss_cons (ps_set (i := 3) sc_read_object.nd rfl (Or.inl rfl) (pe_mc0 UC_NumberReader U_NumberReader_read_object pass0 (hr.mono (by decide)) hg (pv 2)))
  (pss_one (ps_ret (pe_tup (pa_cons (pv 3) (pa_cons (pe_fd UC_NumberReader (by decide +kernel) (pv 2)) pa_nil))))))), ?_⟩
    refine ⟨_, rfl, _, rfl, fun p dx np ndx ne => ⟨p, dx, nl, _, rfl, upd_same, fun rl H1 nrl hrl hp kp => ⟨rfl, ?_⟩⟩⟩
    have S1 : Same H H1 := fun b o e => kp _ _ (by rw [upd_ne (ne_of_none e np), upd_ne (ne_of_none e ndx)]; exact e) (ne_of_none e np)
    have hp : RAt C p dx nl rl H1 i := hp
    have nrl0 : H rl = none := by
      cases e : H rl with
      | none => rfl
      | some o => rw [upd_ne (ne_of_none e np), upd_ne (ne_of_none e ndx)] at nrl; rw [e] at nrl; cases nrl
    have r1 : RdS C p dx nl rl ns H1 i 0 := ⟨hp, S1 _ _ hn, ⟨[], hrl, Nat.le_refl _⟩, ne_of_none hn nrl0⟩
    refine ⟨_, rfl, p, dx, _, rfl, hp, by rfl, p, dx, nl, rl, ns, tl, i, 0, m, j, kd, fs, fn, rfl, r1, by omega, hl, hd, hj, hsm, hm, hE, fun v H2 r2 k2 dv => ?_⟩
    have S2 : Same H H2 := fun b o e => k2 _ _ (S1 _ _ e) (ne_of_none e np) (ne_of_none e nrl0)
    refine ⟨_, rfl, _, rfl, p, dx, _, _, rfl, r2.at_, rf_at, sz_2, fun t ht => ?_⟩
    exact k t v _ (S2.trans (Same.new ht)) (SqT.of upd_same) (dv.mono (Same.new ht))
theorem ok_readcontrol {C : Addr} {f : Addr} {fd : FuncData} (F : Fun K "read_control" "read_control" s_read_control f fd) (T : Txt K mg) (UC_NumberReader : UseC K mg "NumberReader" fR C) (U_NumberReader___init__ : UseK P w K mg base "NumberReader" C 1 P_NumberReader___init__ (spRInit C)) (U_NumberReader_read_control : UseM P w K mg base CX0 C "read_control" 9 P_NumberReader_read_control (spRKind K C coTab)) :
    FnG P w K mg base CX0 10 f fd P_read_control (spRdKind K coTab) := by
  refine okG0 F sc_read_control (fun vs H Q E h => ?_) fun cdv A outer s H vs Q E hr hg h => ?_
  · obtain ⟨nl, ns, tl, i, m, j, kd, fs, fn, rfl, _⟩ := h
    rfl
  · obtain ⟨nl, ns, tl, i, m, j, kd, fs, fn, rfl, hn, hl, hd, hj, hsm, hm, hE, k⟩ := h
    refine ⟨_, (pss_cons (ps_set (i := 2) sc_read_control.nd rfl (Or.inl rfl) (pe_mk U_NumberReader___init__ (hr.mono (by decide)) rfl (pa_cons (pv 0) (pa_cons (pv 1) pa_nil))))
  (pss_cons (ps_set (i := 3) sc_read_control.nd rfl (Or.inl rfl) (pe_mc0 UC_NumberReader U_NumberReader_read_control pass0 (hr.mono (by decide)) hg (pv 2)))
  (pss_one (ps_ret (pe_tup (pa_cons (pv 3) (pa_cons (pe_fd UC_NumberReader (by decide +kernel) (pv 2)) pa_nil))))))), ?_⟩
    refine ⟨_, rfl, _, rfl, fun p dx np ndx ne => ⟨p, dx, nl, _, rfl, upd_same, fun rl H1 nrl hrl hp kp => ⟨rfl, ?_⟩⟩⟩
    have S1 : Same H H1 := fun b o e => kp _ _ (by rw [upd_ne (ne_of_none e np), upd_ne (ne_of_none e ndx)]; exact e) (ne_of_none e np)
    have hp : RAt C p dx nl rl H1 i := hp
    have nrl0 : H rl = none := by
      cases e : H rl with
      | none => rfl
      | some o => rw [upd_ne (ne_of_none e np), upd_ne (ne_of_none e ndx)] at nrl; rw [e] at nrl; cases nrl
    have r1 : RdS C p dx nl rl ns H1 i 0 := ⟨hp, S1 _ _ hn, ⟨[], hrl, Nat.le_refl _⟩, ne_of_none hn nrl0⟩
    refine ⟨_, rfl, p, dx, _, rfl, hp, by rfl, p, dx, nl, rl, ns, tl, i, 0, m, j, kd, fs, fn, rfl, r1, by omega, hl, hd, hj, hsm, hm, hE, fun v H2 r2 k2 dv => ?_⟩
    have S2 : Same H H2 := fun b o e => k2 _ _ (S1 _ _ e) (ne_of_none e np) (ne_of_none e nrl0)
    refine ⟨_, rfl, _, rfl, p, dx, _, _, rfl, r2.at_, rf_at, sz_2, fun t ht => ?_⟩
    exact k t v _ (S2.trans (Same.new ht)) (SqT.of upd_same) (dv.mono (Same.new ht))
end

section
--SPLIT
end
abbrev s_law : Stmt := top 73
abbrev N_law : List Str := ["script", "box", "cell", "many", "item", "due", "front", "behind", "numbers", "kept", "control", "back"]
abbrev P_law : List Str := ["script"]
theorem sc_law : FnScope N_law P_law (defScope s_law) := ⟨rfl, rfl, rfl, by decide +kernel, rfl, by decide +kernel, by decide +kernel⟩
section
variable {P : Program} {w : World} {K : PySem.W.Frag} {mg : Str → Option Value} {base : Heap}
theorem ones_of {m : Nat} : ∀ {fs : List Fl2}, (∀ c ∈ fs.map ltr2, c ∈ flds) → (∀ x ∈ fs, Fl2Sm m x) → ∃ gs : List Fld, fs = gs.map .one ∧ ∀ x ∈ gs, FldSm m x
  | [], _, _ => ⟨[], rfl, by simp⟩
  | x :: fs, h, hs => by
    obtain ⟨gs, e1, e2⟩ := ones_of (m := m) (fs := fs) (fun c hc => h c (by rw [List.map_cons]; exact List.mem_cons_of_mem _ hc)) fun y hy => hs y (List.mem_cons_of_mem _ hy)
    obtain ⟨y, rfl⟩ := ltr2_one x fun e => by
      have := h (ltr2 x) (by simp)
      rw [e] at this
      revert this
      decide
    refine ⟨y :: gs, by rw [e1]; rfl, fun z hz => ?_⟩
    rcases List.mem_cons.mp hz with rfl | hz
    · exact hs (.one z) (by simp)
    · exact e2 z hz
theorem ones_d (gs : List Fld) : (gs.map Fl2.one).map fl2D = gs.map fldD := by rw [List.map_map]; rfl
theorem ones_l (gs : List Fld) : (gs.map Fl2.one).map ltr2 = gs.map ltr := by rw [List.map_map]; rfl
theorem FldsE.two : ∀ {gs : List Fld} {ns : List Nat}, FldsE gs ns → FldsE2 (gs.map .one) ns
  | _, _, .nil => .nil
  | _, _, .cons h1 h2 t => .cons h1 h2 (FldsE.two t)
theorem row_at {H : Hp} {tl : Addr} {tab : Tab} (hT : TabAt H tl tab) {j : Nat} (hj : j < tab.length) : ∃ (rs : List Addr) (r : Addr) (kd : Str) (ls : List Nat), H tl = some (.lst (rs.map V.ref)) ∧ (rs.map V.ref)[j]? = some (.ref r) ∧ tab[j]? = some (kd, ls) ∧ H r = some (.lst [.str kd, .str (S ls)]) := by
  obtain ⟨rs, er, hrl, hrs⟩ := hT
  have hjr : rs[j]? = some (rs[j]'(by omega)) := List.getElem?_eq_getElem (by omega)
  obtain ⟨kd, ls, h1, h2⟩ := hrs j _ hjr
  exact ⟨rs, _, kd, ls, er, by rw [List.getElem?_map, hjr]; rfl, h1, h2⟩
theorem obTab_nd : (obTab.map (·.1)).Nodup := by decide +kernel
theorem coTab_nd : (coTab.map (·.1)).Nodup := by decide +kernel
def spLaw (K : PySem.W.Frag) : Sp := fun vs H Q _ => ∃ (a : Addr) (ns : List Int), vs = [.ref a] ∧ SqL K H a (ns.map V.int) ∧ ns.length ≤ 63 ∧ ∀ H', Q (.bl true) H'
theorem ok_law {f : Addr} {fd : FuncData} (F : Fun K "law" "law" s_law f fd) (T : Txt K mg) (U_law_digits : Use P w K mg base CX0 "_law_digits" 2 P_law_digits (spDigits K)) (U_law_cell : Use P w K mg base CX0 "_law_cell" 1 P_law_cell (spCell K)) (U_law_objects : Use P w K mg base CX0 "_law_objects" 1 P_law_objects (spTab obTab)) (U_law_controls : Use P w K mg base CX0 "_law_controls" 1 P_law_controls (spTab coTab))
    (U_law_shape_of : Use P w K mg base CX0 "_law_shape_of" 11 P_law_shape_of (spShapeOf K)) (U_law_shape_numbers : Use P w K mg base CX0 "_law_shape_numbers" 13 P_law_shape_numbers (spLSN2 K)) (U_law_list_is : Use P w K mg base CX0 "_law_list_is" 2 P_law_list_is (spListIs K)) (U_write_object : Use P w K mg base CX0 "write_object" 9 P_write_object (spWOb K obTab)) (U_write_control : Use P w K mg base CX0 "write_control" 6 P_write_control (spWFr K coTab))
    (U_law_row : Use P w K mg base CX0 "_law_row" 2 P_law_row (spLRow K)) (U_law_pair_is : Use P w K mg base CX0 "_law_pair_is" 212 P_law_pair_is (spPairT K)) (U_read_object : Use P w K mg base CX0 "read_object" 14 P_read_object (spRdKind2 K obTab)) (U_read_control : Use P w K mg base CX0 "read_control" 10 P_read_control (spRdKind K coTab)) : FnG P w K mg base CX0 213 f fd P_law (spLaw K) := by
  refine okG0 F sc_law (fun vs H Q E h => ?_) fun cdv A outer s H vs Q E hr hg h => ?_
  · obtain ⟨a, ns, rfl, _⟩ := h
    rfl
  · obtain ⟨a, ns, rfl, hs, hn, k⟩ := h
    refine ⟨_, (pss_cons (ps_set (i := 1) sc_law.nd rfl (Or.inl rfl) (pe_lst (pa_cons (pe_use U_law_digits (hr.mono (by decide)) hg rfl (pa_cons (pv 0) (pa_cons pe_int (pa_cons pe_int pa_nil)))) (pa_cons pe_int pa_nil))))
  (pss_cons (ps_set (i := 2) sc_law.nd rfl (Or.inl rfl) (pe_use U_law_cell (hr.mono (by decide)) hg rfl (pa_cons (pv 0) (pa_cons pe_int pa_nil))))
  (pss_cons (ps_set (i := 3) sc_law.nd rfl (Or.inl rfl) (pe_ix ix_list (pe_lst (pa_cons pe_int (pa_cons pe_int pa_nil))) (pe_op op_mod (pe_callTy call_int1 (by rfl) T.b_int (by decide +kernel) (pa_cons (pv 2) pa_nil)) pe_int) (fun _ _ => rfl)))
  (pss_cons (ps_set (i := 4) sc_law.nd rfl (Or.inl rfl) (pe_use U_law_shape_of (hr.mono (by decide)) hg rfl (pa_cons (pv 1) (pa_cons (pe_ix ix_list (pe_use0 U_law_objects (hr.mono (by decide)) hg rfl) (pe_op op_mod (pe_callTy call_int1 (by rfl) T.b_int (by decide +kernel) (pa_cons (pe_op op_fdiv (pv 2) pe_int) pa_nil)) pe_int) (fun _ _ => rfl)) (pa_cons (pv 3) pa_nil)))))
  (pss_cons (ps_set (i := 5) sc_law.nd rfl (Or.inl rfl) (pe_use U_law_shape_numbers (hr.mono (by decide)) hg rfl (pa_cons (pe_use0 U_law_objects (hr.mono (by decide)) hg rfl) (pa_cons (pv 4) pa_nil))))
  (pss_cons (ps_if (pt_not (pt_val (pe_use U_law_list_is (hr.mono (by decide)) hg rfl (pa_cons (pe_use U_write_object (hr.mono (by decide)) hg rfl (pa_cons (pv 4) pa_nil)) (pa_cons (pv 5) pa_nil)))))
   (pss_one (ps_ret pe_bl))
   pss_nil)
  (pss_cons (ps_set (i := 6) sc_law.nd rfl (Or.inl rfl) (pe_use U_law_row (hr.mono (by decide)) hg rfl (pa_cons (pv 1) pa_nil)))
  (pss_cons (ps_set (i := 7) sc_law.nd rfl (Or.inl rfl) (pe_use U_law_row (hr.mono (by decide)) hg rfl (pa_cons (pv 1) pa_nil)))
  (pss_cons (ps_set (i := 8) sc_law.nd rfl (Or.inl rfl) (pe_op op_cat (pe_op op_cat (pv 6) (pv 5)) (pv 7)))
  (pss_cons (ps_set (i := 9) sc_law.nd rfl (Or.inl rfl) (pe_callTy call_list_of (by rfl) T.b_list (by decide +kernel) (pa_cons (pv 8) pa_nil)))
  (pss_cons (ps_if (PW.pt (pw_or (pt_not (pt_val (pe_use U_law_pair_is (hr.mono (by decide)) hg rfl (pa_cons (pe_use U_read_object (hr.mono (by decide)) hg rfl (pa_cons (pv 8) (pa_cons (pe_callB call_len (by rfl) T.b_len PySem.boot_len (pa_cons (pv 6) pa_nil)) pa_nil))) (pa_cons (pv 4) (pa_cons (pe_op op_add (pe_callB call_len (by rfl) T.b_len PySem.boot_len (pa_cons (pv 6) pa_nil)) (pe_callB call_len (by rfl) T.b_len PySem.boot_len (pa_cons (pv 5) pa_nil))) pa_nil)))))) (pw_or1 (pt_cmpR (op_neD hr.units) (pv 8) (pv 9) (nomark _)))))
   (pss_one (ps_ret pe_bl))
   pss_nil)
  (pss_cons (ps_set (i := 10) sc_law.nd rfl (Or.inl rfl) (pe_use U_law_shape_of (hr.mono (by decide)) hg rfl (pa_cons (pv 1) (pa_cons (pe_ix ix_list (pe_use0 U_law_controls (hr.mono (by decide)) hg rfl) (pe_op op_mod (pe_callTy call_int1 (by rfl) T.b_int (by decide +kernel) (pa_cons (pe_op op_fdiv (pv 2) pe_int) pa_nil)) pe_int) (fun _ _ => rfl)) (pa_cons (pv 3) pa_nil)))))
  (pss_cons (ps_set (i := 5) sc_law.nd rfl (Or.inl rfl) (pe_use U_law_shape_numbers (hr.mono (by decide)) hg rfl (pa_cons (pe_use0 U_law_controls (hr.mono (by decide)) hg rfl) (pa_cons (pv 10) pa_nil))))
  (pss_cons (ps_if (pt_not (pt_val (pe_use U_law_list_is (hr.mono (by decide)) hg rfl (pa_cons (pe_use U_write_control (hr.mono (by decide)) hg rfl (pa_cons (pv 10) pa_nil)) (pa_cons (pv 5) pa_nil)))))
   (pss_one (ps_ret pe_bl))
   pss_nil)
  (pss_cons (ps_set (i := 11) sc_law.nd rfl (Or.inl rfl) (pe_use U_read_control (hr.mono (by decide)) hg rfl (pa_cons (pe_op op_cat (pe_op op_cat (pv 6) (pv 5)) (pv 7)) (pa_cons (pe_callB call_len (by rfl) T.b_len PySem.boot_len (pa_cons (pv 6) pa_nil)) pa_nil))))
  (pss_one (ps_ret (pe_use U_law_pair_is (hr.mono (by decide)) hg rfl (pa_cons (pv 11) (pa_cons (pv 10) (pa_cons (pe_op op_add (pe_callB call_len (by rfl) T.b_len PySem.boot_len (pa_cons (pv 6) pa_nil)) (pe_callB call_len (by rfl) T.b_len PySem.boot_len (pa_cons (pv 5) pa_nil))) pa_nil))))))))))))))))))))), ?_⟩
    refine ⟨_, rfl, a, ns, 1, 50, rfl, hs, by decide, by decide, fun dl H1 nd D => ?_⟩
    obtain ⟨ds, hd, hl, hds, S1⟩ := D
    have hs1 := LK.SqL.mono hs S1
    refine ⟨sz_2, fun p hp0 => ?_⟩
    have B0 : BoxAt (upd H1 p (.lst [.ref dl, .int 0])) p dl := ⟨ds, 0, upd_same, by decide, by rw [upd_ne (ne_of_none hd hp0)]; exact hd, hl, hds⟩
    have hs2 := LK.SqL.mono hs1 (Same.new (o := .lst [.ref dl, .int 0]) hp0)
    generalize upd H1 p (.lst [.ref dl, .int 0]) = H2 at B0 hs2
    clear hd hds S1 hp0 hs1
    refine ⟨_, rfl, a, ns, 0, rfl, hs2, by decide, fun cell => ?_⟩
    obtain ⟨r, hr, hr2⟩ : ∃ r : Nat, cell % 2 = (r : Int) ∧ r < 2 := ⟨(cell % 2).toNat, by omega, by omega⟩
    obtain ⟨m, hm, hm0, hm6⟩ : ∃ m : Nat, ([V.int 1000, V.int 1000000] : List V)[r]? = some (.int (m : Int)) ∧ 0 < m ∧ m ≤ 10 ^ 6 := by
      match r, hr2 with
      | 0, _ => exact ⟨1000, rfl, by decide, by decide⟩
      | 1, _ => exact ⟨1000000, rfl, by decide, by decide⟩
    refine ⟨by decide, fun u hu => ?_⟩
    have B3 := B0.same (Same.new (o := .lst [.int 1000, .int 1000000]) hu)
    refine ⟨_, rfl, .inl ⟨_, rfl, _, _, rfl, rfl, (by show (0 : Int) < 2; decide), u, _, _, .int (m : Int), rfl, rfl, SqL.of upd_same, at_of' (j := r) hr hm, ?_⟩⟩
    generalize upd H2 u (.lst [.int 1000, .int 1000000]) = H3 at B3 ⊢
    obtain ⟨j, hj, hj2⟩ : ∃ j : Nat, cell / 2 % 10 = (j : Int) ∧ j < 10 := ⟨(cell / 2 % 10).toNat, by omega, by omega⟩
    obtain ⟨jc, hjc, hjc2⟩ : ∃ j : Nat, cell / 20 % 10 = (j : Int) ∧ j < 10 := ⟨(cell / 20 % 10).toNat, by omega, by omega⟩
    refine ⟨_, rfl, rfl, fun tl H4 S4 hT => ?_⟩
    have B4 := B3.same S4
    obtain ⟨rs, rw0, kd, ls, er, hjv, hrow, erow⟩ := row_at hT (j := j) (by rw [obTab_n]; exact hj2)
    have hok := obTab_ok _ (List.mem_of_getElem? hrow)
    refine ⟨_, rfl, _, _, rfl, rfl, ⟨by decide, by decide⟩, .inl ⟨_, rfl, _, _, rfl, rfl, (by show (0 : Int) < 10; decide), tl, _, _, .ref rw0, rfl, rfl, SqL.of er, at_of' (j := j) hj hjv, _, rfl, p, dl, rw0, kd, ls, m, rfl, erow, hok.1, hok.2, hm0, hm6, B4, fun v fs H5 dv hls hsm B5 K5 => ?_⟩⟩
    subst hls
    obtain ⟨fn, hE, hfnl⟩ := flds2_e hm6 hsm
    have hfl : fs.length ≤ 10 := by
      have := hok.2
      simpa using this
    have hfnl : fn.length ≤ 400000 := Nat.le_trans hfnl (ob_sum (List.mem_of_getElem? hrow))
    have hcj := cnt_b (n := j) (by omega)
    have hdl : (cnt j ++ fn).length ≤ 400010 := by rw [List.length_append]; omega
    refine ⟨rfl, fun tl2 H52 S52 hT2 => ⟨_, rfl, tl2, v, obTab, kd, fs, j, fn, m, rfl, hT2, obTab_nd, by rw [obTab_n]; decide, dv.mono S52, hrow, hsm, hm6, hE, hfnl, hfl, fun due H6 nd6 S6 ed => ?_⟩⟩
    have dv6 := (dv.mono S52).mono S6
    have B52 := B5.same S52
    have B6 := B52.same S6
    have ndp : due ≠ p := (B52.ne_new nd6).1
    refine ⟨_, rfl, v, kd, fs, j, fn, m, rfl, dv6, hrow, hsm, hm6, hE, hfnl, fun wl H7 _ S7 ew => ?_⟩
    have ed7 := S7 _ _ ed
    generalize hdue : cnt j ++ fn = dn at *
    refine ⟨_, rfl, wl, due, dn.map (fun (d : Nat) => (d : Int)), rfl, by rw [← nV_int]; exact ew, by rw [← nV_int]; exact ed7, by rw [List.length_map]; omega, true, rfl, iteFb rfl ?_⟩
    have dv7 := dv6.mono S7
    have B7 := B6.same S7
    clear S7 S6 ew ed dv6 dv B6 B5 K5 B4 B3 hT hT2 S52 B52 er erow
    -- the rows around
    refine ⟨_, rfl, p, dl, rfl, B7, fun fl H8 fr nf B8 K8 ef lf => ?_⟩
    have fp := (B7.ne_new nf).1
    have dv8 := dv7.keepT (Keep.keepT K8 B7.at_)
    have ed8 := K8 _ _ ed7 ndp
    clear dv7 ed7 K8 B7 nf
    refine ⟨_, rfl, p, dl, rfl, B8, fun bl H9 bh nb B9 K9 eb lb => ?_⟩
    have bp := (B8.ne_new nb).1
    have dv9 := dv8.keepT (Keep.keepT K9 B8.at_)
    have ed9 := K9 _ _ ed8 ndp
    have ef9 := K9 _ _ ef fp
    clear dv8 ed8 ef K9 B8 nb
    refine ⟨_, rfl, _, rfl, fl, due, _, _, rfl, rfl, ef9, ed9, by rw [nV_len, nV_len]; exact Nat.le_trans (show fr.length + dn.length ≤ 500000 by omega) (by decide), fun c1 h1 => ?_⟩
    have T1 := Same.new (o := .lst (nV fr ++ nV dn)) h1
    have ec1 : (upd H9 c1 (.lst (nV fr ++ nV dn))) c1 = some (.lst (nV fr ++ nV dn)) := upd_same
    have ef10 := T1 _ _ ef9
    have ed10 := T1 _ _ ed9
    have eb10 := T1 _ _ eb
    have dv10 := dv9.mono T1
    have B10 := B9.same T1
    generalize upd H9 c1 (.lst (nV fr ++ nV dn)) = H10 at ec1 ef10 ed10 eb10 dv10 B10 ⊢
    clear T1 ef9 ed9 eb dv9 B9 h1
    refine ⟨_, rfl, c1, bl, _, _, rfl, rfl, ec1, eb10, by rw [List.length_append, nV_len, nV_len, nV_len]; exact Nat.le_trans (show fr.length + dn.length + bh.length ≤ 600000 by omega) (by decide), fun ml hml => ?_⟩
    have T2 := Same.new (o := .lst (nV fr ++ nV dn ++ nV bh)) hml
    have em : (upd H10 ml (.lst (nV fr ++ nV dn ++ nV bh))) ml = some (.lst (nV (fr ++ dn ++ bh))) := by rw [upd_same, nV_app, nV_app]
    have ef11 := T2 _ _ ef10
    have ed11 := T2 _ _ ed10
    have eb11 := T2 _ _ eb10
    have dv11 := dv10.mono T2
    have B11 := B10.same T2
    generalize upd H10 ml (.lst (nV fr ++ nV dn ++ nV bh)) = H11 at em ef11 ed11 eb11 dv11 B11 ⊢
    clear T2 ec1 ef10 ed10 eb10 dv10 B10 hml
    refine ⟨_, rfl, ml, _, rfl, .inl (SqL.of em), fun kl hkl => ?_⟩
    have T3 := Same.new (o := .lst (nV (fr ++ dn ++ bh))) hkl
    have ek := upd_same (H := H11) (a := kl) (o := HO.lst (nV (fr ++ dn ++ bh)))
    have em12 := T3 _ _ em
    have ef12 := T3 _ _ ef11
    have ed12 := T3 _ _ ed11
    have eb12 := T3 _ _ eb11
    have dv12 := dv11.mono T3
    have B12 := B11.same T3
    generalize upd H11 kl _ = H12 at ek em12 ef12 ed12 eb12 dv12 B12 ⊢
    clear T3 em ef11 ed11 eb11 dv11 B11 hkl
    have hwl : (fr ++ dn ++ bh).length ≤ 1000000 := by rw [List.length_append, List.length_append]; omega
    have hdrop : (fr ++ dn ++ bh).drop fr.length = dn ++ bh := by rw [List.append_assoc, List.drop_left]
    have wdf : Wd 209 (.tuple (.str kd :: fs.map fl2D)) := (Wd.tup (n := 6) (by rw [List.length_cons, List.length_map]; omega) fun d hd => by
      rcases List.mem_cons.mp hd with rfl | hd
      · exact .str _
      · obtain ⟨x, hx, rfl⟩ := List.mem_map.mp hd
        exact fl2_wd (hsm x hx)).up (by decide)
    refine ⟨_, rfl, _, rfl, _, _, rfl, .inl ⟨_, SqL.of ef12, rfl⟩, ml, fr ++ dn ++ bh, bh, fr.length, m, j, kd, fs, fn, by rw [nV_len], em12, hwl, by rw [hdue]; exact hdrop, hrow, hsm, hm6, hE, fun q u H13 S13 hq hu => ?_⟩
    rw [hdue] at hq
    refine ⟨_, rfl, _, rfl, _, _, rfl, .inl ⟨_, SqL.of (S13 _ _ ef12), rfl⟩, _, rfl, _, _, rfl, .inl ⟨_, SqL.of (S13 _ _ ed12), rfl⟩, _, _, rfl, rfl, q, u, v, _, ((fr.length + dn.length : Nat) : Int), by rw [nV_len, nV_len]; rfl, hq, hu, dv12.mono S13, wdf, true, rfl, iteFb rfl ?_⟩
    refine ⟨_, rfl, _, rfl, _, _, .lst (SqL.of (S13 _ _ em12)) (dp_nV _), .lst (SqL.of (S13 _ _ ek)) (dp_nV _), sh_natL _, sh_natL _, ?_⟩
    rw [eqv_self (SeqAt.canLay_of_shaped (sh_natL _))]
    refine ⟨_, rfl, iteFb rfl ?_⟩
    have ef13 := S13 _ _ ef12
    have eb13 := S13 _ _ eb12
    have B13 := B12.same S13
    clear S13 hq hu dv12 ek em12 ef12 ed12 eb12 B12 wdf hdrop hwl hE hsm hdue hdl hfnl
    -- a control
    refine ⟨_, rfl, rfl, fun tl3 H14 S14 hT => ?_⟩
    have B14 := B13.same S14
    have ef14 := S14 _ _ ef13
    have eb14 := S14 _ _ eb13
    clear S14 ef13 eb13 B13
    obtain ⟨rs, rw0, kd, ls, er, hjv, hrow, erow⟩ := row_at hT (j := jc) (by rw [coTab_n]; exact hjc2)
    have hok := coTab_ok _ (List.mem_of_getElem? hrow)
    refine ⟨_, rfl, _, _, rfl, rfl, ⟨by decide, by decide⟩, .inl ⟨_, rfl, _, _, rfl, rfl, (by show (0 : Int) < 10; decide), tl3, _, _, .ref rw0, rfl, rfl, SqL.of er, at_of' (j := jc) hjc hjv, _, rfl, p, dl, rw0, kd, ls, m, rfl, erow, (fun c hc => List.mem_cons_of_mem _ (hok.1 c hc)), hok.2, hm0, hm6, B14, fun v fs H5 dv hls hsm B5 K5 => ?_⟩⟩
    subst hls
    obtain ⟨gs, rfl, hgs⟩ := ones_of hok.1 hsm
    have ef5 := K5 _ _ ef14 fp
    have eb5 := K5 _ _ eb14 bp
    obtain ⟨fn, hE, hfnl⟩ := flds_e hm6 hgs
    have hfl : gs.length ≤ 10 := by
      have := hok.2
      simpa using this
    have hfnl : fn.length ≤ 100000 := by
      have := Nat.mul_le_mul_right 10000 hfl
      omega
    have hcj := cnt_b (n := jc) (by omega)
    have hdl : (cnt jc ++ fn).length ≤ 200000 := by rw [List.length_append]; omega
    have hrow0 : coTab[jc]? = some (kd, gs.map ltr) := by rw [← ones_l]; exact hrow
    refine ⟨rfl, fun tl4 H52 S52 hT4 => ⟨_, rfl, tl4, v, coTab, kd, gs.map .one, jc, fn, m, rfl, hT4, coTab_nd, by rw [coTab_n]; decide, dv.mono S52, hrow, hsm, hm6, hE.two, by omega, by rw [List.length_map]; exact hfl, fun due2 H6 nd6 S6 ed => ?_⟩⟩
    have S56 := S52.trans S6
    have dv6 := dv.mono S56
    rw [ones_d] at dv6
    refine ⟨_, rfl, v, kd, gs, jc, fn, m, rfl, dv6, hrow0, hgs, hm6, hE, fun wl2 H7 _ S7 ew => ?_⟩
    have ed7 := S7 _ _ ed
    generalize hdue : cnt jc ++ fn = dn at *
    refine ⟨_, rfl, wl2, due2, dn.map (fun (d : Nat) => (d : Int)), rfl, by rw [← nV_int]; exact ew, by rw [← nV_int]; exact ed7, by rw [List.length_map]; omega, true, rfl, iteFb rfl ?_⟩
    have S57 := S56.trans S7
    have dv7 := dv6.mono S7
    have ef7 := S57 _ _ ef5
    have eb7 := S57 _ _ eb5
    clear S7 S6 S56 S57 S52 ew ed dv6 dv B5 K5 B14 hT hT4 er erow ef5 eb5 ef14 eb14
    refine ⟨_, rfl, _, rfl, fl, due2, _, _, rfl, rfl, ef7, ed7, by rw [nV_len, nV_len]; exact Nat.le_trans (show fr.length + dn.length ≤ 500000 by omega) (by decide), fun c2 h2 => ?_⟩
    have T1 := Same.new (o := .lst (nV fr ++ nV dn)) h2
    have ec2 : (upd H7 c2 (.lst (nV fr ++ nV dn))) c2 = some (.lst (nV fr ++ nV dn)) := upd_same
    have ef8 := T1 _ _ ef7
    have ed8 := T1 _ _ ed7
    have eb8 := T1 _ _ eb7
    have dv8 := dv7.mono T1
    generalize upd H7 c2 (.lst (nV fr ++ nV dn)) = H8 at ec2 ef8 ed8 eb8 dv8 ⊢
    clear T1 ef7 ed7 eb7 dv7 h2
    refine ⟨_, rfl, c2, bl, _, _, rfl, rfl, ec2, eb8, by rw [List.length_append, nV_len, nV_len, nV_len]; exact Nat.le_trans (show fr.length + dn.length + bh.length ≤ 600000 by omega) (by decide), fun m2 hm2 => ?_⟩
    have T2 := Same.new (o := .lst (nV fr ++ nV dn ++ nV bh)) hm2
    have em : (upd H8 m2 (.lst (nV fr ++ nV dn ++ nV bh))) m2 = some (.lst (nV (fr ++ dn ++ bh))) := by rw [upd_same, nV_app, nV_app]
    have ef9 := T2 _ _ ef8
    have ed9 := T2 _ _ ed8
    have dv9 := dv8.mono T2
    generalize upd H8 m2 (.lst (nV fr ++ nV dn ++ nV bh)) = H9 at em ef9 ed9 dv9 ⊢
    clear T2 ec2 ef8 ed8 eb8 dv8 hm2
    have hwl : (fr ++ dn ++ bh).length ≤ 1000000 := by rw [List.length_append, List.length_append]; omega
    have hdrop : (fr ++ dn ++ bh).drop fr.length = dn ++ bh := by rw [List.append_assoc, List.drop_left]
    have wdf : Wd 209 (.tuple (.str kd :: gs.map fldD)) := (Wd.tup (n := 4) (by rw [List.length_cons, List.length_map]; omega) fun d hd => by
      rcases List.mem_cons.mp hd with rfl | hd
      · exact .str _
      · obtain ⟨x, hx, rfl⟩ := List.mem_map.mp hd
        exact fld_wd (hgs x hx)).up (by decide)
    refine ⟨_, rfl, _, _, rfl, .inl ⟨_, SqL.of ef9, rfl⟩, m2, fr ++ dn ++ bh, bh, fr.length, m, jc, kd, gs, fn, by rw [nV_len], em, hwl, by rw [hdue]; exact hdrop, hrow0, hgs, hm6, hE, fun q u H13 S13 hq hu => ?_⟩
    rw [hdue] at hq
    exact ⟨_, rfl, _, rfl, _, rfl, _, _, rfl, .inl ⟨_, SqL.of (S13 _ _ ef9), rfl⟩, _, rfl, _, _, rfl, .inl ⟨_, SqL.of (S13 _ _ ed9), rfl⟩, _, _, rfl, rfl, q, u, v, _, ((fr.length + dn.length : Nat) : Int), by rw [nV_len, nV_len]; rfl, hq, hu, dv9.mono S13, wdf, k _⟩
end

theorem walk_mk {l : PySem.W.OpenLaw} {w : World} {K : PySem.W.Frag} {h : Heap} {mg : Str → Option Value} {fa : Addr} (X : K.In h) (G : h.Ns mainGlobals mg) (hfa : mg "law" = some (.ref fa))
    {C_NumberReader : Addr} (k_NumberReader : ClsK K "NumberReader" ["numbers", "at", "references"] C_NumberReader)
    (f0 : HasFn K "_law_cell" s_law_cell)
    (f1 : HasFn K "_law_digits" s_law_digits)
    (f2 : HasFn K "_law_objects" s_law_objects)
    (f3 : HasFn K "_law_controls" s_law_controls)
    (f4 : HasFn K "_law_draw" s_law_draw)
    (f5 : HasFn K "_law_number" s_law_number)
    (f6 : HasFn K "_law_signs" s_law_signs)
    (f7 : HasFn K "_law_text" s_law_text)
    (f8 : HasFn K "_law_name" s_law_name)
    (f9 : HasFn K "_law_value" s_law_value)
    (f10 : HasFn K "_law_tree" s_law_tree)
    (f11 : HasFn K "_law_frames" s_law_frames)
    (f12 : HasFn K "_law_field" s_law_field)
    (f13 : HasFn K "_law_shape_of" s_law_shape_of)
    (f14 : HasFn K "_law_shape" s_law_shape)
    (f15 : HasFn K "_law_field" s_law_field)
    (f16 : HasFn K "_law_shape_of" s_law_shape_of)
    (f17 : HasFn K "_law_count" s_law_count)
    (f18 : HasFn K "_law_integer" s_law_integer)
    (f19 : HasFn K "_law_string" s_law_string)
    (f20 : HasFn K "_law_value_numbers" s_law_value_numbers)
    (f21 : HasFn K "_law_tree_numbers" s_law_tree_numbers)
    (f22 : HasFn K "_law_field_numbers" s_law_field_numbers)
    (f23 : HasFn K "_law_shape_numbers" s_law_shape_numbers)
    (f24 : HasFn K "_law_field_numbers" s_law_field_numbers)
    (f25 : HasFn K "_law_shape_numbers" s_law_shape_numbers)
    (f26 : HasFn K "_law_is_integer" s_law_is_integer)
    (f27 : HasFn K "_law_list_is" s_law_list_is)
    {A_write_count : Addr} (f28 : HasFnA K "write_count" s_write_count A_write_count)
    {A_write_string : Addr} (f29 : HasFnA K "write_string" s_write_string A_write_string)
    {A_write_integer : Addr} (f30 : HasFnA K "write_integer" s_write_integer A_write_integer)
    {A_write_value : Addr} (f31 : HasFnA K "write_value" s_write_value A_write_value)
    {A_write_values : Addr} (f32 : HasFnA K "_write_values" s_write_values A_write_values)
    {A_write_pairs : Addr} (f33 : HasFnA K "_write_pairs" s_write_pairs A_write_pairs)
    {A_write_named : Addr} (f34 : HasFnA K "_write_named" s_write_named A_write_named)
    {A_write_tree : Addr} (f35 : HasFnA K "write_tree" s_write_tree A_write_tree)
    {A_write_number_or_none : Addr} (f36 : HasFnA K "_write_number_or_none" s_write_number_or_none A_write_number_or_none)
    {A_write_signal : Addr} (f37 : HasFnA K "_write_signal" s_write_signal A_write_signal)
    (f38 : HasFn K "_written_fields" s_written_fields)
    (f39 : HasFn K "write_frame" s_write_frame)
    {A_write_frames : Addr} (f40 : HasFnA K "_write_frames" s_write_frames A_write_frames)
    (f41 : HasFn K "_written_fields" s_written_fields)
    (f42 : HasFn K "write_object" s_write_object)
    (f43 : HasFn K "write_control" s_write_control)
    (f44 : HasFn K "_law_row" s_law_row)
    (f45 : HasFn K "_law_same" s_law_same)
    (f46 : HasFn K "_law_pair_is" s_law_pair_is)
    (f47 : HasMeth K C_NumberReader "__init__" "NumberReader.__init__" s_NumberReader___init__)
    (f48 : HasMeth K C_NumberReader "read_number" "NumberReader.read_number" s_NumberReader_read_number)
    (f49 : HasMeth K C_NumberReader "read_count" "NumberReader.read_count" s_NumberReader_read_count)
    (f50 : HasMeth K C_NumberReader "read_count_below" "NumberReader.read_count_below" s_NumberReader_read_count_below)
    (f51 : HasMeth K C_NumberReader "read_integer" "NumberReader.read_integer" s_NumberReader_read_integer)
    (f52 : HasMeth K C_NumberReader "read_string" "NumberReader.read_string" s_NumberReader_read_string)
    (f53 : HasMeth K C_NumberReader "read_reference" "NumberReader.read_reference" s_NumberReader_read_reference)
    (f54 : HasMeth K C_NumberReader "read_value" "NumberReader.read_value" s_NumberReader_read_value)
    (f55 : HasFn K "_closed" s_closed)
    (f56 : HasMeth K C_NumberReader "_read_leaf" "NumberReader._read_leaf" s_NumberReader__read_leaf)
    (f57 : HasMeth K C_NumberReader "read_tree" "NumberReader.read_tree" s_NumberReader_read_tree)
    (f58 : HasMeth K C_NumberReader "read_reference" "NumberReader.read_reference" s_NumberReader_read_reference)
    (f59 : HasMeth K C_NumberReader "_read_signal" "NumberReader._read_signal" s_NumberReader__read_signal)
    (f60 : HasMeth K C_NumberReader "_read_item" "NumberReader._read_item" s_NumberReader__read_item)
    (f61 : HasMeth K C_NumberReader "_read_field" "NumberReader._read_field" s_NumberReader__read_field)
    (f62 : HasMeth K C_NumberReader "_with_fields" "NumberReader._with_fields" s_NumberReader__with_fields)
    (f63 : HasMeth K C_NumberReader "read_frame" "NumberReader.read_frame" s_NumberReader_read_frame)
    (f64 : HasMeth K C_NumberReader "_read_item" "NumberReader._read_item" s_NumberReader__read_item)
    (f65 : HasMeth K C_NumberReader "_read_field" "NumberReader._read_field" s_NumberReader__read_field)
    (f66 : HasMeth K C_NumberReader "_with_fields" "NumberReader._with_fields" s_NumberReader__with_fields)
    (f67 : HasMeth K C_NumberReader "read_object" "NumberReader.read_object" s_NumberReader_read_object)
    (f68 : HasFn K "read_object" s_read_object)
    (f69 : HasMeth K C_NumberReader "read_control" "NumberReader.read_control" s_NumberReader_read_control)
    (f70 : HasFn K "read_control" s_read_control)
    (f71 : HasFn K "law" s_law)
    (c0 : HasInt K "BASE_coding" 128)
    (c1 : HasInt K "BASE_reader" 128)
    (c2 : HasInt K "NUMBER_END" 256)
    (c3 : HasInt K "MOST_DIGITS" 40)
    (c4 : HasInt K "MOST_ENTRIES" 1000)
    (c5 : HasInt K "MOST_IN_NAME" 200)
    (c6 : HasInt K "INTEGER_END" (2 ^ 256))
    (c7 : HasInt K "TREES" 5)
    (c8 : HasInt K "MOST_TUPLES_AROUND" 200)
    (c9 : HasTup K "VALUES" ([("none" : Str), "bool", "bool", "int", "text", "span", "built", "host", "ref"].map V.str))
    (c10 : HasTup K "SIGNALS" ([("" : Str), "break", "continue", "return", "raise"].map V.str))
    (c11 : HasStr K "CHARACTERS" (fun z => z = LK.chStr))
    (b_len : PySem.W.nsIn K mainGlobals "len" = some none)
    (b_int : PySem.W.nsIn K mainGlobals "int" = some none)
    (b_range : PySem.W.nsIn K mainGlobals "range" = some none)
    (b_list : PySem.W.nsIn K mainGlobals "list" = some none)
    (b_tuple : PySem.W.nsIn K mainGlobals "tuple" = some none)
    (b_isinstance : PySem.W.nsIn K mainGlobals "isinstance" = some none)
    (b_bool : PySem.W.nsIn K mainGlobals "bool" = some none)
    (b_str : PySem.W.nsIn K mainGlobals "str" = some none)
    (b_abs : PySem.W.nsIn K mainGlobals "abs" = some none)
    (b_reversed : PySem.W.nsIn K mainGlobals "reversed" = some none)
    (b_zip : PySem.W.nsIn K mainGlobals "zip" = some none)
    (d_OBJECTS : HasDct l.prog w K "OBJECTS" (txtKV objectsL))
    (d_WRITERS : HasDct l.prog w K "WRITERS" (fnKV [("v", A_write_value), ("V", A_write_values), ("W", A_write_pairs), ("X", A_write_named), ("t", A_write_tree), ("a", A_write_count), ("b", A_write_number_or_none), ("n", A_write_integer), ("x", A_write_string), ("s", A_write_signal), ("F", A_write_frames)]))
    (d_VALUE_NUMBERS : HasDct l.prog w K "VALUE_NUMBERS" (valKV [("none", V.int 0), ("int", V.int 3), ("text", V.int 4), ("span", V.int 5), ("built", V.int 6), ("host", V.int 7), ("ref", V.int 8)]))
    (d_SIGNAL_NUMBERS : HasDct l.prog w K "SIGNAL_NUMBERS" (valKV snum))
    (d_FIELDS : HasDct l.prog w K "FIELDS" (txtKV fieldsL))
    (d_CONTROLS : HasDct l.prog w K "CONTROLS" (txtKV controlsL))
    {C_BadNumbers : Addr} (bad : HasBad l.prog K s_BadNumbers___init__ C_BadNumbers) :
    ∃ fd : FuncData, (∀ (s : Shared) (v : Value), BindsTo s fd ⟨[v], []⟩ [("script", v)]) ∧ ∀ base : Heap, K.In base → base.Ns mainGlobals mg → FnG l.prog w K mg base CX0 213 fa fd ["script"] (spLaw K) := by
  have T : Txt K mg := ⟨c0.g X G, c1.g X G, c2.g X G, c3.g X G, c4.g X G, c5.g X G, c6.g X G, c7.g X G, c8.g X G, c9.g X G, c10.g X G, (by obtain ⟨z, g, e⟩ := c11.g X G; subst e; exact g), PySem.W.mg_none_of X G b_len, PySem.W.mg_none_of X G b_int, PySem.W.mg_none_of X G b_range, PySem.W.mg_none_of X G b_list, PySem.W.mg_none_of X G b_tuple, PySem.W.mg_none_of X G b_isinstance, PySem.W.mg_none_of X G b_bool, PySem.W.mg_none_of X G b_str, PySem.W.mg_none_of X G b_abs, PySem.W.mg_none_of X G b_reversed, PySem.W.mg_none_of X G b_zip⟩
  refine law_use f71 X G hfa (fun _ _ _ _ _ _ _ => rfl) fun base X' G' fd F => ?_
  have U_OBJECTS : UseD l.prog w K mg "OBJECTS" _ := d_OBJECTS.g X G
  have U_WRITERS : UseD l.prog w K mg "WRITERS" _ := d_WRITERS.g X G
  have U_VALUE_NUMBERS : UseD l.prog w K mg "VALUE_NUMBERS" _ := d_VALUE_NUMBERS.g X G
  have U_SIGNAL_NUMBERS : UseD l.prog w K mg "SIGNAL_NUMBERS" _ := d_SIGNAL_NUMBERS.g X G
  have U_FIELDS : UseD l.prog w K mg "FIELDS" _ := d_FIELDS.g X G
  have U_CONTROLS : UseD l.prog w K mg "CONTROLS" _ := d_CONTROLS.g X G
  obtain ⟨B_BadNumbers, U_BadNumbers⟩ := mk_useB (P := l.prog) (w := w) (mg := mg) (base := base) bad X G (nscope_by (by decide +kernel)) rfl rfl rfl rfl (fun env => ⟨_, rfl⟩) (fun _ _ _ _ _ us hl => match us, hl with | [_, _], _ => rfl)
  have UC_NumberReader := k_NumberReader.g X G
  have U_law_cell := mk_use (P := l.prog) (w := w) (mg := mg) (base := base) f0 X G (fun _ _ _ _ _ _ us hl => match us, hl with | [_, _], _ => rfl) fun f fd F => ok_cell F T 
  have U_law_digits := mk_use (P := l.prog) (w := w) (mg := mg) (base := base) f1 X G (fun _ _ _ _ _ _ us hl => match us, hl with | [_, _, _], _ => rfl) fun f fd F => ok_digits F T U_law_cell
  have U_law_objects := mk_use (P := l.prog) (w := w) (mg := mg) (base := base) f2 X G (fun _ _ _ _ _ _ us hl => match us, hl with | [], _ => rfl) fun f fd F => ok_objects F T 
  have U_law_controls := mk_use (P := l.prog) (w := w) (mg := mg) (base := base) f3 X G (fun _ _ _ _ _ _ us hl => match us, hl with | [], _ => rfl) fun f fd F => ok_controls F T 
  have U_law_draw := mk_use (P := l.prog) (w := w) (mg := mg) (base := base) f4 X G (fun _ _ _ _ _ _ us hl => match us, hl with | [_, _], _ => rfl) fun f fd F => ok_draw F T 
  have U_law_number := mk_use (P := l.prog) (w := w) (mg := mg) (base := base) f5 X G (fun _ _ _ _ _ _ us hl => match us, hl with | [_], _ => rfl) fun f fd F => ok_number F T U_law_draw
  have U_law_signs := mk_use (P := l.prog) (w := w) (mg := mg) (base := base) f6 X G (fun _ _ _ _ _ _ us hl => match us, hl with | [], _ => rfl) fun f fd F => ok_signs F T 
  have U_law_text := mk_use (P := l.prog) (w := w) (mg := mg) (base := base) f7 X G (fun _ _ _ _ _ _ us hl => match us, hl with | [_, _], _ => rfl) fun f fd F => ok_text F T U_law_signs U_law_draw
  have U_law_name := mk_use (P := l.prog) (w := w) (mg := mg) (base := base) f8 X G (fun _ _ _ _ _ _ us hl => match us, hl with | [_], _ => rfl) fun f fd F => ok_name F T U_law_draw
  have U_law_value := mk_use (P := l.prog) (w := w) (mg := mg) (base := base) f9 X G (fun _ _ _ _ _ _ us hl => match us, hl with | [_, _], _ => rfl) fun f fd F => ok_value F T U_law_draw U_law_number U_law_text U_law_name
  have U_law_tree := mk_useR (P := l.prog) (w := w) (mg := mg) (base := base) (spTreeR K) 2 f10 X G (fun _ _ _ _ _ _ us hl => match us, hl with | [_, _], _ => rfl) (fun _ _ _ _ h => h) (fun n U_law_tree f fd F => ok_treeR F T U_law_tree U_law_draw U_law_text U_law_number U_law_name) 4
  have U_law_frames := mk_use (P := l.prog) (w := w) (mg := mg) (base := base) f11 X G (fun _ _ _ _ _ _ us hl => match us, hl with | [], _ => rfl) fun f fd F => ok_frames F T 
  have U_law_field0 := mk_use (P := l.prog) (w := w) (mg := mg) (base := base) f12 X G (fun _ _ _ _ _ _ us hl => match us, hl with | [_, _, _], _ => rfl) fun f fd F => ok_field0 F T U_law_draw U_law_value U_law_name U_law_number U_law_tree
  have U_law_shape_of0 := mk_use (P := l.prog) (w := w) (mg := mg) (base := base) f13 X G (fun _ _ _ _ _ _ us hl => match us, hl with | [_, _, _], _ => rfl) fun f fd F => ok_shapeof0 F T U_law_field0
  have U_law_shape := mk_use (P := l.prog) (w := w) (mg := mg) (base := base) f14 X G (fun _ _ _ _ _ _ us hl => match us, hl with | [_, _, _], _ => rfl) fun f fd F => ok_shape F T U_law_draw U_law_shape_of0
  have U_law_field := mk_use (P := l.prog) (w := w) (mg := mg) (base := base) f15 X G (fun _ _ _ _ _ _ us hl => match us, hl with | [_, _, _], _ => rfl) fun f fd F => ok_field F T U_law_draw U_law_value U_law_name U_law_number U_law_tree U_law_frames U_law_shape
  have U_law_shape_of := mk_use (P := l.prog) (w := w) (mg := mg) (base := base) f16 X G (fun _ _ _ _ _ _ us hl => match us, hl with | [_, _, _], _ => rfl) fun f fd F => ok_shapeof F T U_law_field
  have U_law_count := mk_use (P := l.prog) (w := w) (mg := mg) (base := base) f17 X G (fun _ _ _ _ _ _ us hl => match us, hl with | [_], _ => rfl) fun f fd F => ok_lcount F T 
  have U_law_integer := mk_use (P := l.prog) (w := w) (mg := mg) (base := base) f18 X G (fun _ _ _ _ _ _ us hl => match us, hl with | [_], _ => rfl) fun f fd F => ok_linteger F T U_law_count
  have U_law_string := mk_use (P := l.prog) (w := w) (mg := mg) (base := base) f19 X G (fun _ _ _ _ _ _ us hl => match us, hl with | [_], _ => rfl) fun f fd F => ok_lstring F T U_law_signs U_law_count
  have U_law_value_numbers := mk_use (P := l.prog) (w := w) (mg := mg) (base := base) f20 X G (fun _ _ _ _ _ _ us hl => match us, hl with | [_], _ => rfl) fun f fd F => ok_lvnum F T U_law_integer U_law_string U_law_count
  have U_law_tree_numbers := mk_useR (P := l.prog) (w := w) (mg := mg) (base := base) (spLTree K) 3 f21 X G (fun _ _ _ _ _ _ us hl => match us, hl with | [_], _ => rfl) (fun _ _ _ _ h => h) (fun n U_law_tree_numbers f fd F => ok_ltree F T U_law_tree_numbers U_law_count U_law_integer U_law_string) 6
  have U_law_field_numbers0 := mk_use (P := l.prog) (w := w) (mg := mg) (base := base) f22 X G (fun _ _ _ _ _ _ us hl => match us, hl with | [_, _], _ => rfl) fun f fd F => ok_lfn0 F T U_law_value_numbers U_law_tree_numbers U_law_count U_law_integer U_law_string
  have U_law_shape_numbers0 := mk_use (P := l.prog) (w := w) (mg := mg) (base := base) f23 X G (fun _ _ _ _ _ _ us hl => match us, hl with | [_, _], _ => rfl) fun f fd F => ok_lsn0 F T U_law_count U_law_field_numbers0
  have U_law_field_numbers := mk_use (P := l.prog) (w := w) (mg := mg) (base := base) f24 X G (fun _ _ _ _ _ _ us hl => match us, hl with | [_, _], _ => rfl) fun f fd F => ok_lfn2 F T U_law_value_numbers U_law_tree_numbers U_law_count U_law_integer U_law_string U_law_frames U_law_shape_numbers0
  have U_law_shape_numbers := mk_use (P := l.prog) (w := w) (mg := mg) (base := base) f25 X G (fun _ _ _ _ _ _ us hl => match us, hl with | [_, _], _ => rfl) fun f fd F => ok_lsn2 F T U_law_count U_law_field_numbers
  have U_law_is_integer := mk_use (P := l.prog) (w := w) (mg := mg) (base := base) f26 X G (fun _ _ _ _ _ _ us hl => match us, hl with | [_], _ => rfl) fun f fd F => ok_isint F T 
  have U_law_list_is := mk_use (P := l.prog) (w := w) (mg := mg) (base := base) f27 X G (fun _ _ _ _ _ _ us hl => match us, hl with | [_, _], _ => rfl) fun f fd F => ok_listis F T U_law_is_integer
  have UA_write_count := mk_useA (P := l.prog) (w := w) (mg := mg) (base := base) f28 X G (fun _ _ _ _ _ _ us hl => match us, hl with | [_], _ => rfl) fun f fd F => ok_wcount F T 
  have U_write_count := UA_write_count.use
  have UA_write_string := mk_useA (P := l.prog) (w := w) (mg := mg) (base := base) f29 X G (fun _ _ _ _ _ _ us hl => match us, hl with | [_], _ => rfl) fun f fd F => ok_wstr F T U_write_count
  have U_write_string := UA_write_string.use
  have UA_write_integer := mk_useA (P := l.prog) (w := w) (mg := mg) (base := base) f30 X G (fun _ _ _ _ _ _ us hl => match us, hl with | [_], _ => rfl) fun f fd F => ok_wint F T U_write_count
  have U_write_integer := UA_write_integer.use
  have UA_write_value := mk_useA (P := l.prog) (w := w) (mg := mg) (base := base) f31 X G (fun _ _ _ _ _ _ us hl => match us, hl with | [_], _ => rfl) fun f fd F => ok_wvalue F T U_VALUE_NUMBERS U_write_string U_write_count U_write_integer
  have U_write_value := UA_write_value.use
  have UA_write_values := mk_useA (P := l.prog) (w := w) (mg := mg) (base := base) f32 X G (fun _ _ _ _ _ _ us hl => match us, hl with | [_], _ => rfl) fun f fd F => ok_wvalues F T U_write_count U_write_value
  have U_write_values := UA_write_values.use
  have UA_write_pairs := mk_useA (P := l.prog) (w := w) (mg := mg) (base := base) f33 X G (fun _ _ _ _ _ _ us hl => match us, hl with | [_], _ => rfl) fun f fd F => ok_wpairs F T U_write_count U_write_value
  have U_write_pairs := UA_write_pairs.use
  have UA_write_named := mk_useA (P := l.prog) (w := w) (mg := mg) (base := base) f34 X G (fun _ _ _ _ _ _ us hl => match us, hl with | [_], _ => rfl) fun f fd F => ok_wnamed F T U_write_count U_write_string U_write_value
  have U_write_named := UA_write_named.use
  have UA_write_tree := mk_useA (P := l.prog) (w := w) (mg := mg) (base := base) f35 X G (fun _ _ _ _ _ _ us hl => match us, hl with | [_], _ => rfl) fun f fd F => ok_wtree F T U_write_count U_write_string U_write_integer
  have U_write_tree := UA_write_tree.use
  have UA_write_number_or_none := mk_useA (P := l.prog) (w := w) (mg := mg) (base := base) f36 X G (fun _ _ _ _ _ _ us hl => match us, hl with | [_], _ => rfl) fun f fd F => ok_wnon F T U_write_count
  have U_write_number_or_none := UA_write_number_or_none.use
  have UA_write_signal := mk_useA (P := l.prog) (w := w) (mg := mg) (base := base) f37 X G (fun _ _ _ _ _ _ us hl => match us, hl with | [_], _ => rfl) fun f fd F => ok_wsig F T U_SIGNAL_NUMBERS U_write_value
  have U_write_signal := UA_write_signal.use
  have U_written_fields0 := mk_use (P := l.prog) (w := w) (mg := mg) (base := base) f38 X G (fun _ _ _ _ _ _ us hl => match us, hl with | [_, _], _ => rfl) fun f fd F => ok_wfields0 F T U_WRITERS UA_write_value UA_write_values UA_write_pairs UA_write_named UA_write_tree UA_write_count UA_write_number_or_none UA_write_integer UA_write_string UA_write_signal
  have U_write_frame := mk_use (P := l.prog) (w := w) (mg := mg) (base := base) f39 X G (fun _ _ _ _ _ _ us hl => match us, hl with | [_], _ => rfl) fun f fd F => ok_wframe F T U_FIELDS U_write_count U_written_fields0
  have UA_write_frames := mk_useA (P := l.prog) (w := w) (mg := mg) (base := base) f40 X G (fun _ _ _ _ _ _ us hl => match us, hl with | [_], _ => rfl) fun f fd F => ok_wframes F T U_write_count U_write_frame
  have U_write_frames := UA_write_frames.use
  have U_written_fields := mk_use (P := l.prog) (w := w) (mg := mg) (base := base) f41 X G (fun _ _ _ _ _ _ us hl => match us, hl with | [_, _], _ => rfl) fun f fd F => ok_wfields2 F T U_WRITERS UA_write_value UA_write_values UA_write_pairs UA_write_named UA_write_tree UA_write_count UA_write_number_or_none UA_write_integer UA_write_string UA_write_signal UA_write_frames
  have U_write_object := mk_use (P := l.prog) (w := w) (mg := mg) (base := base) f42 X G (fun _ _ _ _ _ _ us hl => match us, hl with | [_], _ => rfl) fun f fd F => ok_wobject F T U_OBJECTS U_write_count U_written_fields
  have U_write_control := mk_use (P := l.prog) (w := w) (mg := mg) (base := base) f43 X G (fun _ _ _ _ _ _ us hl => match us, hl with | [_], _ => rfl) fun f fd F => ok_wcontrol F T U_CONTROLS U_write_count U_written_fields0
  have U_law_row := mk_use (P := l.prog) (w := w) (mg := mg) (base := base) f44 X G (fun _ _ _ _ _ _ us hl => match us, hl with | [_], _ => rfl) fun f fd F => ok_row F T U_law_draw
  have U_law_same := mk_useR (P := l.prog) (w := w) (mg := mg) (base := base) (spSameR K) 1 f45 X G (fun _ _ _ _ _ _ us hl => match us, hl with | [_, _], _ => rfl) (fun _ _ _ _ h => h) (fun n U_law_same f fd F => ok_sameR F T U_law_same U_law_is_integer) 210
  have U_law_pair_is := mk_use (P := l.prog) (w := w) (mg := mg) (base := base) f46 X G (fun _ _ _ _ _ _ us hl => match us, hl with | [_, _, _], _ => rfl) fun f fd F => ok_pairt F T U_law_same U_law_is_integer
  have U_NumberReader___init__ := mk_useK (P := l.prog) (w := w) (mg := mg) (base := base) k_NumberReader f47 X G (fun _ _ _ _ _ _ us hl => match us, hl with | [_, _, _], _ => rfl) fun f fd F => ok_rinit F T UC_NumberReader
  have U_NumberReader_read_number := mk_useM (P := l.prog) (w := w) (mg := mg) (base := base) f48 (fun _ _ _ _ _ _ us hl => match us, hl with | [_, _], _ => rfl) fun f fd F => ok_rnum F T UC_NumberReader
  have U_NumberReader_read_count := mk_useM (P := l.prog) (w := w) (mg := mg) (base := base) f49 (fun _ _ _ _ _ _ us hl => match us, hl with | [_], _ => rfl) fun f fd F => ok_rcnt F T UC_NumberReader U_NumberReader_read_number
  have U_NumberReader_read_count_below := mk_useM (P := l.prog) (w := w) (mg := mg) (base := base) f50 (fun _ _ _ _ _ _ us hl => match us, hl with | [_, _], _ => rfl) fun f fd F => ok_rbelow F T UC_NumberReader U_NumberReader_read_count
  have U_NumberReader_read_integer := mk_useM (P := l.prog) (w := w) (mg := mg) (base := base) f51 (fun _ _ _ _ _ _ us hl => match us, hl with | [_], _ => rfl) fun f fd F => ok_rint F T UC_NumberReader U_NumberReader_read_count
  have U_NumberReader_read_string := mk_useM (P := l.prog) (w := w) (mg := mg) (base := base) f52 (fun _ _ _ _ _ _ us hl => match us, hl with | [_, _], _ => rfl) fun f fd F => ok_rstr F T UC_NumberReader U_NumberReader_read_count_below U_NumberReader_read_number
  have U_NumberReader_read_reference := mk_useM (P := l.prog) (w := w) (mg := mg) (base := base) f53 (fun _ _ _ _ _ _ us hl => match us, hl with | [_, _], _ => rfl) fun f fd F => ok_rref F T UC_NumberReader U_NumberReader_read_count
  have U_NumberReader_read_value := mk_useM (P := l.prog) (w := w) (mg := mg) (base := base) f54 (fun _ _ _ _ _ _ us hl => match us, hl with | [_], _ => rfl) fun f fd F => ok_rval F T UC_NumberReader U_NumberReader_read_number U_NumberReader_read_integer U_NumberReader_read_string U_NumberReader_read_reference
  have U_closed := mk_use (P := l.prog) (w := w) (mg := mg) (base := base) f55 X G (fun _ _ _ _ _ _ us hl => match us, hl with | [_, _], _ => rfl) fun f fd F => ok_closed F T 
  have U_NumberReader__read_leaf := mk_useM (P := l.prog) (w := w) (mg := mg) (base := base) f56 (fun _ _ _ _ _ _ us hl => match us, hl with | [_, _], _ => rfl) fun f fd F => ok_rleaf F T UC_NumberReader U_NumberReader_read_string U_NumberReader_read_integer
  have U_NumberReader_read_treeC := mk_useM (P := l.prog) (w := w) (mg := mg) (base := base) f57 (fun _ _ _ _ _ _ us hl => match us, hl with | [_], _ => rfl) fun f fd F => ok_rtree0 F T U_BadNumbers UC_NumberReader U_NumberReader_read_number U_NumberReader_read_count U_closed U_NumberReader__read_leaf
  have U_NumberReader_read_referenceS := mk_useM (P := l.prog) (w := w) (mg := mg) (base := base) f58 (fun _ _ _ _ _ _ us hl => match us, hl with | [_, _], _ => rfl) fun f fd F => ok_rrefS F T UC_NumberReader U_NumberReader_read_count
  have U_NumberReader__read_signal := mk_useM (P := l.prog) (w := w) (mg := mg) (base := base) f59 (fun _ _ _ _ _ _ us hl => match us, hl with | [_], _ => rfl) fun f fd F => ok_rsig F T UC_NumberReader U_NumberReader_read_number U_NumberReader_read_value
  have U_NumberReader__read_item0 := mk_useM (P := l.prog) (w := w) (mg := mg) (base := base) f60 (fun _ _ _ _ _ _ us hl => match us, hl with | [_, _], _ => rfl) fun f fd F => ok_ritem0 F T UC_NumberReader U_NumberReader_read_value U_NumberReader_read_string
  have U_NumberReader__read_field0 := mk_useM (P := l.prog) (w := w) (mg := mg) (base := base) f61 (fun _ _ _ _ _ _ us hl => match us, hl with | [_, _], _ => rfl) fun f fd F => ok_rfield0 F T UC_NumberReader U_NumberReader_read_value U_NumberReader_read_treeC U_NumberReader_read_referenceS U_NumberReader_read_integer U_NumberReader_read_string U_NumberReader__read_signal U_NumberReader_read_count U_NumberReader__read_item0
  have U_NumberReader__with_fields0 := mk_useM (P := l.prog) (w := w) (mg := mg) (base := base) f62 (fun _ _ _ _ _ _ us hl => match us, hl with | [_, _, _], _ => rfl) fun f fd F => ok_rwith0 F T UC_NumberReader U_NumberReader__read_field0
  have U_NumberReader_read_frame := mk_useM (P := l.prog) (w := w) (mg := mg) (base := base) f63 (fun _ _ _ _ _ _ us hl => match us, hl with | [_], _ => rfl) fun f fd F => ok_rframe F T U_FIELDS UC_NumberReader U_NumberReader_read_count_below U_NumberReader__with_fields0
  have U_NumberReader__read_itemF := mk_useM (P := l.prog) (w := w) (mg := mg) (base := base) f64 (fun _ _ _ _ _ _ us hl => match us, hl with | [_, _], _ => rfl) fun f fd F => ok_ritemF F T UC_NumberReader U_NumberReader_read_frame
  have U_NumberReader__read_field2 := mk_useM (P := l.prog) (w := w) (mg := mg) (base := base) f65 (fun _ _ _ _ _ _ us hl => match us, hl with | [_, _], _ => rfl) fun f fd F => ok_rfield2 F T UC_NumberReader U_NumberReader_read_value U_NumberReader_read_treeC U_NumberReader_read_referenceS U_NumberReader_read_integer U_NumberReader_read_string U_NumberReader__read_signal U_NumberReader_read_count U_NumberReader__read_item0 U_NumberReader__read_itemF
  have U_NumberReader__with_fields2 := mk_useM (P := l.prog) (w := w) (mg := mg) (base := base) f66 (fun _ _ _ _ _ _ us hl => match us, hl with | [_, _, _], _ => rfl) fun f fd F => ok_rwith2 F T UC_NumberReader U_NumberReader__read_field2
  have U_NumberReader_read_object := mk_useM (P := l.prog) (w := w) (mg := mg) (base := base) f67 (fun _ _ _ _ _ _ us hl => match us, hl with | [_], _ => rfl) fun f fd F => ok_robject F T U_OBJECTS UC_NumberReader U_NumberReader_read_count_below U_NumberReader__with_fields2
  have U_read_object := mk_use (P := l.prog) (w := w) (mg := mg) (base := base) f68 X G (fun _ _ _ _ _ _ us hl => match us, hl with | [_, _], _ => rfl) fun f fd F => ok_readobject F T UC_NumberReader U_NumberReader___init__ U_NumberReader_read_object
  have U_NumberReader_read_control := mk_useM (P := l.prog) (w := w) (mg := mg) (base := base) f69 (fun _ _ _ _ _ _ us hl => match us, hl with | [_], _ => rfl) fun f fd F => ok_rcontrol F T U_CONTROLS UC_NumberReader U_NumberReader_read_count_below U_NumberReader__with_fields0
  have U_read_control := mk_use (P := l.prog) (w := w) (mg := mg) (base := base) f70 X G (fun _ _ _ _ _ _ us hl => match us, hl with | [_, _], _ => rfl) fun f fd F => ok_readcontrol F T UC_NumberReader U_NumberReader___init__ U_NumberReader_read_control
  exact ok_law F T U_law_digits U_law_cell U_law_objects U_law_controls U_law_shape_of U_law_shape_numbers U_law_list_is U_write_object U_write_control U_law_row U_law_pair_is U_read_object U_read_control
end K75
open PySem PySem.W PyProof.Rows
set_option maxRecDepth 100000 in
set_option maxHeartbeats 0 in
theorem PySem.Challenge.cw_pyhold_k75_objects_and_controls_holds : PySem.Challenge.rw_pyhold_k75_objects_and_controls.Holds := by
  w_on; o_law; k_head; (case hw => w_witness2)
  k_fill
  refine LK.walkG (l := PySem.Challenge.rw_pyhold_k75_objects_and_controls) (n := 63) (k := 213) (x := "script") (CX := L2.CX0) (sp := K75.spLaw) rfl (by decide) rfl ⟨rfl, by decide, by decide⟩ (fun w h Y => PySem.W.kIn_of Y) ?F (fun K H a ns hl _ hS => ⟨a, ns, rfl, hS, hl, fun _ => rfl⟩) (fun _ _ _ _ z => z)
  case F =>
    intro w mg fa h KX G hmg
    refine' K75.walk_mk KX G hmg ?k_NumberReader ?f0 ?f1 ?f2 ?f3 ?f4 ?f5 ?f6 ?f7 ?f8 ?f9 ?f10 ?f11 ?f12 ?f13 ?f14 ?f15 ?f16 ?f17 ?f18 ?f19 ?f20 ?f21 ?f22 ?f23 ?f24 ?f25 ?f26 ?f27 ?f28 ?f29 ?f30 ?f31 ?f32 ?f33 ?f34 ?f35 ?f36 ?f37 ?f38 ?f39 ?f40 ?f41 ?f42 ?f43 ?f44 ?f45 ?f46 ?f47 ?f48 ?f49 ?f50 ?f51 ?f52 ?f53 ?f54 ?f55 ?f56 ?f57 ?f58 ?f59 ?f60 ?f61 ?f62 ?f63 ?f64 ?f65 ?f66 ?f67 ?f68 ?f69 ?f70 ?f71 ?c0 ?c1 ?c2 ?c3 ?c4 ?c5 ?c6 ?c7 ?c8 ?c9 ?c10 ?c11 ?b_len ?b_int ?b_range ?b_list ?b_tuple ?b_isinstance ?b_bool ?b_str ?b_abs ?b_reversed ?b_zip ?d_OBJECTS ?d_WRITERS ?d_VALUE_NUMBERS ?d_SIGNAL_NUMBERS ?d_FIELDS ?d_CONTROLS ?bad
    case k_NumberReader => refine' LK.ClsK.mk' ?a ?b ?c ?d ?e ?f ?g ?h; (case a => k_is); (case b => k_is); (case c => k_is); (case d => k_is); (case e => k_is); (case f => k_is); (case g => k_is); (case h => repeat (first | exact .nil | refine LK.NoAll.cons (by k_is) ?_))
    case f0 => refine' LK.HasFn.mk' ?a ?b ?c ?d; (case a => k_is); (case b => k_is); (case c => k_is); (case d => k_is)
    case f1 => refine' LK.HasFn.mk' ?a ?b ?c ?d; (case a => k_is); (case b => k_is); (case c => k_is); (case d => k_is)
    case f2 => refine' LK.HasFn.mk' ?a ?b ?c ?d; (case a => k_is); (case b => k_is); (case c => k_is); (case d => k_is)
    case f3 => refine' LK.HasFn.mk' ?a ?b ?c ?d; (case a => k_is); (case b => k_is); (case c => k_is); (case d => k_is)
    case f4 => refine' LK.HasFn.mk' ?a ?b ?c ?d; (case a => k_is); (case b => k_is); (case c => k_is); (case d => k_is)
    case f5 => refine' LK.HasFn.mk' ?a ?b ?c ?d; (case a => k_is); (case b => k_is); (case c => k_is); (case d => k_is)
    case f6 => refine' LK.HasFn.mk' ?a ?b ?c ?d; (case a => k_is); (case b => k_is); (case c => k_is); (case d => k_is)
    case f7 => refine' LK.HasFn.mk' ?a ?b ?c ?d; (case a => k_is); (case b => k_is); (case c => k_is); (case d => k_is)
    case f8 => refine' LK.HasFn.mk' ?a ?b ?c ?d; (case a => k_is); (case b => k_is); (case c => k_is); (case d => k_is)
    case f9 => refine' LK.HasFn.mk' ?a ?b ?c ?d; (case a => k_is); (case b => k_is); (case c => k_is); (case d => k_is)
    case f10 => refine' LK.HasFn.mk' ?a ?b ?c ?d; (case a => k_is); (case b => k_is); (case c => k_is); (case d => k_is)
    case f11 => refine' LK.HasFn.mk' ?a ?b ?c ?d; (case a => k_is); (case b => k_is); (case c => k_is); (case d => k_is)
    case f12 => refine' LK.HasFn.mk' ?a ?b ?c ?d; (case a => k_is); (case b => k_is); (case c => k_is); (case d => k_is)
    case f13 => refine' LK.HasFn.mk' ?a ?b ?c ?d; (case a => k_is); (case b => k_is); (case c => k_is); (case d => k_is)
    case f14 => refine' LK.HasFn.mk' ?a ?b ?c ?d; (case a => k_is); (case b => k_is); (case c => k_is); (case d => k_is)
    case f15 => refine' LK.HasFn.mk' ?a ?b ?c ?d; (case a => k_is); (case b => k_is); (case c => k_is); (case d => k_is)
    case f16 => refine' LK.HasFn.mk' ?a ?b ?c ?d; (case a => k_is); (case b => k_is); (case c => k_is); (case d => k_is)
    case f17 => refine' LK.HasFn.mk' ?a ?b ?c ?d; (case a => k_is); (case b => k_is); (case c => k_is); (case d => k_is)
    case f18 => refine' LK.HasFn.mk' ?a ?b ?c ?d; (case a => k_is); (case b => k_is); (case c => k_is); (case d => k_is)
    case f19 => refine' LK.HasFn.mk' ?a ?b ?c ?d; (case a => k_is); (case b => k_is); (case c => k_is); (case d => k_is)
    case f20 => refine' LK.HasFn.mk' ?a ?b ?c ?d; (case a => k_is); (case b => k_is); (case c => k_is); (case d => k_is)
    case f21 => refine' LK.HasFn.mk' ?a ?b ?c ?d; (case a => k_is); (case b => k_is); (case c => k_is); (case d => k_is)
    case f22 => refine' LK.HasFn.mk' ?a ?b ?c ?d; (case a => k_is); (case b => k_is); (case c => k_is); (case d => k_is)
    case f23 => refine' LK.HasFn.mk' ?a ?b ?c ?d; (case a => k_is); (case b => k_is); (case c => k_is); (case d => k_is)
    case f24 => refine' LK.HasFn.mk' ?a ?b ?c ?d; (case a => k_is); (case b => k_is); (case c => k_is); (case d => k_is)
    case f25 => refine' LK.HasFn.mk' ?a ?b ?c ?d; (case a => k_is); (case b => k_is); (case c => k_is); (case d => k_is)
    case f26 => refine' LK.HasFn.mk' ?a ?b ?c ?d; (case a => k_is); (case b => k_is); (case c => k_is); (case d => k_is)
    case f27 => refine' LK.HasFn.mk' ?a ?b ?c ?d; (case a => k_is); (case b => k_is); (case c => k_is); (case d => k_is)
    case f28 => refine' LK.HasFnA.mk' ?a ?b ?c ?d; (case a => k_is); (case b => k_is); (case c => k_is); (case d => k_is)
    case f29 => refine' LK.HasFnA.mk' ?a ?b ?c ?d; (case a => k_is); (case b => k_is); (case c => k_is); (case d => k_is)
    case f30 => refine' LK.HasFnA.mk' ?a ?b ?c ?d; (case a => k_is); (case b => k_is); (case c => k_is); (case d => k_is)
    case f31 => refine' LK.HasFnA.mk' ?a ?b ?c ?d; (case a => k_is); (case b => k_is); (case c => k_is); (case d => k_is)
    case f32 => refine' LK.HasFnA.mk' ?a ?b ?c ?d; (case a => k_is); (case b => k_is); (case c => k_is); (case d => k_is)
    case f33 => refine' LK.HasFnA.mk' ?a ?b ?c ?d; (case a => k_is); (case b => k_is); (case c => k_is); (case d => k_is)
    case f34 => refine' LK.HasFnA.mk' ?a ?b ?c ?d; (case a => k_is); (case b => k_is); (case c => k_is); (case d => k_is)
    case f35 => refine' LK.HasFnA.mk' ?a ?b ?c ?d; (case a => k_is); (case b => k_is); (case c => k_is); (case d => k_is)
    case f36 => refine' LK.HasFnA.mk' ?a ?b ?c ?d; (case a => k_is); (case b => k_is); (case c => k_is); (case d => k_is)
    case f37 => refine' LK.HasFnA.mk' ?a ?b ?c ?d; (case a => k_is); (case b => k_is); (case c => k_is); (case d => k_is)
    case f38 => refine' LK.HasFn.mk' ?a ?b ?c ?d; (case a => k_is); (case b => k_is); (case c => k_is); (case d => k_is)
    case f39 => refine' LK.HasFn.mk' ?a ?b ?c ?d; (case a => k_is); (case b => k_is); (case c => k_is); (case d => k_is)
    case f40 => refine' LK.HasFnA.mk' ?a ?b ?c ?d; (case a => k_is); (case b => k_is); (case c => k_is); (case d => k_is)
    case f41 => refine' LK.HasFn.mk' ?a ?b ?c ?d; (case a => k_is); (case b => k_is); (case c => k_is); (case d => k_is)
    case f42 => refine' LK.HasFn.mk' ?a ?b ?c ?d; (case a => k_is); (case b => k_is); (case c => k_is); (case d => k_is)
    case f43 => refine' LK.HasFn.mk' ?a ?b ?c ?d; (case a => k_is); (case b => k_is); (case c => k_is); (case d => k_is)
    case f44 => refine' LK.HasFn.mk' ?a ?b ?c ?d; (case a => k_is); (case b => k_is); (case c => k_is); (case d => k_is)
    case f45 => refine' LK.HasFn.mk' ?a ?b ?c ?d; (case a => k_is); (case b => k_is); (case c => k_is); (case d => k_is)
    case f46 => refine' LK.HasFn.mk' ?a ?b ?c ?d; (case a => k_is); (case b => k_is); (case c => k_is); (case d => k_is)
    case f47 => refine' LK.HasMeth.mk' ?a ?b ?c ?d ?e; (case a => k_is); (case b => k_is); (case c => k_is); (case d => k_is); (case e => k_is)
    case f48 => refine' LK.HasMeth.mk' ?a ?b ?c ?d ?e; (case a => k_is); (case b => k_is); (case c => k_is); (case d => k_is); (case e => k_is)
    case f49 => refine' LK.HasMeth.mk' ?a ?b ?c ?d ?e; (case a => k_is); (case b => k_is); (case c => k_is); (case d => k_is); (case e => k_is)
    case f50 => refine' LK.HasMeth.mk' ?a ?b ?c ?d ?e; (case a => k_is); (case b => k_is); (case c => k_is); (case d => k_is); (case e => k_is)
    case f51 => refine' LK.HasMeth.mk' ?a ?b ?c ?d ?e; (case a => k_is); (case b => k_is); (case c => k_is); (case d => k_is); (case e => k_is)
    case f52 => refine' LK.HasMeth.mk' ?a ?b ?c ?d ?e; (case a => k_is); (case b => k_is); (case c => k_is); (case d => k_is); (case e => k_is)
    case f53 => refine' LK.HasMeth.mk' ?a ?b ?c ?d ?e; (case a => k_is); (case b => k_is); (case c => k_is); (case d => k_is); (case e => k_is)
    case f54 => refine' LK.HasMeth.mk' ?a ?b ?c ?d ?e; (case a => k_is); (case b => k_is); (case c => k_is); (case d => k_is); (case e => k_is)
    case f55 => refine' LK.HasFn.mk' ?a ?b ?c ?d; (case a => k_is); (case b => k_is); (case c => k_is); (case d => k_is)
    case f56 => refine' LK.HasMeth.mk' ?a ?b ?c ?d ?e; (case a => k_is); (case b => k_is); (case c => k_is); (case d => k_is); (case e => k_is)
    case f57 => refine' LK.HasMeth.mk' ?a ?b ?c ?d ?e; (case a => k_is); (case b => k_is); (case c => k_is); (case d => k_is); (case e => k_is)
    case f58 => refine' LK.HasMeth.mk' ?a ?b ?c ?d ?e; (case a => k_is); (case b => k_is); (case c => k_is); (case d => k_is); (case e => k_is)
    case f59 => refine' LK.HasMeth.mk' ?a ?b ?c ?d ?e; (case a => k_is); (case b => k_is); (case c => k_is); (case d => k_is); (case e => k_is)
    case f60 => refine' LK.HasMeth.mk' ?a ?b ?c ?d ?e; (case a => k_is); (case b => k_is); (case c => k_is); (case d => k_is); (case e => k_is)
    case f61 => refine' LK.HasMeth.mk' ?a ?b ?c ?d ?e; (case a => k_is); (case b => k_is); (case c => k_is); (case d => k_is); (case e => k_is)
    case f62 => refine' LK.HasMeth.mk' ?a ?b ?c ?d ?e; (case a => k_is); (case b => k_is); (case c => k_is); (case d => k_is); (case e => k_is)
    case f63 => refine' LK.HasMeth.mk' ?a ?b ?c ?d ?e; (case a => k_is); (case b => k_is); (case c => k_is); (case d => k_is); (case e => k_is)
    case f64 => refine' LK.HasMeth.mk' ?a ?b ?c ?d ?e; (case a => k_is); (case b => k_is); (case c => k_is); (case d => k_is); (case e => k_is)
    case f65 => refine' LK.HasMeth.mk' ?a ?b ?c ?d ?e; (case a => k_is); (case b => k_is); (case c => k_is); (case d => k_is); (case e => k_is)
    case f66 => refine' LK.HasMeth.mk' ?a ?b ?c ?d ?e; (case a => k_is); (case b => k_is); (case c => k_is); (case d => k_is); (case e => k_is)
    case f67 => refine' LK.HasMeth.mk' ?a ?b ?c ?d ?e; (case a => k_is); (case b => k_is); (case c => k_is); (case d => k_is); (case e => k_is)
    case f68 => refine' LK.HasFn.mk' ?a ?b ?c ?d; (case a => k_is); (case b => k_is); (case c => k_is); (case d => k_is)
    case f69 => refine' LK.HasMeth.mk' ?a ?b ?c ?d ?e; (case a => k_is); (case b => k_is); (case c => k_is); (case d => k_is); (case e => k_is)
    case f70 => refine' LK.HasFn.mk' ?a ?b ?c ?d; (case a => k_is); (case b => k_is); (case c => k_is); (case d => k_is)
    case f71 => refine' LK.HasFn.mk' ?a ?b ?c ?d; (case a => k_is); (case b => k_is); (case c => k_is); (case d => k_is)
    case c0 => refine' LK.HasInt.mk' ?a ?b; (case a => k_is); (case b => decide +kernel)
    case c1 => refine' LK.HasInt.mk' ?a ?b; (case a => k_is); (case b => decide +kernel)
    case c2 => refine' LK.HasInt.mk' ?a ?b; (case a => k_is); (case b => decide +kernel)
    case c3 => refine' LK.HasInt.mk' ?a ?b; (case a => k_is); (case b => decide +kernel)
    case c4 => refine' LK.HasInt.mk' ?a ?b; (case a => k_is); (case b => decide +kernel)
    case c5 => refine' LK.HasInt.mk' ?a ?b; (case a => k_is); (case b => decide +kernel)
    case c6 => refine' LK.HasInt.mk' ?a ?b; (case a => k_is); (case b => decide +kernel)
    case c7 => refine' LK.HasInt.mk' ?a ?b; (case a => k_is); (case b => decide +kernel)
    case c8 => refine' LK.HasInt.mk' ?a ?b; (case a => k_is); (case b => decide +kernel)
    case c9 => refine' LK.HasTup.mk' ?a ?b ?c ?d; (case a => k_is); (case b => k_is); (case c => decide); (case d => repeat (first | exact .nil | refine .cons ⟨_, rfl⟩ ?_))
    case c10 => refine' LK.HasTup.mk' ?a ?b ?c ?d; (case a => k_is); (case b => k_is); (case c => decide); (case d => repeat (first | exact .nil | refine .cons ⟨_, rfl⟩ ?_))
    case c11 => refine' LK.HasStr.mk' ?a ?b; (case a => k_is); (case b => decide +kernel)
    case b_len => k_is
    case b_int => k_is
    case b_range => k_is
    case b_list => k_is
    case b_tuple => k_is
    case b_isinstance => k_is
    case b_bool => k_is
    case b_str => k_is
    case b_abs => k_is
    case b_reversed => k_is
    case b_zip => k_is
    case d_OBJECTS => refine' LK.HasDct.mk' ?a ?b ?c ?d ?e; (case a => k_is); (case b => k_is); (case c => rfl); (case d => repeat (first | exact .nil | refine .cons rfl rfl rfl ?_)); (case e => decide +kernel)
    case d_WRITERS => refine' LK.HasDct.mkF ?a ?b ?c ?d ?e; (case a => k_is); (case b => k_is); (case c => rfl); (case d => repeat (first | exact .nil | refine .cons rfl rfl rfl ?_)); (case e => decide +kernel)
    case d_VALUE_NUMBERS => refine' LK.HasDct.mkV ?a ?b ?c ?d ?e; (case a => k_is); (case b => k_is); (case c => rfl); (case d => repeat (first | exact .nil | refine .cons rfl rfl ⟨_, rfl⟩ ?_)); (case e => decide +kernel)
    case d_SIGNAL_NUMBERS => refine' LK.HasDct.mkV ?a ?b ?c ?d ?e; (case a => k_is); (case b => k_is); (case c => rfl); (case d => repeat (first | exact .nil | refine .cons rfl rfl ⟨_, rfl⟩ ?_)); (case e => decide +kernel)
    case d_FIELDS => refine' LK.HasDct.mk' ?a ?b ?c ?d ?e; (case a => k_is); (case b => k_is); (case c => rfl); (case d => repeat (first | exact .nil | refine .cons rfl rfl rfl ?_)); (case e => decide +kernel)
    case d_CONTROLS => refine' LK.HasDct.mk' ?a ?b ?c ?d ?e; (case a => k_is); (case b => k_is); (case c => rfl); (case d => repeat (first | exact .nil | refine .cons rfl rfl rfl ?_)); (case e => decide +kernel)
    case bad => refine' LK.HasBad.mk' ?a1 ?a2 ?a3 ?a4 ?a5 ?a6 ?a7 ?a8 ?b1 ?b2 ?b3 ?b4 ?b5 ?b6 ?b7 ?b8 ?c1 ?c2 ?c3 ?c4 ?c5 ?c6 ?d1 ?d2 ?d3 ?d4 ?d5 ?d6 ?d7 ?e1 ?e3 ?e4 ?e5 ?e6; (case a1 => k_is); (case a2 => k_is); (case a3 => k_is); (case a4 => decide +kernel); (case a5 => k_is); (case a6 => k_is); (case a7 => k_is); (case a8 => k_is); (case b1 => k_is); (case b2 => k_is); (case b3 => k_is); (case b4 => k_is); (case b5 => k_is); (case b6 => rfl); (case b7 => decide +kernel); (case b8 => decide +kernel); (case c1 => k_is); (case c2 => k_is); (case c3 => k_is); (case c4 => ks_is); (case c5 => k_is); (case c6 => k_is); (case d1 => k_is); (case d2 => k_is); (case d3 => k_is); (case d4 => k_is); (case d5 => k_is); (case d6 => k_is); (case d7 => k_is); (case e1 => k_is); (case e3 => k_is); (case e4 => k_is); (case e5 => k_is); (case e6 => k_is)


