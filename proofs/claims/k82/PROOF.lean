import PyProof.Rows.All
import Wide.All
import OpenK.AllK
import Wide.FinOn
import HandS.ForMost
import HandS.Wide
import HandS.WideMore
import HandS.TupAny
import HandS.TupLen
import HandS.Evl
import HandS.Codes
import PyProof.ReprLen
import PyProof.StrLawsRepr
import HandS.Walk
import HandS.Zip
import KE.GoesMore
import HandS.Style
import HandS.TupMul
import PyProof.StrOps2
import HandS.IsInst
import HandS.StrMore
import HandS.Dict
import HandS.Text
import HandS.Replace
import PyProof.Rows.RuleB_pow
import HandS.ExcInit
import HandS.Nested
import HandS.ClsMeth
import HandS.FStr
import KE.KExcSuper
import HandS.ExcField
import HandS.ExcIs
import HandS.ExcOwn
import HandS.WordsExc
import KE.KExcIs
import HandS.Defaults
import HandS.Rev
import HandS.RevTup
import KE.KDictList
import HandS.HotCalls
import HandS.DictComp
import HandS.MapJoin
import KE.GoesZip
import HandS.Conv
import KE.KDictZip
import KE.KWords
import PySem.Challenge.RW_pyhold_k82_hides_numbers
set_option Elab.async false
set_option linter.all false
set_option maxRecDepth 100000
set_option maxHeartbeats 4000000
/-! A layer of one's own over the hand layer: defs by name, data, the helpers that the laws share. -/
namespace LK
open PySem PySem.Spec PyProof.Rows L2

/-! ### a def's promise where nothing is being shown (repr asks who is) -/
structure FnG (P : Program) (w : World) (K : PySem.W.Frag) (mg : Str → Option Value) (base : Heap) (CX : CXT) (k : Nat) (f : Addr) (fd : FuncData) (ps : List Str) (sp : Sp) : Prop where
  len : ∀ vs H Q E, sp vs H Q E → vs.length = ps.length
  run : ∀ (A : Around) (outer : List Env) (s : Shared) (H : Hp) (args : Args) (us : List Value) (vs : List V) (Q : VK) (E : XK), Room k A → A.guards = some [] →
    Env0 P w K mg base A outer s H → BindsTo s fd args (ps.zip us) → Vals vs us → sp vs H Q E → codeAny (model P w) A (.call (.ref f) args) (CR CX outer P w H s Q E) s
section
variable {P : Program} {w : World} {K : PySem.W.Frag} {mg : Str → Option Value} {base : Heap} {CX : CXT}
theorem FnG.imp {k : Nat} {f : Addr} {fd : FuncData} {ps : List Str} {sp sp' : Sp} (F : FnG P w K mg base CX k f fd ps sp) (h : ∀ vs H Q E, sp' vs H Q E → sp vs H Q E) : FnG P w K mg base CX k f fd ps sp' where
  len := fun vs H Q E q => F.len vs H Q E (h vs H Q E q)
  run := fun A outer s H args us vs Q E hr hg he hb hv hs => F.run A outer s H args us vs Q E hr hg he hb hv (h vs H Q E hs)
/-- the rule for a def: its body as a term of rules, and the reading of that term -/
theorem okG {x qual : Str} {st : Stmt} {f : Addr} {fd : FuncData} {N ps : List Str} {k : Nat} {sp : Sp} (F : Fun K x qual st f fd) (S : FnScope N ps (defScope st)) (len : ∀ vs H Q E, sp vs H Q E → vs.length = ps.length)
    (body : ∀ (cdv : Value) (A : Around) (outer : List Env) (s : Shared) (H : Hp) (vs : List V) (Q : VK) (E : XK), Room k (A.deeper (envOfC qual (defScope st) s.heap.objs.size f cdv)) →
      (A.deeper (envOfC qual (defScope st) s.heap.objs.size f cdv)).guards = some [] → sp vs H Q E →
      ∃ t, PSs (cxOf CX P w K mg base N qual (defScope st) f cdv A outer s H E) (defBody st) t ∧ t { nx := fun _ H' => Q .non H', rt := Q } (start N vs) H) :
    FnG P w K mg base CX (k + 1) f fd ps sp := by
  obtain ⟨oc, od, kV, doc, pm, an, cdv, ct, osl, rfl, lk, hcd⟩ := F.ex
  refine ⟨len, fun A outer s H args us vs Q E hr hgd e0 hb r hsp => ?_⟩
  have inn : K.In s.heap := e0.mod.kin.keeps fun b o e => (e0.bs b o e).1
  refine codeAny_call_function hr.depth (inn _ _ lk) rfl S.co S.gen rfl (PySem.W.codeRec_of inn hcd) (hb _ _ _ _ ?_)
  refine wpAny_newFunctionEnv_cells S.kind (fun y hy => ?_) fun env he s1 made => ?_
  · obtain ⟨n, v⟩ := y
    exact (S.par n (List.of_mem_zip hy).1).elim .inl fun q => .inr ⟨q, PySem.W.cellsFrom_some _ _ _ (.inl q)⟩
  · subst he
    have lim : s.heap.NoLimit := e0.mod.nolimit.keeps fun b o e => (e0.bs b o e).1
    refine ⟨lim.keeps made.toInCall.keep, codeAny_func ?_⟩
    obtain ⟨t, ht, hq⟩ := body cdv A outer s H vs Q E (hr.deeper _) hgd hsp
    refine wpAny_mono (ht.run [] s1 (start N vs) H _ (inv_start S hr.hd e0 (len _ _ _ _ hsp) r made) hq) (fun fl s' hs => ?_) fun e s' hs => hs
    cases fl with
    | ret u => exact let ⟨v, _, H', J, rv, q⟩ := hs; ⟨v, H', J.os, J.bare, J.base, J.hok, rv, q⟩
    | next => exact let ⟨_, H', J, q⟩ := hs; ⟨V.non, H', J.os, J.bare, J.base, J.hok, rfl, q⟩
    | brk => exact let ⟨_, _, _, q⟩ := hs; q.elim
    | cont => exact let ⟨_, _, _, q⟩ := hs; q.elim
/-- .. whose body lets no exception out -/
theorem okG0 {x qual : Str} {st : Stmt} {f : Addr} {fd : FuncData} {N ps : List Str} {k : Nat} {sp : Sp} (F : Fun K x qual st f fd) (S : FnScope N ps (defScope st)) (len : ∀ vs H Q E, sp vs H Q E → vs.length = ps.length)
    (body : ∀ (cdv : Value) (A : Around) (outer : List Env) (s : Shared) (H : Hp) (vs : List V) (Q : VK) (E : XK), Room k (A.deeper (envOfC qual (defScope st) s.heap.objs.size f cdv)) →
      (A.deeper (envOfC qual (defScope st) s.heap.objs.size f cdv)).guards = some [] → sp vs H Q E →
      ∃ t, PSs (cxOf CX0 P w K mg base N qual (defScope st) f cdv A outer s H E).nox (defBody st) t ∧ t { nx := fun _ H' => Q .non H', rt := Q } (start N vs) H) :
    FnG P w K mg base CX0 (k + 1) f fd ps sp :=
  okG F S len fun cdv A outer s H vs Q E hr hg hs => let ⟨t, ht, q⟩ := body cdv A outer s H vs Q E hr hg hs; ⟨t, ht.nox, q⟩
end
section
variable {X : Cx} {CX : CXT} {k : Nat} {f : Addr} {fd : FuncData} {ps : List Str} {sp : Sp} {E : XK} {x : Str} {p pos : Pos} {e : Expr} {es : List Expr} {t : TA}
theorem run_fnG {pins : List (Addr × Obj)} {σ : L2.St} {H : Hp} {s : Shared} {Q : VK} {us : List Value} {vs : List V} (F : FnG X.prog X.w X.K X.mg X.base CX k f fd ps sp) (hr : Room k X.A) (hg : X.A.guards = some []) (hb : Binds X.K fd ps [])
    (hx : Passes CX X E) (I : Inv X pins σ H s) (r : Vals vs us) (h : sp vs H Q E) : wpAny (model X.prog X.w) X.A (call (.ref f) us) (EP X pins σ Q) X.xe s := by
  have hl : (us ++ []).length = ps.length := by rw [List.append_nil, ← r.length, F.len _ _ _ _ h]
  have hbs := hb s us I.kIn hl
  rw [List.append_nil] at hbs
  refine wpAny_call (codeAny_mono (F.run X.A X.stack s H ⟨us, []⟩ us vs Q E hr hg I.env0 hbs r h) fun res s' hq => ?_)
  match res, hq with
  | .error e, hq => exact hx pins σ H s e s' I hq
  | .ok (.ret u), hq => exact I.after hq
  | .ok .next, hq => exact hq.elim
  | .ok .brk, hq => exact hq.elim
  | .ok .cont, hq => exact hq.elim
end

/-! ### defs of the text, by name -/
/-- what the top has left of the def x, whose statement is st -/
def HasFn (K : PySem.W.Frag) (x : Str) (st : Stmt) : Prop := ∃ (f : Addr) (oc : Value) (od an : Option Addr) (kV doc pm cdv ct : Value) (osl : Array (Option Value)),
  PySem.W.nsIn K mainGlobals x = some (some (.ref f)) ∧ K.lookup f = some ⟨oc, od, .func (PySem.W.fnOf x x (defArgs st) (defBody st) (defScope st) .none kV doc pm an cdv ct), osl⟩ ∧
  PySem.W.codeIn K cdv x = true ∧ PySem.W.keepIn K (.ref f) = true
/-- the def x may be called: its promise sp, by level k -/
structure Use (P : Program) (w : World) (K : PySem.W.Frag) (mg : Str → Option Value) (base : Heap) (CX : CXT) (x : Str) (k : Nat) (ps : List Str) (sp : Sp) : Prop where
  ex : ∃ (f : Addr) (fd : FuncData), FnG P w K mg base CX k f fd ps sp ∧ mg x = some (.ref f) ∧ PySem.W.keepIn K (.ref f) = true ∧ Binds K fd ps []
section
variable {P : Program} {w : World} {K : PySem.W.Frag} {mg : Str → Option Value} {base h : Heap} {CX : CXT}
theorem mk_use {x : Str} {st : Stmt} {k : Nat} {ps : List Str} {sp : Sp} (F : HasFn K x st) (X : K.In h) (G : h.Ns mainGlobals mg)
    (hb : ∀ (kV doc pm : Value) (an : Option Addr) (cdv ct : Value) (us : List Value), us.length = ps.length → bindArgs (PySem.W.fnOf x x (defArgs st) (defBody st) (defScope st) .none kV doc pm an cdv ct) ⟨us, []⟩ = pure (ps.zip us))
    (ok : ∀ (f : Addr) (fd : FuncData), Fun K x x st f fd → FnG P w K mg base CX k f fd ps sp) : Use P w K mg base CX x k ps sp := by
  obtain ⟨f, oc, od, an, kV, doc, pm, cdv, ct, osl, e, l, c, kp⟩ := F
  have Fn := fun_mk (st := st) l c kp
  exact ⟨f, _, ok f _ Fn, PySem.W.mg_of X G e, kp, Fn.binds hb⟩
theorem Use.imp {x : Str} {k : Nat} {ps : List Str} {sp sp' : Sp} (U : Use P w K mg base CX x k ps sp) (h : ∀ vs H Q E, sp' vs H Q E → sp vs H Q E) : Use P w K mg base CX x k ps sp' := by
  obtain ⟨f, fd, ok, r⟩ := U.ex
  exact ⟨f, fd, ok.imp h, r⟩
end
section
variable {X : Cx} {CX : CXT} {E : XK} {k : Nat} {x : Str} {ps : List Str} {sp : Sp} {p pos : Pos} {e : Expr} {es : List Expr} {t : TA}
theorem pe_useX (U : Use X.prog X.w X.K X.mg X.base CX x k ps sp) (hx : Passes CX X E) (hr : Room k X.A) (gd : X.A.guards = some []) (hg : Gl X x) (ha : PA X (e :: es) t) (hdb : (x == ("__debug__" : Str)) = false := by decide)
    (he : starEach (e :: es) X.env = (false, eval e X.env) :: starEach es X.env := by rfl) (hpl : (backTo pos (starEach es X.env)).any (·.1) = false := by rfl) : PE X (.Call (.Name x p) (e :: es) [] pos) (fun σ H Q => t σ H fun vs H1 => sp vs H1 Q E) := by
  obtain ⟨f, fd, ok, hm, kp, hb⟩ := U.ex
  refine ⟨fun pins s σ H Q I h => wpAny_Call_Name_kw (ld_glob I hg hm ?_ hdb)⟩
  exact PySem.W.callWith_K (h₀ := X.base) I.ok.mod.kin kp (thn (ha.run pos pins s σ H _ I h) fun us s1 ⟨vs, H1, I1, r, q⟩ => ⟨I1.kIn, run_fnG ok hr gd hb hx I1 r q⟩) he hpl
def tUse (sp : Sp) (E : XK) (t : TA) : TE := fun σ H Q => t σ H fun vs H1 => sp vs H1 Q E
theorem pe_use (U : Use X.prog X.w X.K X.mg X.base CX0 x k ps sp) (hr : Room k X.A) (gd : X.A.guards = some []) (hg : Gl X x) (ha : PA X (e :: es) t) (hdb : (x == ("__debug__" : Str)) = false := by decide)
    (he : starEach (e :: es) X.env = (false, eval e X.env) :: starEach es X.env := by rfl) (hpl : (backTo pos (starEach es X.env)).any (·.1) = false := by rfl) : PE X (.Call (.Name x p) (e :: es) [] pos) (tUse sp E0 t) := pe_useX U pass0 hr gd hg ha hdb he hpl
theorem pe_use0 (U : Use X.prog X.w X.K X.mg X.base CX0 x k ps sp) (hr : Room k X.A) (gd : X.A.guards = some []) (hg : Gl X x) (hdb : (x == ("__debug__" : Str)) = false := by decide) : PE X (.Call (.Name x p) [] [] pos) (tUse sp E0 tNil) := by
  obtain ⟨f, fd, ok, hm, kp, hb⟩ := U.ex
  exact ⟨fun pins s σ H Q I h => wpAny_Call_Name_kw (ld_glob I hg hm (PySem.W.callWith_K0 I.kIn kp (run_fnG (us := []) ok hr gd hb pass0 I .nil h)) hdb)⟩
end

/-! ### what stays -/
theorem Same.new {H : Hp} {p : Addr} {o : HO} (h : H p = none) : Same H (upd H p o) := fun b u e => by
  rw [upd_ne (ne_of_none e h)]; exact e
theorem Same.rd {H H' : Hp} {a : Addr} {u : HO} (e : Same H H') (h : Rd H a u) : Rd H' a u := by
  rcases h with h | ⟨o, h⟩
  · exact .inl (e _ _ h)
  · exact .inr ⟨o, e _ _ h⟩
theorem Same.tupl {K : PySem.W.Frag} {H H' : Hp} {a : Addr} {xs : List V} (e : Same H H') (h : SqT K H a xs) : SqT K H' a xs := by
  rcases h with h | h
  · exact .inl (Same.rd e h)
  · exact .inr h
theorem SqT.mono {K : PySem.W.Frag} {H H' : Hp} {a : Addr} {xs : List V} (h : SqT K H a xs) (e : Same H H') : SqT K H' a xs := Same.tupl e h
theorem SqL.mono {K : PySem.W.Frag} {H H' : Hp} {a : Addr} {xs : List V} (h : SqL K H a xs) (e : Same H H') : SqL K H' a xs := e.seq h

/-! ### data: none, bools, ints, texts, tuples (and lists that stand still) -/
mutual
theorem Dp.mono {K : PySem.W.Frag} {H H' : Hp} (e : Same H H') : ∀ {v : V} {d : PyData}, Dp K H v d → Dp K H' v d
  | _, _, .non => .non
  | _, _, .bl b => .bl b
  | _, _, .int i => .int i
  | _, _, .str x => .str x
  | _, _, .lst h a => .lst (e.seq h) (DpAll.mono e a)
  | _, _, .tup h a => .tup (Same.tupl e h) (DpAll.mono e a)
theorem DpAll.mono {K : PySem.W.Frag} {H H' : Hp} (e : Same H H') : ∀ {vs : List V} {ds : List PyData}, DpAll K H vs ds → DpAll K H' vs ds
  | _, _, .nil => .nil
  | _, _, .cons h a => .cons (Dp.mono e h) (DpAll.mono e a)
end
/-- a tuple just made -/
theorem Dp.made {K : PySem.W.Frag} {H : Hp} {p : Addr} {xs : List V} {ds : List PyData} (hp : H p = none) (h : DpAll K H xs ds) : Dp K (upd H p (.tup xs)) (.ref p) (.tuple ds) :=
  .tup (SqT.of upd_same) (DpAll.mono (Same.new hp) h)
theorem DpAll.length {K : PySem.W.Frag} {H : Hp} : ∀ {vs : List V} {ds : List PyData}, DpAll K H vs ds → vs.length = ds.length
  | _, _, .nil => rfl
  | _, _, .cons _ t => by simp [DpAll.length t]
theorem DpAll.app {K : PySem.W.Frag} {H : Hp} : ∀ {vs ws : List V} {ds es : List PyData}, DpAll K H vs ds → DpAll K H ws es → DpAll K H (vs ++ ws) (ds ++ es)
  | _, _, _, _, .nil, t => t
  | _, _, _, _, .cons h a, t => .cons h (DpAll.app a t)

/-! ### repr of data -/
mutual
theorem Dp.noDict {K : PySem.W.Frag} {H : Hp} : ∀ {v : V} {d : PyData}, Dp K H v d → d.hasDict = false
  | _, _, .non => rfl
  | _, _, .bl _ => rfl
  | _, _, .int _ => rfl
  | _, _, .str _ => rfl
  | _, _, .lst _ a => by simp only [PyData.hasDict]; exact DpAll.noDict a
  | _, _, .tup _ a => by simp only [PyData.hasDict]; exact DpAll.noDict a
theorem DpAll.noDict {K : PySem.W.Frag} {H : Hp} : ∀ {vs : List V} {ds : List PyData}, DpAll K H vs ds → PyData.hasDictAll ds = false
  | _, _, .nil => rfl
  | _, _, .cons h a => by simp only [PyData.hasDictAll, Dp.noDict h, DpAll.noDict a, Bool.or_self]
end
/-- what repr asks of data -/
structure ShowOk (d : PyData) : Prop where
  ok : d.showable = true
  dp : d.depth ≤ 60
  sz : d.shown.length ≤ sizeLine
def rRepr (K : PySem.W.Frag) : List V → Hp → VK → Prop := fun xs H Q => ∃ v d, xs = [v] ∧ Dp K H v d ∧ ShowOk d ∧ Q (.str d.shown) H
section
variable {X : Cx}
theorem call_repr_data (hg : X.A.guards = some []) (hu : X.A.units + 64 < cLine) : CallR X (.builtin "repr") (rRepr X.K) := by
  intro pins s σ H xs us Q I r h
  obtain ⟨v, d, rfl, hd, ⟨hs, hdp, hsz⟩, q⟩ := h
  obtain ⟨u, rfl, rv⟩ := vals1 r
  obtain ⟨as, rr⟩ := Dp.reads I d v u hd rv
  have nd := Dp.noDict hd
  cases d with
  | none => cases rr; exact PySem.P.repr_of_none ⟨.str _, H, I.tok _, ⟨_, rfl⟩, q⟩
  | bool b => cases rr; exact PySem.P.repr_of_bool ⟨.str _, H, I.tok _, ⟨_, rfl⟩, by simpa [PyData.shown] using q⟩
  | int i => cases rr; exact PySem.P.repr_of_int (of_decide_eq_true (by simpa [PyData.showable] using hs)) ⟨.str _, H, I.tok _, ⟨_, rfl⟩, by simpa [PyData.shown] using q⟩
  | str x => cases rr; exact PySem.P.repr_of_str (hsz := by simpa [PyData.shown] using hsz) ⟨.str _, H, I.tok _, ⟨_, rfl⟩, by simpa [PyData.shown] using q⟩
  | list ds =>
    obtain ⟨a, rfl⟩ := PyProof.Rows.isRef_of_reads rr rfl
    exact repr_of_reads' rr hs (PyData.noDict_hsm nd) hg (by omega) (fun _ _ e => e) (fun h' u tk hk => ⟨.str _, H, I.kept hk, ⟨_, rfl⟩, q⟩) hsz
  | tuple ds =>
    obtain ⟨a, rfl⟩ := PyProof.Rows.isRef_of_reads rr rfl
    exact repr_of_reads' rr hs (PyData.noDict_hsm nd) hg (by omega) (fun _ _ e => e) (fun h' u tk hk => ⟨.str _, H, I.kept hk, ⟨_, rfl⟩, q⟩) hsz
  | dict kv => cases hd
end

/-! ### the law's own call -/
/-- the heap behind the top, seen with the script at a locked, or with nothing tracked -/
theorem law_callG {P : Program} {w : World} {K : PySem.W.Frag} {mg mb : Str → Option Value} {CX : CXT} {k : Nat} {fa a : Addr} {fd : FuncData} {x : Str} {sp : Sp} {s₁ : Shared} {vs : List Value} {ns : List Int}
    (inn : K.In s₁.heap) (hns : s₁.heap.Ns mainGlobals mg) (hb : s₁.heap.Ns builtinsNs mb) (hbb : ∀ x : Str, x ≠ "__name__" → mb x = bootBuiltins x) (hlim : s₁.heap.NoLimit) (hgens : s₁.gens = #[])
    (ha : s₁.heap.get? a = some { cls := .type "list", data := .seq vs.toArray }) (hi : IntsAre vs ns) (hl : ns.length ≤ sizeLine) (hr : Room k callerA)
    (F : ∀ base : Heap, K.In base → base.Ns mainGlobals mg → FnG P w K mg base CX k fa fd [x] sp) (hbind : ∀ (s : Shared) (u : Value), BindsTo s fd ⟨[u], []⟩ [(x, u)])
    (hsp : ∀ H : Hp, Only H → SqL K H a (ns.map V.int) → sp [.ref a] H (fun v _ => v = .bl true) fun _ _ _ => False)
    (hCX : ∀ H e s', CX [] H s₁ (fun _ _ _ => False) e s' → False) :
    codeAny (model P w) callerA (.call (.ref fa) ⟨[.ref a], []⟩) (fun r s' => r = .ok (.ret (.bool true)) ∧ OldK s₁.heap s'.heap ∧ s'.os = s₁.os ∧ AllBare s'.gens) s₁ := by
  have rv := vals_ints hi
  have run : ∀ H : Hp, Only H → SqL K H a (ns.map V.int) → HOk P w H s₁.heap → (∀ b u, H b = some u → b = a ∧ K.lookup a = none) →
      codeAny (model P w) callerA (.call (.ref fa) ⟨[.ref a], []⟩) (fun r s' => r = .ok (.ret (.bool true)) ∧ OldK s₁.heap s'.heap ∧ s'.os = s₁.os ∧ AllBare s'.gens) s₁ := by
    intro H only hS hok at_a
    -- what is no list stays in the base
    have free : ∀ {b : Addr} {o : Obj}, s₁.heap.get? b = some o → (∀ its n, o.data ≠ .seq its n) → H b = none := fun {b o} e hd => by
      cases q : H b with
      | none => rfl
      | some u =>
        obtain ⟨rfl, _⟩ := at_a b u q
        rw [ha] at e; cases e
        exact absurd rfl (hd _ _)
    have names : ∀ {b : Addr} {m : Str → Option Value}, s₁.heap.Ns b m → (hidT s₁.heap H).Ns b m := fun {b m} hn => by
      obtain ⟨o, es, ep, e, d, r⟩ := hn
      exact ⟨o, es, ep, hidT_get e (free e fun its n z => by rw [d] at z; cases z), d, r⟩
    have inb : K.In (hidT s₁.heap H) := fun b o e => by
      refine hidT_get (inn b o e) ?_
      cases q : H b with
      | none => rfl
      | some u =>
        obtain ⟨rfl, hk⟩ := at_a b u q
        rw [e] at hk; cases hk
    have md : Mod K mg (hidT s₁.heap H) := by
      obtain ⟨mc, h1, h2⟩ := hlim
      exact ⟨inb, names hns, ⟨mb, names hb, hbb⟩, ⟨mc, names h1, h2⟩⟩
    have none_in : ∀ b : Addr, b ∉ ([] : List Addr) := fun b z => nomatch z
    have e0 : Env0 P w K mg (hidT s₁.heap H) callerA [] s₁ H := ⟨rfl, md, fun b o e => of_hidT e, Nat.le_of_eq (hidT_size _ _), trivial, fun b z => absurd z (none_in b), hok, .of_eq hgens⟩
    refine codeAny_mono ((F _ inb (names hns)).run callerA [] s₁ H ⟨[.ref a], []⟩ [.ref a] [.ref a] _ _ hr rfl e0 (hbind s₁ (.ref a)) (.cons rfl .nil) (hsp H only hS)) fun r s' h => ?_
    match r, h with
    | .error e, h => exact (hCX H e s' h).elim
    | .ok .next, h => exact False.elim h
    | .ok .brk, h => exact False.elim h
    | .ok .cont, h => exact False.elim h
    | .ok (.ret u), h =>
      obtain ⟨v, H', os, bare, un, hok', r', q⟩ := h
      obtain rfl : v = V.bl true := q
      obtain rfl : u = Value.bool true := r'
      refine ⟨rfl, OldK.of_keep fun b o e => ?_, os, bare⟩
      cases q : H b with
      | none => exact un.keep b o e q (none_in b) (none_in b)
      | some u =>
        rcases only b with z | ⟨ob, xs, z⟩
        · rw [q] at z; cases z
        · have e1 : s₁.heap.get? b = some ob := (hok b _ z).1
          rw [e] at e1; cases e1
          exact (hok' b _ (un.frzs b o _ z)).1
  cases hk : K.lookup a with
  | some o =>
    have e := inn a o hk
    rw [ha] at e; cases e
    have sz : vs.toArray.size ≤ sizeLine := by rw [List.size_toArray, hi.length]; exact hl
    exact run (fun _ => none) (fun _ => .inl rfl) (.inr ⟨_, vs.toArray, _, hk, rfl, rfl, rfl, sz, by simpa using rv⟩) (fun b u z => nomatch (show (none : Option HO) = some u from z)) fun b u z => nomatch (show (none : Option HO) = some u from z)
  | none =>
    let u0 : HO := .frz { cls := .type "list", data := .seq vs.toArray } (.lst (ns.map V.int))
    have at1 : ∀ b u, upd (fun _ => none) a u0 b = some u → b = a ∧ u = u0 := fun b u z => by
      by_cases hb : b = a
      · subst hb; rw [upd_same] at z; exact ⟨rfl, (Option.some.inj z).symm⟩
      · rw [upd_ne hb] at z; cases z
    refine run (upd (fun _ => none) a u0) (fun b => ?_) (.inl (.inr ⟨_, upd_same⟩)) (fun b u z => ?_) fun b u z => ⟨(at1 b u z).1, hk⟩
    · by_cases hb : b = a
      · subst hb; exact .inr ⟨_, _, upd_same⟩
      · exact .inl (by rw [upd_ne hb])
    · obtain ⟨rfl, rfl⟩ := at1 b u z
      exact ⟨ha, by rw [List.length_map]; exact hl, vs, _, rv, ha⟩
theorem walkG {l : PySem.W.OpenLaw} {n k : Nat} {q : Program} {loose : List Str} {XP : (Str → Option Value) → Heap → Prop} {YP : World → Heap → Prop} {d : DefRec} {K : Params → PySem.W.Frag} {CX : CXT} {sp : PySem.W.Frag → Sp} {x : Str}
    (hn : l.most = some n) (hn2 : n ≤ sizeLine) (hdf : d.params.defaults = []) (hr : Room k callerA)
    (hY : ∀ (w : World) (h : Heap), YP w h → (K w.params).In h)
    (F : ∀ (w : World) (mg : Str → Option Value) (fa : Addr) (h : Heap), (K w.params).In h → h.Ns mainGlobals mg → mg d.name = some (.ref fa) →
      ∃ fd : FuncData, (∀ (s : Shared) (u : Value), BindsTo s fd ⟨[u], []⟩ [(x, u)]) ∧
        ∀ base : Heap, (K w.params).In base → base.Ns mainGlobals mg → FnG l.prog w (K w.params) mg base CX k fa fd [x] (sp (K w.params)))
    (hsp : ∀ (K : PySem.W.Frag) (H : Hp) (a : Addr) (ns : List Int), ns.length ≤ n → Only H → SqL K H a (ns.map V.int) → sp K [.ref a] H (fun v _ => v = .bl true) fun _ _ _ => False)
    (hCX : ∀ (H : Hp) (s : Shared) (e : Value) (s' : Shared), CX [] H s (fun _ _ _ => False) e s' → False) :
    PySem.W.WalkO q loose XP YP l.row.toRowW d [] (fun f vs => PySem.call f vs) :=
  Att.attach_call hn hdf fun w s₀ s₁ mg mb fa o pm cd doc a vs ns G Y ho hd hcd hmg hobj hints hlen hg =>
    let ⟨fd, hb, hF⟩ := F w mg fa _ (hY w _ Y) G.T.g hmg
    law_callG (hY w _ Y) G.T.g G.T.b G.T.builtins G.T.nolimit hg hobj hints (Nat.le_trans hlen hn2) hr hF hb (fun H hO hS => hsp (K w.params) H a ns hlen hO hS) fun H e s' => hCX H s₁ e s'
/-- from the top's facts: the law's def and its arguments -/
theorem law_use {P : Program} {w : World} {K : PySem.W.Frag} {mg : Str → Option Value} {h : Heap} {CX : CXT} {k : Nat} {fa : Addr} {st : Stmt} {x : Str} {sp : Sp} (L : HasFn K "law" st) (X : K.In h) (G : h.Ns mainGlobals mg) (hfa : mg "law" = some (.ref fa))
    (hb : ∀ (kV doc pm : Value) (an : Option Addr) (cdv ct v : Value), bindArgs (PySem.W.fnOf "law" "law" (defArgs st) (defBody st) (defScope st) .none kV doc pm an cdv ct) ⟨[v], []⟩ = pure [(x, v)])
    (ok : ∀ base : Heap, K.In base → base.Ns mainGlobals mg → ∀ fd, Fun K "law" "law" st fa fd → FnG P w K mg base CX k fa fd [x] sp) :
    ∃ fd : FuncData, (∀ (s : Shared) (v : Value), BindsTo s fd ⟨[v], []⟩ [(x, v)]) ∧ ∀ base : Heap, K.In base → base.Ns mainGlobals mg → FnG P w K mg base CX k fa fd [x] sp := by
  obtain ⟨f, oc, od, an, kV, doc, pm, cdv, ct, osl, e, l, c, kp⟩ := L
  have z := hfa.symm.trans (PySem.W.mg_of X G e)
  cases z
  have Fn := fun_mk (st := st) l c kp
  exact ⟨_, fun s v => .of_eq (hb ..), fun base h1 h2 => ok base h1 h2 _ Fn⟩

/-! ### tests whose answer is known -/
theorem iteFb {c : Bool} {A B : Prop} (h : c = false) (b : B) : if c = true then A else B := by rw [h]; exact iteF b
theorem iteTb {c : Bool} {A B : Prop} (h : c = true) (a : A) : if c = true then A else B := by rw [h]; exact iteT a
theorem ite3 {c : Bool} {A B : Prop} (h1 : c = true → A) (h2 : c = false → B) : if c = true then A else B := by
  cases c with
  | true => exact iteT (h1 rfl)
  | false => exact iteF (h2 rfl)

/-! ### constants of the top -/
def HasInt (K : PySem.W.Frag) (x : Str) (n : Int) : Prop := ∃ (t : Tok) (m : Int), PySem.W.nsIn K mainGlobals x = some (some (.int m t)) ∧ m = n
def KTup (K : PySem.W.Frag) (a : Addr) (xs : List V) : Prop := ∃ (od : Option Addr) (its : Array Value) (n : Nat) (sl : Array (Option Value)), K.lookup a = some ⟨.type "tuple", od, .seq its n, sl⟩ ∧ its.size ≤ sizeLine ∧ Vals xs its.toList
def HasTup (K : PySem.W.Frag) (x : Str) (xs : List V) : Prop := ∃ a, PySem.W.nsIn K mainGlobals x = some (some (.ref a)) ∧ KTup K a xs
theorem KTup.sq {K : PySem.W.Frag} {a : Addr} {xs : List V} (h : KTup K a xs) (H : Hp) : SqT K H a xs := by
  obtain ⟨od, its, n, sl, e, z, v⟩ := h
  exact .inr ⟨_, its, n, e, rfl, rfl, z, v⟩
/-- the module's names, as the defs see them -/
def GInt (mg : Str → Option Value) (x : Str) (n : Int) : Prop := ∃ t, mg x = some (.int n t)
def GTup (K : PySem.W.Frag) (mg : Str → Option Value) (x : Str) (xs : List V) : Prop := ∃ a, mg x = some (.ref a) ∧ KTup K a xs
theorem HasInt.g {K : PySem.W.Frag} {mg : Str → Option Value} {h : Heap} {x : Str} {n : Int} (i : HasInt K x n) (X : K.In h) (G : h.Ns mainGlobals mg) : GInt mg x n := by
  obtain ⟨t, m, e, rfl⟩ := i
  exact ⟨t, PySem.W.mg_of X G e⟩
theorem HasTup.g {K : PySem.W.Frag} {mg : Str → Option Value} {h : Heap} {x : Str} {xs : List V} (i : HasTup K x xs) (X : K.In h) (G : h.Ns mainGlobals mg) : GTup K mg x xs := by
  obtain ⟨a, e, k⟩ := i
  exact ⟨a, PySem.W.mg_of X G e, k⟩
section
variable {X : Cx} {x : Str} {pos : Pos}
theorem pe_globI {n : Int} (h : GInt X.mg x n) (hg : Gl X x) (hd : (x == ("__debug__" : Str)) = false := by decide) : PE X (.Name x pos) (tC (.int n)) := by
  obtain ⟨t, e⟩ := h
  exact pe_glob hg e ⟨t, rfl⟩ hd
/-- a tuple of the top: it is read as xs, wherever it stands -/
def tGT (K : PySem.W.Frag) (xs : List V) : TE := fun _ H Q => ∀ a, KTup K a xs → Q (.ref a) H
theorem pe_globT {xs : List V} (h : GTup X.K X.mg x xs) (hg : Gl X x) (hd : (x == ("__debug__" : Str)) = false := by decide) : PE X (.Name x pos) (tGT X.K xs) := by
  obtain ⟨a, e, k⟩ := h
  exact ⟨fun pins s σ H Q I q => (pe_glob (v := .ref a) hg e rfl hd).run pins s σ H Q I (q a k)⟩
end

/-! ### // by any divisor but 0 -/
def CDivX (_ j : Int) : Prop := j ≠ 0 ∧ j.natAbs.log2 < 9000
theorem op_fdivX {X : Cx} : OpR X (binaryOp .FloorDiv) (rI CDivX fun i j => .int (i.fdiv j)) := opI fun _ _ _ _ _ _ _ hc q => floordiv_int hc.1 q (.inl (PyProof.noPylong_of_log2 hc.2))
theorem fdiv_le_pos (i : Int) {j : Int} (hj : 0 < j) : (i.fdiv j).natAbs ≤ i.natAbs + 1 := by
  have e := Int.mul_fdiv_add_fmod i j
  have h0 := Int.fmod_nonneg_of_pos i hj
  have h1 := Int.fmod_lt_of_pos i hj
  have a : (i.fdiv j).natAbs ≤ (j * i.fdiv j).natAbs := by
    rw [Int.natAbs_mul]; exact Nat.le_mul_of_pos_left _ (by omega)
  by_cases hi : 0 ≤ i
  · have : 0 ≤ i.fdiv j := Int.fdiv_nonneg hi (by omega)
    have : 0 ≤ j * i.fdiv j := Int.mul_nonneg (by omega) this
    omega
  · have q : i.fdiv j ≤ -1 := by
      by_cases z : 0 ≤ i.fdiv j
      · have := Int.mul_nonneg (show 0 ≤ j by omega) z
        omega
      · omega
    have r : -1 + i ≤ i.fdiv j := by
      have : i.fdiv j * (j - 1) ≤ (-1) * (j - 1) := Int.mul_le_mul_of_nonneg_right q (by omega)
      have e2 : j * i.fdiv j = i.fdiv j * (j - 1) + i.fdiv j := by rw [Int.mul_sub, Int.mul_one, Int.mul_comm]; omega
      omega
    omega
theorem fdiv_le (i j : Int) : (i.fdiv j).natAbs ≤ i.natAbs + 1 := by
  by_cases h : 0 < j
  · exact fdiv_le_pos i h
  · by_cases h2 : j = 0
    · subst h2; rw [Int.fdiv_zero]; omega
    · have e : i.fdiv j = (-i).fdiv (-j) := by rw [Int.neg_fdiv_neg]
      have := fdiv_le_pos (-i) (show 0 < -j by omega)
      rw [e]; omega

/-! ### how long a shown thing is at most -/
structure Sm (d : PyData) (dp N : Nat) : Prop where
  ok : d.showable = true
  dp : d.depth ≤ dp
  sz : d.shown.length ≤ N
structure SmAll (ds : List PyData) (dp n N : Nat) : Prop where
  ok : PyData.showableAll ds = true
  dp : PyData.depthAll ds ≤ dp
  len : ds.length ≤ n
  sz : ((PyData.shownAll ds).map (·.length)).sum ≤ N
theorem Sm.show {d : PyData} {dp N : Nat} (h : Sm d dp N) (h1 : dp ≤ 60) (h2 : N ≤ sizeLine) : ShowOk d := ⟨h.ok, Nat.le_trans h.dp h1, Nat.le_trans h.sz h2⟩
theorem Sm.mono {d : PyData} {dp N dp' N' : Nat} (h : Sm d dp N) (h1 : dp ≤ dp') (h2 : N ≤ N') : Sm d dp' N' := ⟨h.ok, Nat.le_trans h.dp h1, Nat.le_trans h.sz h2⟩
theorem shownAll_length : ∀ ds : List PyData, (PyData.shownAll ds).length = ds.length
  | [] => rfl
  | d :: ds => by simp [PyData.shownAll, shownAll_length ds]
theorem Sm.int {i : Int} (h : i.natAbs < 2 ^ 1900) : Sm (.int i) 0 2000 := by
  have hl : i.natAbs.log2 < 1900 := PySem.Flt.log2_lt_of (by decide) h
  refine ⟨?_, Nat.le_refl 0, ?_⟩
  · simp only [PyData.showable, decide_eq_true_eq]; omega
  · have e := int_text_length_le (k := 1900) (by decide) hl
    show (Str.ofString (toString i)).length ≤ 2000
    rw [PySem.ofString_length]; omega
theorem Sm.bool (b : Bool) : Sm (.bool b) 0 10 := ⟨rfl, Nat.le_refl 0, by cases b <;> decide +kernel⟩
theorem Sm.none : Sm .none 0 10 := ⟨rfl, Nat.le_refl 0, by decide +kernel⟩
theorem Sm.str {x : Str} {n : Nat} (h : x.length ≤ n) (hc : ∀ c ∈ x.cps.toList, c < 16 ^ 8) : Sm (.str x) 0 (10 * n + 2) := ⟨rfl, Nat.le_refl 0, by
  have e := PySem.StrLaws.reprText_len x hc
  show (reprText x).length ≤ _
  omega⟩
theorem SmAll.nil : SmAll [] 0 0 0 := ⟨rfl, Nat.le_refl 0, Nat.le_refl 0, Nat.le_refl 0⟩
theorem SmAll.cons {d : PyData} {ds : List PyData} {dp dp' n N M : Nat} (h : Sm d dp N) (t : SmAll ds dp' n M) : SmAll (d :: ds) (max dp dp') (n + 1) (N + M) := by
  have h1 := h.dp
  have h2 := t.dp
  refine ⟨by simp [PyData.showableAll, h.ok, t.ok], ?_, by have := t.len; simp; omega, ?_⟩
  · simp only [PyData.depthAll]; omega
  · have := h.sz
    have := t.sz
    simp only [PyData.shownAll, List.map_cons, List.sum_cons]; omega
theorem Sm.tup {ds : List PyData} {dp n N : Nat} (h : SmAll ds dp n N) : Sm (.tuple ds) (dp + 1) (N + 2 * n + 3) := by
  refine ⟨by simpa [PyData.showable] using h.ok, by simp only [PyData.depth]; have := h.dp; omega, ?_⟩
  have e := tupleText_len_le (PyData.shownAll ds)
  have := h.sz
  have := h.len
  rw [shownAll_length] at e
  show (tupleText (PyData.shownAll ds)).length ≤ _
  omega
theorem Sm.lst {ds : List PyData} {dp n N : Nat} (h : SmAll ds dp n N) : Sm (.list ds) (dp + 1) (N + 2 * n + 3) := by
  refine ⟨by simpa [PyData.showable] using h.ok, by simp only [PyData.depth]; have := h.dp; omega, ?_⟩
  have e := listText_len_le (PyData.shownAll ds)
  have := h.sz
  have := h.len
  rw [shownAll_length] at e
  show (listText (PyData.shownAll ds)).length ≤ _
  omega
theorem SmAll.many {dp N : Nat} : ∀ {ds : List PyData}, (∀ d ∈ ds, Sm d dp N) → SmAll ds dp ds.length (N * ds.length)
  | [], _ => ⟨rfl, Nat.zero_le _, Nat.le_refl 0, Nat.zero_le _⟩
  | d :: ds, h => by
    have t := SmAll.cons (h d (by simp)) (SmAll.many (fun e he => h e (List.mem_cons_of_mem _ he)))
    rw [Nat.max_self] at t
    refine ⟨t.ok, t.dp, t.len, Nat.le_trans t.sz ?_⟩
    rw [List.length_cons, Nat.mul_succ]; omega
theorem sz_0 : (0 : Nat) ≤ sizeLine := by decide
theorem sz_1 : (1 : Nat) ≤ sizeLine := by decide
theorem sz_2 : (2 : Nat) ≤ sizeLine := by decide
theorem sz_3 : (3 : Nat) ≤ sizeLine := by decide
theorem sz_4 : (4 : Nat) ≤ sizeLine := by decide
theorem sz_5 : (5 : Nat) ≤ sizeLine := by decide
/-! ### the ends: each premise a fact that k_is finds -/
theorem HasFn.mk' {K : PySem.W.Frag} {x : Str} {st : Stmt} {f : Addr} {oc : Value} {od an : Option Addr} {kV doc pm cdv ct : Value} {osl : Array (Option Value)} (a : PySem.W.nsIn K mainGlobals x = some (some (.ref f)))
    (b : K.lookup f = some ⟨oc, od, .func (PySem.W.fnOf x x (defArgs st) (defBody st) (defScope st) .none kV doc pm an cdv ct), osl⟩) (c : PySem.W.codeIn K cdv x = true) (d : PySem.W.keepIn K (.ref f) = true) : HasFn K x st :=
  ⟨f, oc, od, an, kV, doc, pm, cdv, ct, osl, a, b, c, d⟩
theorem HasInt.mk' {K : PySem.W.Frag} {x : Str} {n m : Int} {t : Tok} (a : PySem.W.nsIn K mainGlobals x = some (some (.int m t))) (e : m = n) : HasInt K x n := ⟨t, m, a, e⟩
theorem HasTup.mk' {K : PySem.W.Frag} {x : Str} {xs : List V} {a : Addr} {od : Option Addr} {its : Array Value} {n : Nat} {sl : Array (Option Value)} (h : PySem.W.nsIn K mainGlobals x = some (some (.ref a)))
    (b : K.lookup a = some ⟨.type "tuple", od, .seq its n, sl⟩) (z : its.size ≤ sizeLine) (v : Vals xs its.toList) : HasTup K x xs := ⟨a, h, od, its, n, sl, b, z, v⟩
/-! ### what the laws' helpers promise -/
/-! the digits and the place -/
def BoxAt (H : Hp) (p dl : Addr) : Prop := ∃ (ds : List Int) (k : Int), H p = some (.lst [.ref dl, .int k]) ∧ 0 ≤ k ∧ H dl = some (.lst (ds.map V.int)) ∧ ds.length ≤ 4000 ∧ ∀ d ∈ ds, 0 ≤ d ∧ d < 1000
theorem BoxAt.at_ {H : Hp} {p dl : Addr} (h : BoxAt H p dl) : ∃ xs, H p = some (.lst xs) := let ⟨_, _, a, _⟩ := h; ⟨_, a⟩
theorem BoxAt.dg {H : Hp} {p dl : Addr} (h : BoxAt H p dl) : ∃ xs, H dl = some (.lst xs) := let ⟨_, _, _, _, c, _⟩ := h; ⟨_, c⟩
def Keep (p : Addr) (H H' : Hp) : Prop := ∀ b o, H b = some o → b ≠ p → H' b = some o
def spDraw (K : PySem.W.Frag) : Sp := fun vs H Q _ => ∃ (p dl : Addr) (m : Int), vs = [.ref p, .int m] ∧ BoxAt H p dl ∧ 0 < m ∧ ∀ r H', 0 ≤ r → r < m → BoxAt H' p dl → Keep p H H' → Q (.int r) H'
def spCell (K : PySem.W.Frag) : Sp := fun vs H Q _ => ∃ (a : Addr) (ns : List Int) (i : Int), vs = [.ref a, .int i] ∧ SqL K H a (ns.map V.int) ∧ 0 ≤ i ∧ ∀ r, Q (.int r) H
def DigAt (H0 H : Hp) (dl : Addr) (n : Nat) : Prop := ∃ ds : List Int, H dl = some (.lst (ds.map V.int)) ∧ ds.length ≤ n ∧ (∀ d ∈ ds, 0 ≤ d ∧ d < 1000) ∧ Same H0 H
theorem DigAt.mono {H0 H : Hp} {dl : Addr} {n m : Nat} (h : DigAt H0 H dl n) (l : n ≤ m) : DigAt H0 H dl m := let ⟨ds, a, b, c, d⟩ := h; ⟨ds, a, by omega, c, d⟩
theorem DigAt.add {H0 H : Hp} {dl : Addr} {n : Nat} {r : Int} {xs : List V} (h : DigAt H0 H dl n) (hx : H dl = some (.lst xs)) (nd : H0 dl = none) (h0 : 0 ≤ r) (h1 : r < 1000) : DigAt H0 (upd H dl (.lst (xs ++ [.int r]))) dl (n + 1) := by
  obtain ⟨ds, a, b, c, d⟩ := h
  rw [hx] at a
  obtain rfl := HO.lst.inj (Option.some.inj a)
  refine ⟨ds ++ [r], by rw [upd_same, List.map_append]; rfl, by simp; omega, fun z hz => ?_, fun q o e => by rw [upd_ne (ne_of_none e nd)]; exact d q o e⟩
  rcases List.mem_append.mp hz with hz | hz
  · exact c z hz
  · have : z = r := by simpa using hz
    omega
def spDigits (K : PySem.W.Frag) : Sp := fun vs H Q _ => ∃ (a : Addr) (ns : List Int) (lo hi : Nat), vs = [.ref a, .int lo, .int hi] ∧ SqL K H a (ns.map V.int) ∧ lo ≤ hi ∧ hi ≤ 64 ∧
  ∀ (p : Addr) (H' : Hp), H p = none → DigAt H H' p 4000 → Q (.ref p) H'
def spBound : Sp := fun vs H Q _ => vs = [] ∧ Q (.int (2 ^ 256)) H
theorem Keep.trans {p : Addr} {H H1 H2 : Hp} (a : Keep p H H1) (b : Keep p H1 H2) : Keep p H H2 := fun c o h ne => b c o (a c o h ne) ne
theorem Keep.refl (p : Addr) (H : Hp) : Keep p H H := fun _ _ h _ => h
def Sgn (z : Int) : Prop := z = 1 ∨ z = -1
theorem Sgn.mul {z n : Int} (h : Sgn z) : (z * n).natAbs = n.natAbs := by
  rcases h with rfl | rfl <;> omega
theorem Sgn.wide {z n : Int} (h : Sgn z) (hn : n.natAbs < 2 ^ 300) : CMulW z n := wide_mul (a := 2) (b := 300) (by rcases h with rfl | rfl <;> decide) hn (by decide) (by decide) (by decide)
def spNumber (K : PySem.W.Frag) : Sp := fun vs H Q _ => ∃ (p dl : Addr), vs = [.ref p] ∧ BoxAt H p dl ∧ ∀ (n : Int) H', n.natAbs < 2 ^ 260 → BoxAt H' p dl → Keep p H H' → Q (.int n) H'
def spSame (K : PySem.W.Frag) : Sp := fun vs H Q _ => ∃ (x y : V) (d : PyData), vs = [x, y] ∧ Dp K H x d ∧ Dp K H y d ∧ ShowOk d ∧ Q (.bl true) H
theorem Same.keep {p : Addr} {H H' : Hp} (e : Same H H') : Keep p H H' := fun b o h _ => e b o h
theorem BoxAt.same {p dl : Addr} {H H' : Hp} (h : BoxAt H p dl) (e : Same H H') : BoxAt H' p dl := by
  obtain ⟨ds, k, a, b, c, d⟩ := h
  exact ⟨ds, k, e _ _ a, b, e _ _ c, d⟩
theorem BoxAt.upd {p dl l : Addr} {H : Hp} {o : HO} (h : BoxAt H p dl) (h1 : l ≠ p) (h2 : l ≠ dl) : BoxAt (L2.upd H l o) p dl := by
  obtain ⟨ds, k, a, b, c, d⟩ := h
  exact ⟨ds, k, by rw [upd_ne (Ne.symm h1)]; exact a, b, by rw [upd_ne (Ne.symm h2)]; exact c, d⟩
theorem strOk (s : Str) (h : s.cps.toList.all (fun c => decide (c < 16 ^ 8)) = true) : ∀ c ∈ s.cps.toList, c < 16 ^ 8 := fun c hc => of_decide_eq_true (List.all_eq_true.mp h c hc)

/-! ### data without lists: what no change of a list can reach -/
mutual
inductive Dt (K : PySem.W.Frag) (H : Hp) : V → PyData → Prop
  | non : Dt K H .non .none
  | bl (b : Bool) : Dt K H (.bl b) (.bool b)
  | int (i : Int) : Dt K H (.int i) (.int i)
  | str (x : Str) : Dt K H (.str x) (.str x)
  | tup {a : Addr} {xs : List V} {ds : List PyData} : SqT K H a xs → DtAll K H xs ds → Dt K H (.ref a) (.tuple ds)
inductive DtAll (K : PySem.W.Frag) (H : Hp) : List V → List PyData → Prop
  | nil : DtAll K H [] []
  | cons {v : V} {vs : List V} {d : PyData} {ds : List PyData} : Dt K H v d → DtAll K H vs ds → DtAll K H (v :: vs) (d :: ds)
end
mutual
theorem Dt.dp {K : PySem.W.Frag} {H : Hp} : ∀ {v : V} {d : PyData}, Dt K H v d → Dp K H v d
  | _, _, .non => .non
  | _, _, .bl b => .bl b
  | _, _, .int i => .int i
  | _, _, .str x => .str x
  | _, _, .tup h a => .tup h (DtAll.dp a)
theorem DtAll.dp {K : PySem.W.Frag} {H : Hp} : ∀ {vs : List V} {ds : List PyData}, DtAll K H vs ds → DpAll K H vs ds
  | _, _, .nil => .nil
  | _, _, .cons h a => .cons (Dt.dp h) (DtAll.dp a)
end
/-- every tuple that H reads H' reads as well -/
def KeepT (K : PySem.W.Frag) (H H' : Hp) : Prop := ∀ a xs, SqT K H a xs → SqT K H' a xs
mutual
theorem Dt.keepT {K : PySem.W.Frag} {H H' : Hp} (e : KeepT K H H') : ∀ {v : V} {d : PyData}, Dt K H v d → Dt K H' v d
  | _, _, .non => .non
  | _, _, .bl b => .bl b
  | _, _, .int i => .int i
  | _, _, .str x => .str x
  | _, _, .tup h a => .tup (e _ _ h) (DtAll.keepT e a)
theorem DtAll.keepT {K : PySem.W.Frag} {H H' : Hp} (e : KeepT K H H') : ∀ {vs : List V} {ds : List PyData}, DtAll K H vs ds → DtAll K H' vs ds
  | _, _, .nil => .nil
  | _, _, .cons h a => .cons (Dt.keepT e h) (DtAll.keepT e a)
end
theorem KeepT.refl (K : PySem.W.Frag) (H : Hp) : KeepT K H H := fun _ _ h => h
theorem KeepT.trans {K : PySem.W.Frag} {H H1 H2 : Hp} (a : KeepT K H H1) (b : KeepT K H1 H2) : KeepT K H H2 := fun c xs h => b c xs (a c xs h)
theorem Same.keepT {K : PySem.W.Frag} {H H' : Hp} (e : Same H H') : KeepT K H H' := fun _ _ h => Same.tupl e h
theorem Keep.keepT {K : PySem.W.Frag} {p : Addr} {H H' : Hp} (e : Keep p H H') (hp : ∃ xs, H p = some (.lst xs)) : KeepT K H H' := fun a xs h => by
  obtain ⟨ys, hp⟩ := hp
  rcases h with (h | ⟨o, h⟩) | h
  · exact .inl (.inl (e _ _ h (ne_of h hp (by intro z; cases z))))
  · exact .inl (.inr ⟨o, e _ _ h (ne_of h hp (by intro z; cases z))⟩)
  · exact .inr h
theorem KeepT.upd {K : PySem.W.Frag} {p : Addr} {H : Hp} {o : HO} {xs : List V} (hp : H p = some (.lst xs)) : KeepT K H (upd H p o) :=
  Keep.keepT (p := p) (fun b u e hb => by rw [upd_ne hb]; exact e) ⟨xs, hp⟩
theorem Dt.mono {K : PySem.W.Frag} {H H' : Hp} {v : V} {d : PyData} (e : Same H H') (h : Dt K H v d) : Dt K H' v d := h.keepT (Same.keepT e)
theorem DtAll.mono {K : PySem.W.Frag} {H H' : Hp} {v : List V} {d : List PyData} (e : Same H H') (h : DtAll K H v d) : DtAll K H' v d := h.keepT (Same.keepT e)
theorem Dt.made {K : PySem.W.Frag} {H : Hp} {p : Addr} {xs : List V} {ds : List PyData} (hp : H p = none) (h : DtAll K H xs ds) : Dt K (L2.upd H p (.tup xs)) (.ref p) (.tuple ds) := .tup (SqT.of upd_same) (DtAll.mono (Same.new hp) h)
theorem DtAll.length {K : PySem.W.Frag} {H : Hp} {vs : List V} {ds : List PyData} (h : DtAll K H vs ds) : vs.length = ds.length := LK.DpAll.length h.dp
theorem DtAll.app {K : PySem.W.Frag} {H : Hp} : ∀ {vs ws : List V} {ds es : List PyData}, DtAll K H vs ds → DtAll K H ws es → DtAll K H (vs ++ ws) (ds ++ es)
  | _, _, _, _, .nil, t => t
  | _, _, _, _, .cons h a, t => .cons h (DtAll.app a t)
theorem DtAll.get {K : PySem.W.Frag} {H : Hp} : ∀ {vs : List V} {ds : List PyData} {i : Nat} {d : PyData}, DtAll K H vs ds → ds[i]? = some d → ∃ v, vs[i]? = some v ∧ Dt K H v d
  | _, _, 0, _, .cons h _, e => ⟨_, rfl, Option.some.inj e ▸ h⟩
  | _, _, i + 1, _, .cons _ a, e => DtAll.get (i := i) a e
theorem DtAll.getV {K : PySem.W.Frag} {H : Hp} : ∀ {vs : List V} {ds : List PyData} {i : Nat} {v : V}, DtAll K H vs ds → vs[i]? = some v → ∃ d, ds[i]? = some d ∧ Dt K H v d
  | _, _, 0, _, .cons h _, e => ⟨_, rfl, Option.some.inj e ▸ h⟩
  | _, _, i + 1, _, .cons _ a, e => DtAll.getV (i := i) a e
theorem Dt.tuple_inv {K : PySem.W.Frag} {H : Hp} {v : V} {ds : List PyData} (h : Dt K H v (.tuple ds)) : ∃ a xs, v = .ref a ∧ SqT K H a xs ∧ DtAll K H xs ds := by
  cases h with
  | tup h a => exact ⟨_, _, rfl, h, a⟩
theorem DtAll.cons_inv {K : PySem.W.Frag} {H : Hp} {vs : List V} {d : PyData} {ds : List PyData} (h : DtAll K H vs (d :: ds)) : ∃ v ws, vs = v :: ws ∧ Dt K H v d ∧ DtAll K H ws ds := by
  cases h with
  | cons h a => exact ⟨_, _, rfl, h, a⟩
theorem DtAll.nil_inv {K : PySem.W.Frag} {H : Hp} {vs : List V} (h : DtAll K H vs []) : vs = [] := by cases h; rfl
theorem Dt.int_inv {K : PySem.W.Frag} {H : Hp} {v : V} {i : Int} (h : Dt K H v (.int i)) : v = .int i := by cases h; rfl
theorem Dt.str_inv {K : PySem.W.Frag} {H : Hp} {v : V} {x : Str} (h : Dt K H v (.str x)) : v = .str x := by cases h; rfl
theorem Dt.bool_inv {K : PySem.W.Frag} {H : Hp} {v : V} {b : Bool} (h : Dt K H v (.bool b)) : v = .bl b := by cases h; rfl
theorem dtStrs {K : PySem.W.Frag} {H : Hp} : ∀ xs : List Str, DtAll K H (xs.map V.str) (xs.map PyData.str)
  | [] => .nil
  | x :: xs => .cons (.str x) (dtStrs xs)
end LK

set_option Elab.async false
set_option linter.all false
set_option maxRecDepth 100000
set_option maxHeartbeats 4000000
/-! enumerate of a tuple. -/
namespace LK
open PySem PySem.Spec PyProof.Rows L2
open AutoSeq1 (wpAny_loadPart')
open Sem (wp)
def enumObj (it : Addr) : Obj := { cls := .type "enumerate", data := .fields #[.none, .bool false, .ref it, rawInt 0, .none, .none] }
def tupIt (t : Addr) : Obj := { cls := .type "tuple_iterator", data := .fields #[.ref t, .int 0 0] }
theorem meets_enumT (t : Addr) (items : Array Value) (n : Nat) (dct : Option Addr) (sl : Array (Option Value)) :
    Meets (Builtin.«enumerate.__new__» ⟨[.type "enumerate", .ref t], []⟩) (fun _ R s => s.heap.get? t = some { cls := .type "tuple", dict := dct, data := .seq items n, slots := sl } ∧
      R (.ok (.ret (.ref (s.heap.push (tupIt t)).objs.size))) { s with heap := (s.heap.push (tupIt t)).push (enumObj s.heap.objs.size) }) :=
  .of_wp fun prog w A R s h => by
    obtain ⟨hp, g, d, tk, os⟩ := s
    obtain ⟨hl, h⟩ := h
    have hsub := sub_enumerate
    have hT : Heap.IsTuple (Shared.heap ⟨hp, g, d, tk, os⟩) t items := ⟨_, hl, rfl, n, rfl⟩
    wp_walk using wpAny_loadPart' hl
    refine wpAny_stack_any fun st => wpAny_pure ?_
    split
    · rename_i c _ _ _ _ _
      cases (c == Value.type "enumerate") <;> (wp_walk using wpAny_loadPart' hl, wpAny_pyIter_tuple hT; exact ⟨_, rfl, h⟩)
    · wp_walk using wpAny_loadPart' hl, wpAny_pyIter_tuple hT
      exact ⟨_, rfl, h⟩
section
variable {prog : Program} {w : World} {A : Around} {E : Value → Shared → Prop} {s : Shared}
theorem call_enumT {t : Addr} {items : Array Value} {Q : Value → Shared → Prop} (hT : s.heap.IsTuple t items)
    (h : ∀ h', IsEnum h' (s.heap.objs.size + 1) s.heap.objs.size 0 .none → h'.IsTupleIter s.heap.objs.size t 0 → (∀ b o, s.heap.get? b = some o → h'.get? b = some o) → Q (.ref (s.heap.objs.size + 1)) { s with heap := h' }) :
    wpAny (model prog w) A (call (.type "enumerate") [.ref t]) Q E s := by
  obtain ⟨⟨c, dct, dt, sl⟩, hl, hc, n, hd⟩ := hT
  obtain rfl : c = .type "tuple" := hc
  obtain rfl : dt = .seq items n := hd
  refine callType_new F.called_enumerate (by decide) (F.typeCall_enumerate_1 _) (F.newCall_enumerate_1 _) (fun obj => F.args_object_init_2 obj _) F.entry_enumerate_new (meets_enumT t items n dct sl) ⟨hl, ?_⟩
  have hz : (s.heap.push (tupIt t)).objs.size = s.heap.objs.size + 1 := Heap.size_push ..
  have he : IsEnum ((s.heap.push (tupIt t)).push (enumObj s.heap.objs.size)) (s.heap.objs.size + 1) s.heap.objs.size 0 .none := by
    have q := Heap.get?_push_size (s.heap.push (tupIt t)) (o := enumObj s.heap.objs.size) rfl
    rw [hz] at q
    exact q
  show _ ∧ _
  rw [hz]
  exact ⟨⟨_, he, rfl⟩, h _ he (Heap.get?_push_of_some _ (Heap.get?_push_size _ rfl) |> fun q => ⟨_, q, rfl, rfl⟩) fun b o x => Heap.get?_push_of_some _ (Heap.get?_push_of_some _ x)⟩
end
/-- the tuple at a, each item in a new pair with its place -/
def IteT (K : PySem.W.Frag) (a : Addr) : It where
  go := fun i H => ∃ (xs : List V) (x : V), SqT K H a xs ∧ xs[i]? = some x
  yld := fun i H v H' => ∃ T x, v = .ref T ∧ H T = none ∧ H' = upd H T (.tup [.int (i : Nat), x]) ∧ ∀ xs, SqT K H a xs → xs[i]? = some x
  stop := fun i H => ∃ xs : List V, SqT K H a xs ∧ xs.length = i
theorem turn_enumT {P : Program} {w : World} {K : PySem.W.Frag} {elts : List Expr} {kk : Nat} {tpos : Pos} (a e it : Addr) :
    Turn P w K (.Tuple elts kk tpos) (IteT K a) [e, it] e (fun i h => (∃ old, IsEnum h e it ((i : Nat) : Int) old) ∧ h.IsTupleIter it a i ∧ e ≠ it) where
  mem := List.mem_cons_self
  obj := fun i h st b hb => by
    obtain ⟨⟨old, he⟩, ⟨o, ho, hc, hd⟩, _⟩ := st
    have hb : b = e ∨ b = it := by simpa using hb
    rcases hb with rfl | rfl
    · exact ⟨_, he, fun v q => nomatch q⟩
    · exact ⟨o, ho, fun v q => by rw [hd] at q; cases q⟩
  keep := fun i h h' st k => by
    obtain ⟨⟨old, he⟩, hi, hne⟩ := st
    exact ⟨⟨old, k e (by simp) _ he⟩, hi.at fun o q => k it (by simp) o q, hne⟩
  item := by
    intro X hP hw hK hc i pins s σ H E I hf st hg
    subst hP hw hK
    obtain ⟨⟨old, he⟩, hit, hne⟩ := st
    obtain ⟨xs, x, hq, hx⟩ := hg
    obtain ⟨its, rv, p, hz⟩ := I.tuple hq
    obtain ⟨u, hu, ru⟩ := rv.get hx
    have hel : e < s.heap.objs.size := Heap.lt_size he
    have hil : it < s.heap.objs.size := by obtain ⟨_, q, _⟩ := hit; exact Heap.lt_size q
    have hat : a ≠ it := by
      intro z
      subst z
      obtain ⟨o, q1, c1, _⟩ := hit
      obtain ⟨o', q2, c2, _⟩ := p
      rw [q1] at q2; cases q2
      exact absurd (Value.type.inj (c1.symm.trans c2)) (by decide)
    have D := Draws.tuple (prog := X.prog) (w := X.w) (A := X.A.in1) (I.ok.hd hc) it a hat its.toArray
    have Dst : (fun i (h : Heap) => h.IsTupleIter it a i ∧ h.IsTuple a its.toArray) i s.heap := ⟨hit, p⟩
    have eat : e ≠ a := by
      intro z
      subst z
      obtain ⟨o', q2, c2, _⟩ := p
      rw [he] at q2; cases q2
      exact absurd (Value.type.inj c2) (by decide)
    have hi : i < its.toArray.size := by
      have := (List.getElem?_eq_some_iff.mp hu).1
      simpa using this
    refine wpAny_pyNext_enum_itemD D he Dst hi hne (by simp [hne, eat]) fun v h' tk hv ho hst hT hsz hk => ?_
    obtain rfl : v = u := by
      have hv : its.toArray[i]? = some v := hv
      rw [show its.toArray[i]? = some u by simpa using hu] at hv
      exact (Option.some.inj hv).symm
    refine ⟨_, rfl, wpAny_letOwnedTupleGo_enum (s := { s with heap := h', toks := tk + 1 }) ho fun h'' he' sb => ?_⟩
    have hT2 := (sb.2 _ (Nat.ne_of_gt hel)).trans hT
    have new : ObjOk X.prog X.w (upd H s.heap.objs.size (.tup [.int (i : Nat), x])) h'' s.heap.objs.size (.tup [.int (i : Nat), x]) :=
      ⟨by show 2 ≤ sizeLine; decide, [.int i tk, v], .cons ⟨_, rfl⟩ (.cons ru .nil), ⟨_, hT2, rfl, _, rfl⟩⟩
    have I1 : Inv X pins σ (upd H s.heap.objs.size (.tup [.int (i : Nat), x])) { s with heap := h'', toks := tk + 1 } :=
      I.turnedNew (ch := [e, it]) (fun b ob hb q => (sb.2 b (fun z => hb (by simp [z]))).trans (hk b ob (fun z => hb (by simp [z])) (fun z => hb (by simp [z])) q)) hf (Nat.le_refl _) new
    refine ⟨.ref s.heap.objs.size, _, I1, rfl, ⟨_, x, rfl, I.hok.fresh (Nat.le_refl _), rfl, fun ys hy => by rw [I.tuple_inj hy hq]; exact hx⟩, ⟨⟨v, ?_⟩, hst.1.at fun o q => (sb.2 it (Ne.symm hne)).trans q, hne⟩, fun b hb => ?_⟩
    · rw [show ((i + 1 : Nat) : Int) = (i : Int) + 1 by omega]
      exact he'
    · have hb' : b < s.heap.objs.size := by
        have z : b = e ∨ b = it := by simpa using hb
        rcases z with rfl | rfl <;> assumption
      rw [upd_ne (Nat.ne_of_lt hb')]
      exact (hf b hb).1
  done := by
    intro X hP hw hK hc i pins s σ H E I hf st hg
    subst hP hw hK
    obtain ⟨⟨old, he⟩, hit, hne⟩ := st
    obtain ⟨xs, hq, hx⟩ := hg
    obtain ⟨its, rv, p, hz⟩ := I.tuple hq
    obtain ⟨f0, f1, f2, f3, f4, f5⟩ := hf it (by simp)
    have hl := rv.length
    have hat : a ≠ it := by
      intro z
      subst z
      obtain ⟨o, q1, c1, _⟩ := hit
      obtain ⟨o', q2, c2, _⟩ := p
      rw [q1] at q2; cases q2
      exact absurd (Value.type.inj (c1.symm.trans c2)) (by decide)
    have D := Draws.tuple (prog := X.prog) (w := X.w) (A := X.A.in1) (I.ok.hd hc) it a hat its.toArray
    have hn : i = its.toArray.size := by simp; omega
    subst hn
    exact wpAny_pyNext_enum_endD D he ⟨hit, p⟩ fun h' eb => ⟨rfl, I.turned (t' := s.toks) (fun b o hb q => eb b o hb q) f0 f1 f3 f4 f5⟩
  self := fun A i s Q E st h => let ⟨⟨_, he⟩, _⟩ := st; wpAny_pyIter_enum he h
def iEnumT (K : PySem.W.Frag) (ta : TA) : TI := fun σ H R => ta σ H fun vs H1 => ∃ a xs, vs = [.ref a] ∧ SqT K H1 a xs ∧ R (IteT K a) H1
theorem pi_enumT {X : Cx} {e : Expr} {ta : TA} {p pos tpos : Pos} {elts : List Expr} {kk : Nat} (hg : Gl X "enumerate") (hm : X.mg "enumerate" = none) (ha : PA X [e] ta) (hs : starEach [e] X.env = [(false, eval e X.env)] := by rfl) :
    PI X (.Tuple elts kk tpos) (.Call (.Name "enumerate" p) [e] [] pos) (iEnumT X.K ta) := by
  refine ⟨fun pins s σ H R I h => ?_⟩
  refine Call_ (ld_blt I hg hm boot_enumerate (PyProof.Rows.callWith_type1 (thn (ha.run pos pins s σ H _ I h) fun us s1 ⟨vs, H1, I1, r1, q1⟩ => ?_) hs rfl))
  obtain ⟨a, xs, rfl, hq, q⟩ := q1
  cases r1 with
  | cons r rr =>
    cases rr
    cases r
    obtain ⟨its, rv, p', hz⟩ := I1.tuple hq
    refine call_enumT (show s1.heap.IsTuple a its.toArray from p') fun h' he hit hk => wpAny_pyIter_enum he ?_
    refine ⟨s1.heap.objs.size + 1, [s1.heap.objs.size + 1, s1.heap.objs.size], _, _, H1, rfl, I1.kept (t' := s1.toks) hk, turn_enumT a (s1.heap.objs.size + 1) s1.heap.objs.size, ⟨⟨.none, he⟩, hit, Nat.succ_ne_self _⟩, fun b hb => ?_, q⟩
    have hle : s1.heap.objs.size ≤ b := by
      have z : b = s1.heap.objs.size + 1 ∨ b = s1.heap.objs.size := by simpa using hb
      rcases z with rfl | rfl <;> omega
    exact I1.fpOk hle (I1.hok.fresh hle)
theorem walk_enumT {K : PySem.W.Frag} {a : Addr} {xs : List V} : Walk (IteT K a) xs.length (fun H => SqT K H a xs) (YPair (fun i => some (.int (i : Nat))) (fun i => xs[i]?)) := by
  refine ⟨fun i _ hi q => ⟨xs, xs[i], q, by simp [hi]⟩, fun _ q => ⟨xs, q, rfl⟩, fun i H v H' _ q y => ?_⟩
  obtain ⟨T, x, h1, h2, h3, h4⟩ := y
  exact ⟨T, .int (i : Nat), x, h1, h2, h3, rfl, h4 xs q⟩

/-! ### comprehensions whose items are data -/
theorem tYes_of {σ : L2.St} {H : Hp} {P R : Hp → Prop} (h : P H) : tYes σ H fun b H3 => if b = true then P H3 else R H3 := by
  show (if true = true then P H else R H)
  rw [if_pos rfl]
  exact h
/-- each turn gives data and leaves what stood; no test -/
theorem lc_dt {K : PySem.W.Frag} {J : It} {n : Nat} {G : Hp → Prop} {Y : Nat → Hp → V → Hp → Prop} (w : Walk J n G Y) {g : TG} {te : TE} {vs : List Nat} {σ : L2.St} {H : Hp} {D : Addr} {Qd : Hp → Prop} (hD : H D = none) (ds : List PyData) (hn : ds.length = n) (hz : n < sizeLine)
    (hG : ∀ H', Same H H' → G H')
    (hs : ∀ i x H1 H2 d (Nx : V → Hp → Prop), i < n → ds[i]? = some d → Same H H1 → (∃ acc, H1 D = some (.lst acc)) → Y i H1 x H2 → (∀ y H5, Same H1 H5 → Dt K H5 y d → Nx y H5) →
      g x (wipe σ vs) H2 fun σ2 H3 => wipe σ2 vs = wipe σ vs ∧ te σ2 H3 Nx)
    (hd : ∀ H' acc, Same H H' → H' D = some (.lst acc) → DtAll K H' acc ds → Qd H')
    (mono : ∀ x σ H Q Q', (∀ σ' H', Q σ' H' → Q' σ' H') → g x σ H Q → g x σ H Q') :
    ∃ W : Nat → Nat → Hp → Prop, (∃ m, W 0 m (upd H D (.lst []))) ∧ ∀ i m H, W i m H →
      (J.stop i H ∧ Qd H) ∨ (J.go i H ∧ ∃ Nx : Hp → Prop, (∀ H', Nx H' → ∃ m', m' < m ∧ W (i + 1) m' H') ∧ ∀ x H', J.yld i H x H' → g x (wipe σ vs) H' fun σ2 H2 => wipe σ2 vs = wipe σ vs ∧ tYes σ2 H2 fun b H3 =>
        if b = true then te σ2 H3 fun y H4 => ∃ acc, H4 D = some (.lst acc) ∧ acc.length < sizeLine ∧ Nx (upd H4 D (.lst (acc ++ [y]))) else Nx H3) := by
  refine lc_it w (fun i H' => ∃ acc, H' D = some (.lst acc) ∧ DtAll K H' acc (ds.take i) ∧ Same H H') ⟨[], upd_same, .nil, Same.new hD⟩ (fun i H' _ h => let ⟨_, _, _, s⟩ := h; hG H' s) (fun i x H1 H2 hi h y => ?_) fun H' h => ?_
  · obtain ⟨acc, a1, a2, a3⟩ := h
    have hi' : i < ds.length := by omega
    have hg := hs i x H1 H2 ds[i] (fun y H4 => ∃ acc, H4 D = some (.lst acc) ∧ acc.length < sizeLine ∧ ∃ acc', upd H4 D (.lst (acc ++ [y])) D = some (.lst acc') ∧ DtAll K (upd H4 D (.lst (acc ++ [y]))) acc' (ds.take (i + 1)) ∧ Same H (upd H4 D (.lst (acc ++ [y]))))
      hi (List.getElem?_eq_getElem hi') a3 ⟨acc, a1⟩ y fun y H5 s hy => ?_
    · exact mono _ _ _ _ _ (fun σ2 H3 q => ⟨q.1, tYes_of q.2⟩) hg
    · have b1 := s _ _ a1
      have kt : KeepT K H5 (upd H5 D (.lst (acc ++ [y]))) := KeepT.upd b1
      refine ⟨acc, b1, ?_, _, upd_same, ?_, fun b o e => ?_⟩
      · rw [a2.length, List.length_take]; omega
      · rw [List.take_succ, List.getElem?_eq_getElem hi']
        exact DtAll.app (DtAll.keepT (KeepT.trans (Same.keepT s) kt) a2) (.cons (Dt.keepT kt hy) .nil)
      · rw [upd_ne (ne_of_none e hD)]
        exact s _ _ (a3 _ _ e)
  · obtain ⟨acc, a1, a2, a3⟩ := h
    rw [← hn, List.take_length] at a2
    exact hd H' acc a3 a1 a2
theorem mono_name {i : Nat} : ∀ x (σ : L2.St) (H : Hp) (Q Q' : L2.St → Hp → Prop), (∀ σ' H', Q σ' H' → Q' σ' H') → gName i x σ H Q → gName i x σ H Q' := fun _ _ _ _ _ h q => h _ _ q
theorem mono_tup2 {K : PySem.W.Frag} {i j n : Nat} : ∀ x (σ : L2.St) (H : Hp) (Q Q' : L2.St → Hp → Prop), (∀ σ' H', Q σ' H' → Q' σ' H') → gTup K n (gCons (gName i) (gCons (gName j) gNil)) x σ H Q → gTup K n (gCons (gName i) (gCons (gName j) gNil)) x σ H Q' := by
  rintro x σ H Q Q' h ⟨a, xs, e1, e2, e3, v, r, e4, v', r', e5, e6, q⟩
  exact ⟨a, xs, e1, e2, e3, v, r, e4, v', r', e5, e6, h _ _ q⟩
end LK

set_option Elab.async false
set_option linter.all false
set_option maxRecDepth 100000
set_option maxHeartbeats 4000000
set_option exponentiation.threshold 3000
/-! More rules: text * int, two rules at one place, what == says of data. -/
namespace LK
open PySem PySem.Spec PyProof.Rows L2
theorem at_of' {α : Type} {xs : List α} {z : Int} {j : Nat} {v : α} (e : z = (j : Int)) (h : xs[j]? = some v) : atI xs z = some v := by
  rw [e]
  exact atI_nat h
/-- z repeated k times, by its codes -/
def repC (z : List Nat) (k : Int) : List Nat := (List.replicate k.toNat z).flatten
def repS (z : Str) (k : Int) : Str := ⟨(repC z.cps.toList k).toArray⟩
theorem repC_length (z : List Nat) (k : Int) : (repC z k).length = k.toNat * z.length := by simp [repC]
theorem foldl_arr (z : Array Nat) : ∀ (n : Nat) (acc : Array Nat), (List.replicate n z).foldl (· ++ ·) acc = acc ++ (List.replicate n z.toList).flatten.toArray
  | 0, acc => by simp
  | n + 1, acc => by
    rw [List.replicate_succ, List.foldl_cons, foldl_arr z n, List.replicate_succ, List.flatten_cons]
    apply Array.ext'
    simp
def rRepS : R2 := fun x y H Q => ∃ (z : Str) (k : Int), x = .str z ∧ y = .int k ∧ -1000000000000 ≤ k ∧ k < 1000000000000 ∧ z.length * k.toNat ≤ 1000000 ∧ Q (.str (repS z k)) H
theorem repS_arr (z : Str) (k : Int) : (⟨(List.replicate k.toNat z.cps).foldl (· ++ ·) #[]⟩ : Str) = repS z k := by
  rw [foldl_arr]
  simp [repS, repC]
theorem op_rep_str {X : Cx} : OpR X (binaryOp .Mult) rRepS := by
  intro pins s σ H x y v u Q I rx ry h
  obtain ⟨z, k, rfl, rfl, h1, h2, h3, q⟩ := h
  obtain ⟨t, rfl⟩ := rx
  obtain ⟨t', rfl⟩ := ry
  have szl : (1000000 : Nat) ≤ sizeLine := by decide
  have e1 : ¬ k < 1 → k = (k.toNat : Int) := fun h => by omega
  refine PySem.P.mul_str ?_ (fun hk hz => ?_) (fun hk hz => ?_) ?_
  · rw [decide_eq_false (by omega), decide_eq_false (by omega)]; rfl
  · have e0 : z.length ≠ 0 := fun e => by rw [e] at hz; simp at hz
    have hd : (9223372036854775807 : Int) / k ≥ 1000000 := by
      apply Int.le_ediv_of_mul_le (by omega)
      have hlen : k.toNat ≤ 1000000 := Nat.le_trans (Nat.le_mul_of_pos_left _ (by omega)) h3
      omega
    have hl : z.length ≤ 1000000 := Nat.le_trans (Nat.le_mul_of_pos_right _ (by omega)) h3
    show ¬ ((z.length : Int) > 9223372036854775807 / k)
    omega
  · unfold Builtin.Str.tooLong
    simp
    omega
  · split
    · rename_i hk
      have e : repS z k = Str.empty := by
        have : k.toNat = 0 := by omega
        simp [repS, repC, this]; rfl
      refine ⟨by decide, .str _, H, I.tok _, ⟨_, rfl⟩, ?_⟩
      rw [← e]; exact q
    · rename_i hk
      split
      · rename_i hz
        have e : repS z k = z := by
          rcases Bool.or_eq_true_iff.mp hz with h | h
          · have : k = 1 := by simpa using h
            subst this
            simp [repS, repC]
          · have : z.cps.toList = [] := by
              have : z.cps.size = 0 := by simpa [Str.length] using h
              exact List.eq_nil_of_length_eq_zero (by simpa using this)
            have e2 : (List.replicate k.toNat ([] : List Nat)).flatten = [] := by simp
            unfold repS repC
            rw [this, e2]
            cases z with
            | mk c =>
              have : c = #[] := Array.toList_inj.mp (by simpa using this)
              subst this; rfl
        refine ⟨.str _, H, I, ⟨t, rfl⟩, ?_⟩
        rw [← e]; exact q
      · rw [repS_arr]
        refine ⟨?_, .str _, H, I.tok _, ⟨_, rfl⟩, q⟩
        show (repC z.cps.toList k).toArray.size ≤ sizeLine
        rw [List.size_toArray, repC_length]
        have : z.cps.toList.length = z.length := by simp [Str.length]
        rw [this, Nat.mul_comm]; omega
/-! ### the objects at the beginning -/
def clsNames : List Str := ["Exception", "ArithmeticError", "ZeroDivisionError", "OverflowError", "LookupError", "IndexError", "KeyError", "NameError", "AttributeError", "TypeError", "ValueError", "StopIteration", "RuntimeError", "RecursionError", "MemoryError", "HostError"]
def clsBases : List Int := [-1, 1, 2, 2, 1, 5, 5, 1, 1, 1, 1, 1, 1, 13, 1, 1]
def builtNames : List Str := ["print", "len", "range", "repr", "str", "int", "list", "tuple", "dict", "iter", "next", "isinstance", "abs"]
def clsVar (i : Nat) (n : Str) : PyData := .tuple [.str n, .tuple [.str "ref", .int ((i : Int) + 1)]]
def nameVar (k n : Str) : PyData := .tuple [.str n, .tuple [.str k, .str n]]
def clsObj (n : Str) (b : Int) : PyData := .tuple [.str "class", .str n, .int b, .tuple []]
def clsVars : List PyData := clsNames.mapIdx clsVar
def startVars (hs : List Str) : List PyData := clsVars ++ builtNames.map (nameVar "built") ++ hs.map (nameVar "host")
def startD (hs : List Str) : List PyData := .tuple [.str "scope", .tuple (startVars hs), .tuple [], .tuple [], .int (-1), .bool false] :: List.zipWith clsObj clsNames clsBases
/-- a list at p, of the data ds -/
def ListAt (K : PySem.W.Frag) (H : Hp) (p : Addr) (ds : List PyData) : Prop := ∃ xs, H p = some (.lst xs) ∧ DtAll K H xs ds
def spStart (K : PySem.W.Frag) : Sp := fun vs H Q _ => ∃ (t : Addr) (hs : List Str), vs = [.ref t] ∧ SqT K H t (hs.map V.str) ∧ hs.length ≤ 1000 ∧
  ∀ (p : Addr) (H' : Hp), H p = none → Same H H' → ListAt K H' p (startD hs) → Q (.ref p) H'
theorem at0 {α : Type} {x : α} {ws : List α} : atI (x :: ws) 0 = some x := at_of' (j := 0) rfl rfl
theorem at1 {α : Type} {x y : α} {ws : List α} : atI (x :: y :: ws) 1 = some y := at_of' (j := 1) rfl rfl
theorem at2 {α : Type} {x y z : α} {ws : List α} : atI (x :: y :: z :: ws) 2 = some z := at_of' (j := 2) rfl rfl
/-- a written pair, triple as it is read -/
theorem Dt.head {K : PySem.W.Frag} {H : Hp} {v : V} {z : Str} {rest : List PyData} (h : Dt K H v (.tuple (.str z :: rest))) : ∃ a ws, v = .ref a ∧ SqT K H a (.str z :: ws) ∧ DtAll K H ws rest := by
  obtain ⟨q, xs, rfl, hs, ha⟩ := h.tuple_inv
  obtain ⟨x, ws, rfl, h1, hw⟩ := ha.cons_inv
  cases h1.str_inv
  exact ⟨q, ws, rfl, hs, hw⟩
theorem Dt.pair {K : PySem.W.Frag} {H : Hp} {v : V} {z : Str} {d : PyData} (h : Dt K H v (.tuple [.str z, d])) : ∃ a x, v = .ref a ∧ SqT K H a [.str z, x] ∧ Dt K H x d := by
  obtain ⟨a, ws, rfl, hs, hw⟩ := h.head
  obtain ⟨x, ws', rfl, h1, hn⟩ := hw.cons_inv
  cases hn.nil_inv
  exact ⟨a, x, rfl, hs, h1⟩
theorem Dt.triple {K : PySem.W.Frag} {H : Hp} {v : V} {z : Str} {d e : PyData} (h : Dt K H v (.tuple [.str z, d, e])) : ∃ a x y, v = .ref a ∧ SqT K H a [.str z, x, y] ∧ Dt K H x d ∧ Dt K H y e := by
  obtain ⟨a, ws, rfl, hs, hw⟩ := h.head
  obtain ⟨x, ws', rfl, h1, hn⟩ := hw.cons_inv
  obtain ⟨y, ws'', rfl, h2, hn2⟩ := hn.cons_inv
  cases hn2.nil_inv
  exact ⟨a, x, y, rfl, hs, h1, h2⟩
theorem listAt_mono {K : PySem.W.Frag} {H H' : Hp} {p : Addr} {ds : List PyData} (h : ListAt K H p ds) (e : Same H H') : ListAt K H' p ds := by
  obtain ⟨xs, hx, ax⟩ := h
  exact ⟨xs, e _ _ hx, DtAll.mono e ax⟩
theorem eqv_nil (ds : List PyData) : PyData.eqv (.tuple ds) (.tuple []) = ds.isEmpty := by
  cases ds <;> simp [PyData.eqv, PyData.eqvAll]
theorem listAt_upd {K : PySem.W.Frag} {H : Hp} {l l' : Addr} {ds : List PyData} {xs : List V} {o : HO} (h : ListAt K H l ds) (ne : l ≠ l') (hl : H l' = some (.lst xs)) : ListAt K (upd H l' o) l ds := by
  obtain ⟨ys, hy, ay⟩ := h
  exact ⟨ys, by rw [upd_ne ne]; exact hy, DtAll.keepT (KeepT.upd hl) ay⟩
theorem listAt_app {K : PySem.W.Frag} {H : Hp} {l : Addr} {ds : List PyData} {xs : List V} {v : V} {d : PyData} (h : ListAt K H l ds) (hl : H l = some (.lst xs)) (hd : Dt K H v d) : ListAt K (upd H l (.lst (xs ++ [v]))) l (ds ++ [d]) := by
  obtain ⟨ys, hy, ay⟩ := h
  rw [hl] at hy
  obtain rfl := HO.lst.inj (Option.some.inj hy)
  exact ⟨_, upd_same, DtAll.app (DtAll.keepT (KeepT.upd hl) ay) (.cons (Dt.keepT (KeepT.upd hl) hd) .nil)⟩
theorem listAt_keep {K : PySem.W.Frag} {H H' : Hp} {l p : Addr} {ds : List PyData} (h : ListAt K H l ds) (e : Keep p H H') (ne : l ≠ p) (hp : ∃ xs, H p = some (.lst xs)) : ListAt K H' l ds := by
  obtain ⟨ys, hy, ay⟩ := h
  exact ⟨ys, e _ _ hy ne, DtAll.keepT (Keep.keepT e hp) ay⟩
theorem listAt_made {K : PySem.W.Frag} {H : Hp} {l : Addr} {xs : List V} {ds : List PyData} (hl : H l = none) (h : DtAll K H xs ds) : ListAt K (upd H l (.lst xs)) l ds := ⟨xs, upd_same, DtAll.mono (Same.new hl) h⟩
/-! how long the objects at the beginning are, shown -/
def shortS (n : Str) : Bool := decide (n.length ≤ 40) && n.cps.toList.all (fun c => decide (c < 16 ^ 8))
theorem Sm.short {n : Str} (h : shortS n = true) : Sm (.str n) 0 500 := by
  obtain ⟨h1, h2⟩ := Bool.and_eq_true_iff.mp h
  exact (Sm.str (of_decide_eq_true h1) (strOk n h2)).mono (by decide) (by decide)
theorem cls_short : ∀ n ∈ clsNames, shortS n = true := by decide +kernel
theorem built_short : ∀ n ∈ builtNames, shortS n = true := by decide +kernel
theorem Sm.nm {k n : Str} (hk : shortS k = true) (hn : shortS n = true) : Sm (nameVar k n) 3 4000 :=
  (Sm.tup (.cons (Sm.short hn) (.cons (Sm.tup (.cons (Sm.short hk) (.cons (Sm.short hn) .nil))) .nil))).mono (by decide) (by decide)
theorem Sm.cv {i : Nat} {n : Str} (hi : i < 1000) (hn : shortS n = true) : Sm (clsVar i n) 3 4000 :=
  (Sm.tup (.cons (Sm.short hn) (.cons (Sm.tup (.cons (Sm.short (n := "ref") (by decide +kernel)) (.cons (Sm.int (Nat.lt_of_lt_of_le (show ((i : Int) + 1).natAbs < 2 ^ 20 by omega) (Nat.pow_le_pow_right (by decide) (by decide)))) .nil))) .nil))).mono (by decide) (by decide)
theorem Sm.co {b : Int} {n : Str} (hb : b.natAbs < 1000) (hn : shortS n = true) : Sm (clsObj n b) 3 4000 :=
  (Sm.tup (.cons (Sm.short (n := "class") (by decide +kernel)) (.cons (Sm.short hn) (.cons (Sm.int (Nat.lt_of_lt_of_le (show b.natAbs < 2 ^ 20 by omega) (Nat.pow_le_pow_right (by decide) (by decide)))) (.cons (Sm.tup .nil) .nil))))).mono (by decide) (by decide)
theorem SmAll.mem {ds : List PyData} {dp n N m M : Nat} (h : SmAll ds dp n N) (h1 : n ≤ m) (h2 : N ≤ M) : SmAll ds dp m M := ⟨h.ok, h.dp, Nat.le_trans h.len h1, Nat.le_trans h.sz h2⟩
theorem sm_vars {hs : List Str} {L : Nat} (h : ∀ n ∈ hs, shortS n = true) (hl : hs.length ≤ L) : SmAll (startVars hs) 3 (29 + L) (4000 * (29 + L)) := by
  have h1 : ∀ d ∈ startVars hs, Sm d 3 4000 := fun d hd => by
    rcases List.mem_append.mp hd with hd | hd
    · rcases List.mem_append.mp hd with hd | hd
      · obtain ⟨i, hi, rfl⟩ := List.mem_mapIdx.mp hd
        exact Sm.cv (Nat.lt_trans hi (by decide)) (cls_short _ (List.getElem_mem hi))
      · obtain ⟨n, hn, rfl⟩ := List.mem_map.mp hd
        exact Sm.nm (by decide +kernel) (built_short n hn)
    · obtain ⟨n, hn, rfl⟩ := List.mem_map.mp hd
      exact Sm.nm (by decide +kernel) (h n hn)
  have hlen : (startVars hs).length = 29 + hs.length := by
    simp only [startVars, List.length_append, List.length_map]
    have : clsVars.length = 16 := by decide
    have : builtNames.length = 13 := by decide
    omega
  exact (SmAll.many h1).mem (by omega) (by omega)
theorem sm_start {hs : List Str} {L : Nat} (h : ∀ n ∈ hs, shortS n = true) (hl : hs.length ≤ L) : ∀ d ∈ startD hs, Sm d 5 (5000 * (30 + L)) := fun d hd => by
  rcases List.mem_cons.mp hd with rfl | hd
  · exact (Sm.tup (.cons (Sm.short (n := "scope") (by decide +kernel)) (.cons (Sm.tup (sm_vars h hl)) (.cons (Sm.tup .nil) (.cons (Sm.tup .nil) (.cons (Sm.int (by decide)) (.cons (Sm.bool false) .nil))))))).mono (by decide) (by omega)
  · have : ∃ n b, d = clsObj n b ∧ n ∈ clsNames ∧ b.natAbs < 1000 := by
      have key : ∀ q ∈ List.zip clsNames clsBases, q.1 ∈ clsNames ∧ q.2.natAbs < 1000 := by decide +kernel
      rw [← List.map_uncurry_zip_eq_zipWith] at hd
      obtain ⟨q, hq, rfl⟩ := List.mem_map.mp hd
      exact ⟨q.1, q.2, rfl, key q hq⟩
    obtain ⟨n, b, rfl, hn, hb⟩ := this
    exact (Sm.co hb (cls_short n hn)).mono (by decide) (by omega)
theorem start_cls {hs : List Str} {k : Nat} (h1 : 1 ≤ k) (h2 : k ≤ 16) : ∃ rest, (startD hs)[k]? = some (.tuple (.str "class" :: rest)) := by
  obtain ⟨j, rfl⟩ : ∃ j, k = j + 1 := ⟨k - 1, by omega⟩
  have l1 : clsNames.length = 16 := by decide
  have l2 : clsBases.length = 16 := by decide
  refine ⟨[.str clsNames[j]!, .int clsBases[j]!, .tuple []], ?_⟩
  have e1 : clsNames[j]? = some clsNames[j]! := by rw [List.getElem!_eq_getElem?_getD]; rw [List.getElem?_eq_getElem (by omega)]; rfl
  have e2 : clsBases[j]? = some clsBases[j]! := by rw [List.getElem!_eq_getElem?_getD]; rw [List.getElem?_eq_getElem (by omega)]; rfl
  show (List.zipWith clsObj clsNames clsBases)[j]? = _
  rw [List.getElem?_zipWith, e1, e2]
  rfl
end LK

set_option Elab.async false
set_option linter.all false
set_option maxRecDepth 100000
set_option maxHeartbeats 4000000
set_option exponentiation.threshold 3000
/-! tuple * 1; rows: texts or tuples at one place; the type of what is read as a tuple; data equal to itself. -/
namespace LK
open PySem PySem.Spec PyProof.Rows L2
theorem tuple_mul1 (l : Addr) (items : Array Value) (n : Nat) (dd : Option Addr) (sl : Array (Option Value)) (u : Tok) :
    Meets (Builtin.«tuple.__mul__» ⟨[.ref l, .int 1 u], []⟩) (fun _ R s => s.heap.get? l = some { cls := .type "tuple", dict := dd, data := .seq items n, slots := sl } ∧ R (.ok (.ret (Value.ref l))) s) :=
  .of_wp fun prog w A R s h => by
    obtain ⟨hp, g, d, tk, os⟩ := s
    obtain ⟨hl, h⟩ := h
    have f1 := AutoSeq1.idx_int
    have c0 : (decide ((1 : Int) < -(2 ^ 63)) || decide ((1 : Int) ≥ 2 ^ 63)) = false := by decide
    have c1 : (items.isEmpty || (1 : Int) == 1) = true := by simp
    wp_walk using wpAny_loadPart' hl
    exact ⟨_, rfl, h⟩
/-- a tuple times an int from 1 to 1000 -/
def rRepTA (K : PySem.W.Frag) : R2 := fun x y H Q => ∃ l k xs, x = .ref l ∧ y = .int k ∧ SqT K H l xs ∧ xs ≠ [] ∧ 1 ≤ k ∧ k ≤ 1000 ∧ xs.length ≤ 1000 ∧ (k = 1 → Q (.ref l) H) ∧ (k ≠ 1 → ∀ p, H p = none → Q (.ref p) (upd H p (.tup (List.replicate k.toNat xs).flatten)))
section
variable {X : Cx}
theorem op_repTA : OpR X (binaryOp .Mult) (rRepTA X.K) := by
  intro pins s σ H x y v u Q I rx ry h
  obtain ⟨l, k, xs, rfl, rfl, hT, hne, h1, h2, hz, q1, q2⟩ := h
  by_cases hk : k = 1
  · subst hk
    cases rx
    obtain ⟨t, rfl⟩ := ry
    obtain ⟨its, r, ⟨⟨cls, dd, data, sl⟩, ho, hc, n, hd⟩, hs⟩ := I.tuple hT
    simp only at hc hd
    subst hc hd
    refine wpAny_binaryOp_repeat_ref (T := "tuple") (U := "int") (by decide) ⟨_, ho, rfl⟩ (fun s' => typeIs_int s' 1 t) noFill_tuple_mul F.fills_int_mul F.slot_int_rmul repeat_tuple F.slot_int_index.lookup
      (call_meets F.slot_int_rmul (typeIs_int s 1 t) F.entry_int_rmul (F.args_int_rmul_2 _ _) (int_rmul_tuple 1 t l its.toArray n dd sl)
        ⟨ho, rfl, ⟨_, ho, rfl⟩, call_meets F.slot_tuple_mul ⟨_, ho, rfl⟩ F.entry_tuple_mul (F.args_tuple_mul_2 _ _) (tuple_mul1 l its.toArray n dd sl t) ⟨ho, ?_⟩⟩)
    exact ⟨.ref l, H, I, rfl, q1 rfl⟩
  · exact op_repT pins s σ H _ _ v u Q I rx ry ⟨l, k, xs, rfl, rfl, hT, hne, by omega, h2, hz, q2 hk⟩
end
theorem SqT.tyX {K : PySem.W.Frag} {H : Hp} {a : Addr} {xs : List V} (h : SqT K H a xs) : TyX K H (.ref a) (.type "tuple") := by
  rcases h with (h | ⟨o, h⟩) | ⟨o, its, n, e, c, _⟩
  · exact .base (.tup h)
  · exact .fTuple h
  · exact .kTuple e c
/-! ### data equal to itself -/
mutual
theorem eqv_self : ∀ {d : PyData}, d.canLay0 = true → PyData.eqv d d = true
  | .none, _ => by simp [PyData.eqv]
  | .bool _, _ => by simp [PyData.eqv]
  | .int _, _ => by simp [PyData.eqv]
  | .str _, _ => by simp [PyData.eqv]
  | .list xs, h => by rw [PyData.eqv]; exact eqvAll_self (by simpa [PyData.canLay0] using h)
  | .tuple xs, h => by rw [PyData.eqv]; exact eqvAll_self (by simpa [PyData.canLay0] using h)
  | .dict _, h => absurd h (by simp [PyData.canLay0])
theorem eqvAll_self : ∀ {xs : List PyData}, PyData.canLayAll0 xs = true → PyData.eqvAll xs xs = true
  | [], _ => by simp [PyData.eqvAll]
  | x :: xs, h => by
    rw [PyData.canLayAll0, Bool.and_eq_true] at h
    rw [PyData.eqvAll, eqv_self h.1, eqvAll_self h.2]; rfl
end
theorem canLayAll0_of {ds : List PyData} (h : ∀ d ∈ ds, d.canLay0 = true) : PyData.canLayAll0 ds = true := by
  induction ds with
  | nil => rfl
  | cons d ds ih => rw [PyData.canLayAll0, h d (by simp), ih fun e he => h e (List.mem_cons_of_mem _ he)]; rfl
theorem depthAll_of {ds : List PyData} {n : Nat} (h : ∀ d ∈ ds, d.depth ≤ n) : PyData.depthAll ds ≤ n := by
  induction ds with
  | nil => exact Nat.zero_le _
  | cons d ds ih => rw [PyData.depthAll]; exact Nat.max_le.mpr ⟨h d (by simp), ih fun e he => h e (List.mem_cons_of_mem _ he)⟩
/-! ### rows: a text, or a tuple of small ints -/
def Item (d : PyData) : Prop := ∃ i : Int, d = .tuple [.str "int", .int i] ∧ 0 ≤ i ∧ i < 11
def Low (z : Str) : Prop := ∀ c ∈ z.cps.toList, c < 128
inductive Row : Bool → PyData → Nat → Prop
  | txt {z : Str} {n : Nat} : z.length = n → Low z → Row true (.str z) n
  | tup {ds : List PyData} {n : Nat} : ds.length = n → (∀ d ∈ ds, Item d) → Row false (.tuple ds) n
def catD : PyData → PyData → PyData
  | .str a, .str b => .str (a ++ b)
  | .tuple a, .tuple b => .tuple (a ++ b)
  | a, _ => a
def repD (d : PyData) (k : Int) : PyData := match d with
  | .str a => .str (repS a k)
  | .tuple a => .tuple (List.replicate k.toNat a).flatten
  | a => a
def noneD : PyData → PyData
  | .str a => .str (cutS a none (some 0))
  | .tuple _ => .tuple []
  | a => a
theorem len_app (a b : Str) : (a ++ b).length = a.length + b.length := strLen_append a b
theorem len_rep (z : Str) (k : Int) : (repS z k).length = z.length * k.toNat := by
  show (repC z.cps.toList k).toArray.size = _
  rw [List.size_toArray, repC_length, Nat.mul_comm]
  simp [Str.length]
theorem Low.app {a b : Str} (h : Low a) (g : Low b) : Low (a ++ b) := by
  intro c hc
  have e : (a ++ b).cps.toList = a.cps.toList ++ b.cps.toList := by
    show (a.cps ++ b.cps).toList = _
    simp
  rw [e] at hc
  rcases List.mem_append.mp hc with hc | hc
  · exact h c hc
  · exact g c hc
theorem Low.rep {a : Str} (h : Low a) (k : Int) : Low (repS a k) := by
  intro c hc
  have hc : c ∈ (List.replicate k.toNat a.cps.toList).flatten := by simpa [repS, repC] using hc
  obtain ⟨l, hl, hcl⟩ := List.mem_flatten.mp hc
  exact h c (List.eq_of_mem_replicate hl ▸ hcl)
theorem Low.cut {a : Str} (h : Low a) (lo hi : Option Int) : Low (cutS a lo hi) := by
  intro c hc
  have hc : c ∈ (a.cps.toList.drop (HT.sIx a.length 0 lo)).take (HT.sIx a.length a.length hi - HT.sIx a.length 0 lo) := hc
  exact h c (List.mem_of_mem_drop (List.mem_of_mem_take hc))
theorem cut_to (a : Str) (m : Nat) : (cutS a none (some (m : Int))).length ≤ m := by
  show ((a.cps.toList.drop (HT.sIx a.length 0 none)).take (HT.sIx a.length a.length (some (m : Int)) - HT.sIx a.length 0 none)).toArray.size ≤ m
  rw [List.size_toArray, List.length_take, HT.sIx_nat]
  omega
theorem Row.cat {t : Bool} {a b : PyData} {n m : Nat} (h : Row t a n) (g : Row t b m) : Row t (catD a b) (n + m) := by
  cases h with
  | txt e l =>
    cases g with
    | txt e2 l2 => exact .txt (by rw [len_app, e, e2]) (l.app l2)
  | tup e l =>
    cases g with
    | tup e2 l2 => exact .tup (by rw [List.length_append, e, e2]) fun d hd => (List.mem_append.mp hd).elim (l d) (l2 d)
theorem Row.rep {t : Bool} {a : PyData} {n : Nat} (h : Row t a n) (k : Int) : Row t (repD a k) (n * k.toNat) := by
  cases h with
  | txt e l => exact .txt (by rw [len_rep, e]) (l.rep k)
  | tup e l =>
    refine .tup (by rw [PyProof.Rows.lm_len_rep_flat, e, Nat.mul_comm]) fun d hd => ?_
    obtain ⟨x, hx, hdx⟩ := List.mem_flatten.mp hd
    exact l d (List.eq_of_mem_replicate hx ▸ hdx)
theorem Row.none {t : Bool} {a : PyData} {n : Nat} (h : Row t a n) : Row t (noneD a) 0 := by
  cases h with
  | @txt z _ e l => exact .txt (Nat.le_zero.mp (cut_to z 0)) (l.cut _ _)
  | tup e l => exact .tup rfl fun d hd => by cases hd
theorem Item.sm {d : PyData} (h : Item d) : Sm d 1 3000 := by
  obtain ⟨i, rfl, h0, h1⟩ := h
  exact (Sm.tup (.cons (Sm.short (n := "int") (by decide +kernel)) (.cons (Sm.int (Nat.lt_of_lt_of_le (show i.natAbs < 2 ^ 20 by omega) (Nat.pow_le_pow_right (by decide) (by decide)))) .nil))).mono (by decide) (by decide)
theorem Row.sm {t : Bool} {d : PyData} {n : Nat} (h : Row t d n) (hn : n ≤ 1000) : Sm d 2 3100000 := by
  cases h with
  | txt e l => exact (Sm.str (n := 1000) (by omega) fun c hc => Nat.lt_of_lt_of_le (l c hc) (by decide)).mono (by decide) (by decide)
  | tup e l => exact (Sm.tup ((SmAll.many fun d hd => (l d hd).sm).mem (m := 1000) (M := 3000000) (by omega) (by omega))).mono (by decide) (by decide)
theorem Row.lay {t : Bool} {d : PyData} {n : Nat} (h : Row t d n) : d.canLay0 = true := by
  cases h with
  | @txt z _ e l =>
    rw [PyData.canLay0]
    exact Array.all_eq_true_iff_forall_mem.mpr fun c hc => by
      have := l c (Array.mem_toList_iff.mpr hc)
      exact decide_eq_true (by omega)
  | tup e l =>
    rw [PyData.canLay0]
    exact canLayAll0_of fun d hd => by obtain ⟨i, rfl, _⟩ := l d hd; simp only [PyData.canLay0, PyData.canLayAll0, Bool.and_true]; decide +kernel
section
variable {X : Cx}
/-- a + b, two rows -/
def rCatD (K : PySem.W.Frag) : R2 := fun x y H Q => ∃ (t : Bool) (a b : PyData) (n m : Nat), Row t a n ∧ Row t b m ∧ Dt K H x a ∧ Dt K H y b ∧ n + m ≤ 2000 ∧ ∀ v H', Same H H' → Dt K H' v (catD a b) → Q v H'
theorem op_catD : OpR X (binaryOp .Add) (rCatD X.K) := by
  intro pins s σ H x y v u Q I rx ry h
  obtain ⟨t, a, b, n, m, ha, hb, da, db, hz, q⟩ := h
  cases ha with
  | txt e l =>
    cases hb with
    | txt e2 l2 =>
      cases da.str_inv; cases db.str_inv
      exact op_add_str pins s σ H _ _ v u Q I rx ry ⟨_, _, rfl, rfl, by rw [e, e2]; exact Nat.le_trans hz (by decide), q _ _ (Same.refl _) (.str _)⟩
  | @tup ds _ e l =>
    cases hb with
    | @tup es _ e2 l2 =>
      obtain ⟨p, xs, rfl, hs, ax⟩ := da.tuple_inv
      obtain ⟨p2, ys, rfl, hs2, ay⟩ := db.tuple_inv
      have lx := ax.length
      have ly := ay.length
      refine op_catA pins s σ H _ _ v u Q I rx ry ⟨p, p2, xs, ys, rfl, rfl, hs, hs2, by rw [lx, ly, e, e2]; exact Nat.le_trans hz (by decide), fun h0 => ?_, fun _ h0 => ?_, fun _ _ z hz => ?_⟩
      · subst h0
        have : ds = [] := List.eq_nil_of_length_eq_zero (by rw [← lx]; rfl)
        subst this
        exact q _ _ (Same.refl _) db
      · subst h0
        have : es = [] := List.eq_nil_of_length_eq_zero (by rw [← ly]; rfl)
        subst this
        refine q _ _ (Same.refl _) ?_
        show Dt X.K H (.ref p) (.tuple (ds ++ []))
        rw [List.append_nil]; exact da
      · exact q _ _ (Same.new hz) (Dt.made hz (DtAll.app ax ay))
/-- a * k, a row and an int -/
def rRepD (K : PySem.W.Frag) : R2 := fun x y H Q => ∃ (t : Bool) (a : PyData) (n : Nat) (k : Int), Row t a n ∧ Dt K H x a ∧ y = .int k ∧ 1 ≤ n ∧ 1 ≤ k ∧ n * k ≤ 1000 ∧ ∀ v H', Same H H' → Dt K H' v (repD a k) → Q v H'
theorem dtRep {K : PySem.W.Frag} {H : Hp} {xs : List V} {ds : List PyData} (h : DtAll K H xs ds) : ∀ m : Nat, DtAll K H (List.replicate m xs).flatten (List.replicate m ds).flatten
  | 0 => .nil
  | m + 1 => by
    rw [List.replicate_succ, List.flatten_cons, List.replicate_succ, List.flatten_cons]
    exact DtAll.app h (dtRep h m)
theorem op_repD : OpR X (binaryOp .Mult) (rRepD X.K) := by
  intro pins s σ H x y v u Q I rx ry h
  obtain ⟨t, a, n, k, ha, da, rfl, hn, hk, hz, q⟩ := h
  have k1 : k ≤ 1000 := by
    have : 1 * k ≤ n * k := Int.mul_le_mul_of_nonneg_right (by omega) (by omega)
    omega
  have n1 : n ≤ 1000 := by
    have : (n : Int) * 1 ≤ n * k := Int.mul_le_mul_of_nonneg_left hk (by omega)
    omega
  cases ha with
  | txt e l =>
    cases da.str_inv
    refine op_rep_str pins s σ H _ _ v u Q I rx ry ⟨_, k, rfl, rfl, by omega, by omega, ?_, q _ _ (Same.refl _) (.str _)⟩
    rw [e]
    exact Nat.le_trans (Nat.mul_le_mul n1 (show k.toNat ≤ 1000 by omega)) (by decide)
  | @tup ds _ e l =>
    obtain ⟨p, xs, rfl, hs, ax⟩ := da.tuple_inv
    have lx := ax.length
    refine op_repTA pins s σ H _ _ v u Q I rx ry ⟨p, k, xs, rfl, rfl, hs, fun z => ?_, hk, k1, by omega, fun h1 => ?_, fun h1 z hz => ?_⟩
    · subst z
      rw [List.length_nil] at lx
      omega
    · subst h1
      refine q _ _ (Same.refl _) ?_
      show Dt X.K H (.ref p) (.tuple (List.replicate 1 ds).flatten)
      rw [show (List.replicate 1 ds).flatten = ds by simp]
      exact da
    · exact q _ _ (Same.new hz) (Dt.made hz (dtRep ax _))
/-- a[:0], a row -/
def rNoneD (K : PySem.W.Frag) : V → Option Int → Option Int → Hp → VK → Prop := fun x lo hi H Q => ∃ (t : Bool) (a : PyData) (n : Nat), Row t a n ∧ Dt K H x a ∧ n ≤ 2000 ∧ lo = none ∧ hi = some 0 ∧ ∀ v H', Same H H' → Dt K H' v (noneD a) → Q v H'
theorem sl_noneD : SlR X (rNoneD X.K) := by
  intro pins s σ H x v vl vu lo hi sl Q I rx hs pl pu h
  obtain ⟨t, a, n, ha, da, hn, rfl, rfl, q⟩ := h
  cases ha with
  | txt e l =>
    cases da.str_inv
    exact sl_str pins s σ H _ v vl vu _ _ sl Q I rx hs pl pu ⟨_, rfl, by rw [e]; exact Nat.le_trans hn (by decide), q _ _ (Same.refl _) (.str _)⟩
  | @tup ds _ e l =>
    obtain ⟨p, xs, rfl, hq, ax⟩ := da.tuple_inv
    have lx := ax.length
    refine sl_tupA pins s σ H _ v vl vu _ _ sl Q I rx hs pl pu ⟨p, xs, rfl, hq, fun hw => ?_, fun _ z hz => ?_⟩
    · have h0 : ds.length = 0 := by
        have := hw.2
        rw [show (some (0 : Int)) = some ((0 : Nat) : Int) from rfl, HT.sIx_nat] at this
        omega
      have := List.eq_nil_of_length_eq_zero h0
      subst this
      exact q _ _ (Same.refl _) da
    · refine q _ _ (Same.new hz) (Dt.made hz ?_)
      have : cutV xs none (some 0) = [] := by
        apply List.eq_nil_of_length_eq_zero
        unfold cutV
        rw [List.length_take, show (some (0 : Int)) = some ((0 : Nat) : Int) from rfl, HT.sIx_nat]
        omega
      rw [this]
      exact .nil
/-- len(a), a row -/
def rLenD (K : PySem.W.Frag) : List V → Hp → VK → Prop := fun vs H Q => ∃ (v : V) (t : Bool) (a : PyData) (n : Nat), vs = [v] ∧ Row t a n ∧ Dt K H v a ∧ n ≤ 2000 ∧ Q (.int (n : Int)) H
theorem call_lenD' : CallR X (.builtin "len") (rLenD X.K) := by
  intro pins s σ H xs us Q I r h
  obtain ⟨v, t, a, n, rfl, ha, da, hn, q⟩ := h
  cases ha with
  | txt e l =>
    cases da.str_inv
    exact call_len pins s σ H _ us Q I r ⟨_, n, rfl, ⟨by rw [e]; exact Nat.le_trans hn (by decide), e.symm⟩, q⟩
  | @tup ds _ e l =>
    obtain ⟨p, ys, rfl, hq, ax⟩ := da.tuple_inv
    exact call_len pins s σ H _ us Q I r ⟨_, n, rfl, .inr ⟨_, hq, by rw [ax.length, e]⟩, q⟩
end
end LK

set_option Elab.async false
set_option linter.all false
set_option maxRecDepth 100000
set_option maxHeartbeats 4000000
set_option exponentiation.threshold 3000
/-! Letters, digits, underscores; texts of the top. -/
namespace LK
open PySem PySem.Spec PyProof.Rows L2 SX
def isD (c : Nat) : Bool := decide (48 ≤ c) && decide (c ≤ 57)
def isL (c : Nat) : Bool := (decide (65 ≤ c) && decide (c ≤ 90)) || (decide (97 ≤ c) && decide (c ≤ 122)) || c == 95
def isW (c : Nat) : Bool := isD c || isL c
theorem isW_lt {c : Nat} (h : isW c = true) : c < 128 := by
  simp [isW, isD, isL] at h; omega
theorem uni_alpha : ∀ c < 128, Unicode.isAlpha c = (isL c && c != 95) := by decide +kernel
theorem uni_digit : ∀ c < 128, Unicode.isDigit c = isD c := by decide +kernel
theorem uni_alnum : ∀ c < 128, Unicode.isAlnum c = (isW c && c != 95) := by decide +kernel
theorem alpha1 {c : Nat} (h : c < 128) : Txt.isalpha (S [c]) = (isL c && c != 95) := by
  show (decide ((S [c]).length > 0) && (S [c]).cps.all Unicode.isAlpha) = _
  rw [S_len]; simp [S, uni_alpha c h]
theorem digit1 {c : Nat} (h : c < 128) : Txt.isdigit (S [c]) = isD c := by
  show (decide ((S [c]).length > 0) && (S [c]).cps.all Unicode.isDigit) = _
  rw [S_len]; simp [S, uni_digit c h]
theorem alnum1 {c : Nat} (h : c < 128) : Txt.isalnum (S [c]) = (isW c && c != 95) := by
  show (decide ((S [c]).length > 0) && (S [c]).cps.all Unicode.isAlnum) = _
  rw [S_len]; simp [S, uni_alnum c h]
theorem digitS {a : List Nat} (h : ∀ c ∈ a, c < 128) (hne : a ≠ []) : Txt.isdigit (S a) = a.all isD := by
  show (decide ((S a).length > 0) && (S a).cps.all Unicode.isDigit) = _
  have : 0 < a.length := List.length_pos_iff.mpr hne
  rw [S_len, decide_eq_true this, Bool.true_and]
  show a.toArray.all Unicode.isDigit = _
  rw [List.all_toArray]
  apply Bool.eq_iff_iff.mpr
  rw [List.all_eq_true, List.all_eq_true]
  exact ⟨fun g c hc => uni_digit c (h c hc) ▸ g c hc, fun g c hc => (uni_digit c (h c hc)).symm ▸ g c hc⟩
/-! texts of the top -/
def GStr (mg : Str → Option Value) (x : Str) (z : Str) : Prop := ∃ t, mg x = some (.str z t)
def HasStr (K : PySem.W.Frag) (x : Str) (p : Str → Prop) : Prop := ∃ (z : Str) (t : Tok), PySem.W.nsIn K mainGlobals x = some (some (.str z t)) ∧ p z
theorem HasStr.mk' {K : PySem.W.Frag} {x : Str} {p : Str → Prop} {z : Str} {t : Tok} (a : PySem.W.nsIn K mainGlobals x = some (some (.str z t))) (b : p z) : HasStr K x p := ⟨z, t, a, b⟩
theorem HasStr.g {K : PySem.W.Frag} {mg : Str → Option Value} {h : Heap} {x : Str} {p : Str → Prop} (i : HasStr K x p) (X : K.In h) (G : h.Ns mainGlobals mg) : ∃ z, GStr mg x z ∧ p z := by
  obtain ⟨z, t, e, hp⟩ := i
  exact ⟨z, ⟨t, PySem.W.mg_of X G e⟩, hp⟩
theorem pe_globS {X : Cx} {x z : Str} {pos : Pos} (h : GStr X.mg x z) (hg : Gl X x) (hd : (x == ("__debug__" : Str)) = false := by decide) : PE X (.Name x pos) (tC (.str z)) := by
  obtain ⟨t, e⟩ := h
  exact pe_glob hg e ⟨t, rfl⟩ hd
theorem split1 {a : List Nat} {c : Nat} (h : c ∉ a) (hc : c < 256) : Txt.split (S a) (S [c]) = [S a] := by
  rw [split_S (by simp) (by simpa using hc)]
  have := SX.spl_join (c := c) (sep := []) (parts := [a]) (by simp) (by simpa using h)
  have e : TL.joinL [c] [a] = a := by simp [TL.joinL]
  rw [e] at this
  rw [this]; rfl
theorem lstrip1 {a : List Nat} {b : List Nat} (h : ∀ c, a.head? = some c → c ∉ b) : Txt.lstripChars (S a) (S b) = S a := by
  have e1 : (S a).cps.toList.takeWhile (S b).cps.contains = [] := tw0 a fun c hc => by
    have := h c hc
    show b.toArray.contains c = false
    rw [List.contains_toArray]
    simpa using this
  have e0 : stripLo (S b).cps.contains true (S a) = 0 := by
    unfold stripLo
    rw [if_pos rfl, e1] <;> rfl
  have e3 : stripHi (S b).cps.contains false (S a) 0 = (S a).length := by
    unfold stripHi
    rw [if_neg Bool.false_ne_true]
  unfold Txt.lstripChars Txt.stripBy stripSame
  rw [e0, e3]
  exact if_pos (by simp)
/-! while, its test's reading made monotone -/
def tUp (c : TT) : TT := fun σ H Q => ∃ P : Bool → Hp → Prop, c σ H P ∧ ∀ b H1, P b H1 → Q b H1
theorem pt_up {X : Cx} {e : Expr} {c : TT} (h : PT X e c) : PT X e (tUp c) :=
  ⟨fun pins s σ H Q I ⟨P, hP, k⟩ => thn (h.run pins s σ H P I hP) fun b s1 ⟨H1, I1, q⟩ => ⟨H1, I1, k _ _ q⟩⟩
theorem while_up {c : TT} {tb : TS} {D : Ends} {σ : L2.St} {H : Hp} (Pv : L2.St → Hp → Prop) (μ : L2.St → Hp → Nat) (h0 : Pv σ H)
    (hs : ∀ σ H, Pv σ H → c σ H fun b H1 => if b = true then tb { D with nx := fun σ' H' => Pv σ' H' ∧ μ σ' H' < μ σ H, ct := fun σ' H' => Pv σ' H' ∧ μ σ' H' < μ σ H, bk := D.nx } σ H1 else D.nx σ H1) : tWhile (tUp c) tb D σ H :=
  while_by Pv μ h0 (fun σ H p => ⟨_, hs σ H p, fun _ _ h => h⟩) (fun σ H Q Q' hq ⟨P, hP, k⟩ => ⟨P, hP, fun b H1 h => hq b H1 (k b H1 h)⟩)
theorem nl_S : ("\n" : Str) = S [10] := by decide +kernel
theorem us_S : ("_" : Str) = S [95] := by decide +kernel
theorem sp_S : (" " : Str) = S [32] := by decide +kernel
theorem hash_S : ("#" : Str) = S [35] := by decide +kernel
theorem sign_eq {c d : Nat} : decide (V.str ⟨#[c]⟩ = V.str (S [d])) = decide (c = d) := by
  by_cases h : c = d
  · subst h; rw [decide_eq_true rfl, decide_eq_true rfl]
  · rw [decide_eq_false h, decide_eq_false]
    intro e
    have := S_inj (a := [c]) (b := [d]) (V.str.inj e)
    exact h (by simpa using this)
theorem str_eq {a b : List Nat} : decide (V.str (S a) = V.str (S b)) = decide (a = b) := by
  by_cases h : a = b
  · subst h; rw [decide_eq_true rfl, decide_eq_true rfl]
  · rw [decide_eq_false h, decide_eq_false]
    intro e
    exact h (S_inj (V.str.inj e))
theorem starts1 {c d : Nat} {r : List Nat} : Txt.startswith (S (c :: r)) (S [d]) = decide (c = d) := by
  show (decide (0 + (S [d]).length ≤ (S (c :: r)).length) && ((c :: r).toArray.extract 0 (0 + (S [d]).length) == [d].toArray)) = _
  rw [S_len, S_len]
  have e : (c :: r).toArray.extract 0 (0 + [d].length) = #[c] := by simp
  rw [e]
  by_cases h : c = d
  · subst h; simp
  · simp [h]
theorem at_S {a : List Nat} {j c : Nat} (h : a[j]? = some c) : atI (S a).cps.toList (j : Int) = some c := atI_nat h
theorem cut_all {a : List Nat} : cutS (S a) (some 0) (some ((a.length : Nat) : Int)) = S a := by
  unfold cutS
  rw [S_len, show (some (0 : Int)) = some ((0 : Nat) : Int) from rfl, HT.sIx_nat, HT.sIx_nat]
  show (⟨((a.drop (min 0 a.length)).take (min a.length a.length - min 0 a.length)).toArray⟩ : Str) = ⟨a.toArray⟩
  rw [Nat.zero_min, List.drop_zero, Nat.min_self, Nat.sub_zero, List.take_length]
/-! a promise at a higher level -/
theorem FnG.mono {P : Program} {w : World} {K : PySem.W.Frag} {mg : Str → Option Value} {base : Heap} {CX : CXT} {j k : Nat} {f : Addr} {fd : FuncData} {ps : List Str} {sp : Sp} (F : FnG P w K mg base CX j f fd ps sp) (h : j ≤ k) : FnG P w K mg base CX k f fd ps sp :=
  ⟨F.len, fun A outer s H args us vs Q E hr => F.run A outer s H args us vs Q E (hr.mono h)⟩
theorem Use.mono {P : Program} {w : World} {K : PySem.W.Frag} {mg : Str → Option Value} {base : Heap} {CX : CXT} {x : Str} {j k : Nat} {ps : List Str} {sp : Sp} (U : Use P w K mg base CX x j ps sp) (h : j ≤ k) : Use P w K mg base CX x k ps sp := by
  obtain ⟨f, fd, ok, r⟩ := U.ex
  exact ⟨f, fd, ok.mono h, r⟩
/-! the signs that a program may hold -/
def okC (c : Nat) : Bool := c == 10 || (decide (32 ≤ c) && decide (c ≤ 126) && c != 37)
theorem okC_lt {c : Nat} (h : okC c = true) : c < 128 := by
  simp [okC] at h; omega
theorem lstrip_sp (a : List Nat) : Txt.lstripChars (S a) (S [32]) = S (a.dropWhile (· == 32)) := by
  have e1 : (S a).cps.toList.takeWhile (S [32]).cps.contains = a.takeWhile (· == 32) := by
    show a.takeWhile _ = _
    congr 1
    funext c
    show #[32].contains c = _
    simp [Array.contains, BEq.comm]
  have el : (a.takeWhile (· == 32)).length ≤ a.length := (List.takeWhile_prefix _).length_le
  have ed : a.drop (a.takeWhile (· == 32)).length = a.dropWhile (· == 32) := by
    have h := List.takeWhile_append_dropWhile (p := (· == 32)) (l := a)
    have : (a.takeWhile (· == 32) ++ a.dropWhile (· == 32)).drop (a.takeWhile (· == 32)).length = a.dropWhile (· == 32) := List.drop_left
    rwa [h] at this
  have e0 : stripLo (S [32]).cps.contains true (S a) = (a.takeWhile (· == 32)).length := by
    unfold stripLo
    rw [if_pos rfl, e1] <;> rfl
  have e3 : stripHi (S [32]).cps.contains false (S a) (a.takeWhile (· == 32)).length = (S a).length := by
    unfold stripHi
    rw [if_neg Bool.false_ne_true]
  unfold Txt.lstripChars Txt.stripBy stripSame stripped
  rw [e0, e3]
  split
  · rename_i h
    simp at h
    have : (a.takeWhile (· == 32)).length = 0 := by simpa using h
    rw [this, List.drop_zero] at ed
    rw [← ed]
  · show (⟨a.toArray.extract (a.takeWhile (· == 32)).length (S a).length⟩ : Str) = _
    rw [S_len, ← ed]
    congr 1
    apply Array.toList_inj.mp
    simp only [Array.toList_extract, List.extract_eq_drop_take]
    exact List.take_of_length_le (by rw [List.length_drop]; omega)
/-- z[i:j] by codes -/
theorem cut_S {a : List Nat} {i j : Nat} (hi : i ≤ a.length) (hj : j ≤ a.length) : cutS (S a) (some ((i : Nat) : Int)) (some ((j : Nat) : Int)) = S ((a.drop i).take (j - i)) := by
  unfold cutS
  rw [S_len, HT.sIx_nat, HT.sIx_nat, Nat.min_eq_left hi, Nat.min_eq_left hj]
/-- a line: so many spaces, and perhaps a word -/
def lnT (s : Nat) (w : List Nat) : List Nat := List.replicate s 32 ++ w
theorem lnT_len (s : Nat) (w : List Nat) : (lnT s w).length = s + w.length := by simp [lnT]
theorem lnT_sp {s : Nat} {w : List Nat} {i : Nat} (h : i < s) : (lnT s w)[i]? = some 32 := by
  unfold lnT
  rw [List.getElem?_append_left (by simpa using h), List.getElem?_replicate, if_pos h]
theorem lnT_w {s : Nat} {w : List Nat} {i : Nat} : (lnT s w)[s + i]? = w[i]? := by
  unfold lnT
  rw [List.getElem?_append_right (by simp), List.length_replicate, Nat.add_sub_cancel_left]
theorem lnT_drop (s : Nat) (w : List Nat) : (lnT s w).drop s = w := by
  unfold lnT
  rw [List.drop_append_of_le_length (by simp)]
  simp
end LK

set_option Elab.async false
set_option linter.all false
set_option maxRecDepth 100000
set_option maxHeartbeats 4000000
set_option exponentiation.threshold 3000
/-! What several laws share: boxes and lists beside changes of other objects. -/
namespace LK
open PySem PySem.Spec PyProof.Rows L2
section
variable {K : PySem.W.Frag}
theorem BoxAt.ne_new {H : Hp} {p dl b : Addr} (B : BoxAt H p dl) (h : H b = none) : b ≠ p ∧ b ≠ dl := by
  obtain ⟨xs, g⟩ := B.at_
  obtain ⟨ys, g2⟩ := B.dg
  exact ⟨fun e => (by subst e; rw [h] at g; cases g), fun e => (by subst e; rw [h] at g2; cases g2)⟩
theorem BoxAt.kp {H H' : Hp} {p dl : Addr} (B : BoxAt H p dl) (h : ∀ b o, b = p ∨ b = dl → H b = some o → H' b = some o) : BoxAt H' p dl := by
  obtain ⟨ds, k, a, b, c, d⟩ := B
  exact ⟨ds, k, h _ _ (.inl rfl) a, b, h _ _ (.inr rfl) c, d⟩
theorem BoxAt.keep' {H H' : Hp} {p dl l : Addr} (B : BoxAt H p dl) (k : Keep l H H') (h1 : l ≠ p) (h2 : l ≠ dl) : BoxAt H' p dl :=
  B.kp fun b o hb e => k b o e (by
    rcases hb with rfl | rfl
    · exact Ne.symm h1
    · exact Ne.symm h2)
theorem BoxAt.keep2 {H H' : Hp} {p dl l m : Addr} (B : BoxAt H p dl) (k : ∀ b o, H b = some o → b ≠ l → b ≠ m → H' b = some o) (h1 : l ≠ p) (h2 : l ≠ dl) (h3 : m ≠ p) (h4 : m ≠ dl) : BoxAt H' p dl :=
  B.kp fun b o hb e => by
    rcases hb with rfl | rfl
    · exact k _ _ e (Ne.symm h1) (Ne.symm h3)
    · exact k _ _ e (Ne.symm h2) (Ne.symm h4)
theorem KeepT.ins {p C dx : Addr} {H : Hp} {o : HO} {fs : List (Str × V)} (hp : H p = some (.ins C dx fs)) : KeepT K H (L2.upd H p o) := fun a xs h => by
  rcases h with (h | ⟨o', h⟩) | h
  · exact .inl (.inl (by rw [upd_ne (ne_of h hp (by intro z; cases z))]; exact h))
  · exact .inl (.inr ⟨o', by rw [upd_ne (ne_of h hp (by intro z; cases z))]; exact h⟩)
  · exact .inr h
theorem listAt_ins {p C dx l : Addr} {H : Hp} {o : HO} {fs : List (Str × V)} {ds : List PyData} (h : ListAt K H l ds) (hp : H p = some (.ins C dx fs)) : ListAt K (upd H p o) l ds := by
  obtain ⟨xs, e, a⟩ := h
  exact ⟨xs, by rw [upd_ne (ne_of e hp (by intro z; cases z))]; exact e, DtAll.keepT (KeepT.ins hp) a⟩
theorem Low.zero : Low "" := fun c hc => by
  have e : ("" : Str).cps.toList = [] := by decide +kernel
  rw [e] at hc; cases hc
theorem DtAll.take {H : Hp} : ∀ (n : Nat) {vs : List V} {ds : List PyData}, DtAll K H vs ds → DtAll K H (vs.take n) (ds.take n)
  | 0, _, _, _ => .nil
  | _ + 1, _, _, .nil => .nil
  | n + 1, _, _, .cons h a => .cons h (DtAll.take n a)
theorem len_start0 : (startD []).length = 17 := by decide
theorem sm_start0 : ∀ d ∈ startD [], Sm d 5 150000 := fun d hd => sm_start (hs := []) (L := 0) (by simp) (by simp) d hd
theorem sm_heap {ds : List PyData} (h : ds.length ≤ 30) (sm : ∀ d ∈ ds, Sm d 5 150000) : ShowOk (.list ds) := (Sm.lst ((SmAll.many sm).mem (m := 30) (M := 4500000) h (by omega))).show (by decide) (by decide)
theorem ListAt.dp {H : Hp} {l : Addr} {ds : List PyData} (h : ListAt K H l ds) : Dp K H (.ref l) (.list ds) := let ⟨_, e, a⟩ := h; .lst (SqL.of e) a.dp
end
theorem FnG.or {P : Program} {w : World} {K : PySem.W.Frag} {mg : Str → Option Value} {base : Heap} {CX : CXT} {k : Nat} {f : Addr} {fd : FuncData} {ps : List Str} {sp sp' : Sp} (A : FnG P w K mg base CX k f fd ps sp) (B : FnG P w K mg base CX k f fd ps sp') :
    FnG P w K mg base CX k f fd ps (fun vs H Q E => sp vs H Q E ∨ sp' vs H Q E) where
  len := fun vs H Q E h => h.elim (A.len vs H Q E) (B.len vs H Q E)
  run := fun A' outer s H args us vs Q E hr hg he hb hv h => h.elim (A.run A' outer s H args us vs Q E hr hg he hb hv) (B.run A' outer s H args us vs Q E hr hg he hb hv)
/-- start_heap of a list of names -/
def spStartL (K : PySem.W.Frag) : Sp := fun vs H Q _ => ∃ (t : Addr) (hs : List Str), vs = [.ref t] ∧ SqL K H t (hs.map V.str) ∧ hs.length ≤ 1000 ∧
  ∀ (p : Addr) (H' : Hp), H p = none → Same H H' → ListAt K H' p (startD hs) → Q (.ref p) H'
def spStart2 (K : PySem.W.Frag) : Sp := fun vs H Q E => spStart K vs H Q E ∨ spStartL K vs H Q E
theorem ip_fdiv {X : Cx} : PIp X .FloorDiv (rI CDiv fun i j => .int (i / j)) := fun pins s σ H x y v u Q I r1 r2 h => iop_fdiv pins s σ H x y v u Q I r1 r2 h
theorem none_back0 {p np : Addr} {H H' : Hp} (K1 : Keep p H H') (B : ∃ xs, H' p = some (.lst xs)) (h : H' np = none) : H np = none := by
  cases e : H np with
  | none => rfl
  | some o =>
    by_cases ep : np = p
    · subst ep
      obtain ⟨xs, g⟩ := B
      rw [g] at h; cases h
    · rw [K1 _ _ e ep] at h; cases h
end LK

set_option Elab.async false
set_option linter.all false
set_option maxRecDepth 100000
set_option maxHeartbeats 4000000
/-! dicts of the top: what a literal dict of the program gives, read where it stands. -/
namespace LK
open PySem PySem.Spec PyProof.Rows L2
/-- at a lies a dict of the top with these entries -/
def KDct (P : Program) (w : World) (K : PySem.W.Frag) (a : Addr) (kvs : List (Key × V)) : Prop := (a == sysModules) = false ∧ ∃ vs, KV kvs vs ∧ ∀ h : Heap, K.In h → h.DictOf (mixKind P w) a vs
def tDGetK (P : Program) (w : World) (K : PySem.W.Frag) (td ty : TE) : TE := fun σ H Q => td σ H fun x H1 => ty σ H1 fun y H2 => ∃ a kvs k v, x = .ref a ∧ KDct P w K a kvs ∧ y = kV k ∧ valV kvs k = some v ∧ Q v H2
def tDInK (P : Program) (w : World) (K : PySem.W.Frag) (ty td : TE) : TE := fun σ H Q => ty σ H fun y H1 => td σ H1 fun x H2 => ∃ a kvs k, x = .ref a ∧ KDct P w K a kvs ∧ y = kV k ∧ Q (.bl (valV kvs k).isSome) H2
section
variable {X : Cx} {o i : Expr} {pos : Pos} {td ty : TE}
theorem pe_dgetK (ho : PE X o td) (hi : PE X i ty) (hs : NoSl i) : PE X (.Subscript o i pos) (tDGetK X.prog X.w X.K td ty) := by
  refine ⟨fun pins s σ H Q I h => ?_⟩
  refine subD_of PySem.F.slot_dict_getitem.lookup hs (thn (ho.run pins s σ H _ I h) fun u s1 ⟨x, H1, I1, rx, q1⟩ => thn (hi.run pins s1 σ H1 _ I1 q1) fun iv s2 ⟨y, H2, I2, ry, a, kvs, k, v, ex, ⟨hsys, vs, rel, dd⟩, ey, l, q2⟩ => ?_)
  subst ex ey
  obtain rfl : u = Value.ref a := rx
  have dd := dd _ I2.kIn
  refine ⟨dd.typeIs, ?_⟩
  obtain ⟨w', hw, rw'⟩ := RelO.some_of (v := v) (o := valueAt vs k) (by rw [← l]; exact rel.val k)
  exact wpAny_getItem_of (kV_is ry) dd.mapOf hw ⟨v, H2, I2.tok _, rw', q2⟩
theorem pc_dinK (hi : PE X i ty) (ho : PE X o td) : PC X .In i o (tDInK X.prog X.w X.K ty td) := by
  refine ⟨fun pins s σ H Q I h => ?_⟩
  refine thn (hi.run pins s σ H _ I h) fun iv s1 ⟨y, H1, I1, ry, q1⟩ => thn (ho.run pins s1 σ H1 _ I1 q1) fun u s2 ⟨x, H2, I2, rx, a, kvs, k, ex, ⟨hsys, vs, rel, dd⟩, ey, q2⟩ => ?_
  subst ex ey
  obtain rfl : u = Value.ref a := rx
  have dd := dd _ I2.kIn
  refine wpAny_in_of (kV_is ry) hsys dd.mapOf ?_
  rw [← (rel.val k).isSome_eq]
  exact ⟨.bl _, H2, I2.tok _, rfl, q2⟩
end
/-! its fact from the top -/
def HasDct (P : Program) (w : World) (K : PySem.W.Frag) (x : Str) (kvs : List (Key × V)) : Prop := ∃ a, PySem.W.nsIn K mainGlobals x = some (some (.ref a)) ∧ KDct P w K a kvs
structure UseD (P : Program) (w : World) (K : PySem.W.Frag) (mg : Str → Option Value) (x : Str) (kvs : List (Key × V)) : Prop where
  ex : ∃ a, mg x = some (.ref a) ∧ KDct P w K a kvs
/-- entries whose keys and values are texts -/
inductive DEnt (w : World) : List DictEntry → List (Str × Str) → Prop
  | nil : DEnt w [] []
  | cons {e : DictEntry} {es : List DictEntry} {k v : Str} {ps : List (Str × Str)} {t t' : Tok} : e.key = .str k t → e.hash = hashStr w k → e.val = .str v t' → DEnt w es ps → DEnt w (e :: es) ((k, v) :: ps)
def txtKV (ps : List (Str × Str)) : List (Key × V) := ps.map fun p => (.inr p.1, .str p.2)
theorem DEnt.pairs {P : Program} {w : World} : ∀ {es : List DictEntry} {ps : List (Str × Str)}, DEnt w es ps → ∃ vs : List (Key × Value), KV (txtKV ps) vs ∧ PySem.Pairs (mixKind P w) es vs ∧ vs.map (·.1) = ps.map (fun p => (Sum.inr p.1 : Key)) ∧ ∀ e ∈ es, ∃ k, (mixKind P w).is k e.key = true ∧ e.hash = (mixKind P w).hash k
  | _, _, .nil => ⟨[], .nil, .nil, rfl, fun _ h => by cases h⟩
  | _, _, .cons (k := k) (v := v) (t := t) (t' := t') hk hh hv r => by
    obtain ⟨vs, a, b, c, d⟩ := DEnt.pairs (P := P) r
    refine ⟨(.inr k, .str v t') :: vs, .cons ⟨rfl, ⟨_, rfl⟩⟩ a, .cons (by rw [hk]; exact mixKind_str P w k t) hv b, by rw [List.map_cons, c]; rfl, fun e he => ?_⟩
    rcases List.mem_cons.mp he with rfl | he
    · exact ⟨.inr k, by rw [hk]; exact mixKind_str P w k t, hh⟩
    · exact d e he
theorem nodup_inr : ∀ {xs : List Str}, xs.Nodup → (xs.map (Sum.inr : Str → Key)).Nodup
  | [], _ => .nil
  | x :: r, h => by
    obtain ⟨h1, h2⟩ := List.nodup_cons.mp h
    refine List.nodup_cons.mpr ⟨fun hm => ?_, nodup_inr h2⟩
    obtain ⟨y, hy, e⟩ := List.mem_map.mp hm
    exact h1 (Sum.inr.inj e ▸ hy)
theorem HasDct.mk' {P : Program} {w : World} {K : PySem.W.Frag} {x : Str} {ps : List (Str × Str)} {a : Addr} {es : Array DictEntry} {ep : Nat} (h : PySem.W.nsIn K mainGlobals x = some (some (.ref a)))
    (b : K.lookup a = some { cls := .type "dict", data := .dict es ep }) (hs : (a == sysModules) = false) (c : DEnt w es.toList ps) (nd : (ps.map (·.1)).Nodup) : HasDct P w K x (txtKV ps) := by
  obtain ⟨vs, v1, v2, v3, v4⟩ := DEnt.pairs (P := P) c
  refine ⟨a, h, hs, vs, v1, fun hh hK => ⟨_, es, ep, hK a _ b, ⟨rfl, rfl, rfl⟩, rfl, fun e he => v4 e (Array.mem_toList_iff.mpr he), v2, ?_⟩⟩
  rw [v3]
  have : ps.map (fun p => (Sum.inr p.1 : Key)) = (ps.map (·.1)).map Sum.inr := by rw [List.map_map]; rfl
  rw [this]
  exact nodup_inr nd
theorem HasDct.g {P : Program} {w : World} {K : PySem.W.Frag} {mg : Str → Option Value} {h : Heap} {x : Str} {kvs : List (Key × V)} (D : HasDct P w K x kvs) (X : K.In h) (G : h.Ns mainGlobals mg) : UseD P w K mg x kvs := by
  obtain ⟨a, e, k⟩ := D
  exact ⟨a, PySem.W.mg_of X G e, k⟩
end LK

set_option Elab.async false
set_option linter.all false
set_option maxRecDepth 100000
set_option maxHeartbeats 4000000
set_option exponentiation.threshold 3000
/-! Numbers, texts over the 95 characters, dicts of the top with any plain values. -/
namespace LK
open PySem PySem.Spec PyProof.Rows L2 SX
def CPowW (i j : Int) : Prop := 0 ≤ j ∧ (Builtin.Int.intBits i : Int) * j ≤ 2 ^ 27
theorem op_powW {X : Cx} : OpR X (binaryOp .Pow) (rI CPowW fun i j => .int (i ^ j.toNat)) := opI fun _ _ _ _ _ _ _ hc q => pow_int hc.1 hc.2 q
/-- the 95 characters by their codes -/
def chStr : Str := "\n !\"#$&'()*+,-./0123456789:;<=>?@ABCDEFGHIJKLMNOPQRSTUVWXYZ[\\]^_`abcdefghijklmnopqrstuvwxyz{|}~"
def chC : List Nat := chStr.cps.toList
theorem chC_len : chC.length = 95 := by decide +kernel
theorem chStr_S : chStr = S chC := by unfold chC S; rfl
def ch (j : Nat) : Nat := chC.getD j 0
/-- the text of a row of indices -/
def tx (js : List Nat) : Str := S (js.map ch)
theorem ch_at {j : Nat} (h : j < 95) : chC[j]? = some (ch j) := by
  have h' : j < chC.length := by rw [chC_len]; exact h
  rw [List.getElem?_eq_getElem h', ch, List.getD_eq_getElem?_getD, List.getElem?_eq_getElem h']; rfl
theorem ch_low (j : Nat) : ch j < 128 := by
  by_cases h : j < 95
  · exact (show ∀ c ∈ chC, c < 128 by decide +kernel) _ (List.mem_of_getElem? (ch_at h))
  · rw [ch, List.getD_eq_getElem?_getD, List.getElem?_eq_none (by rw [chC_len]; omega)]; decide
theorem ch_inj {i j : Nat} (hi : i < 95) (hj : j < 95) (h : ch i = ch j) : i = j := by
  have key : ∀ i < 95, ∀ j < 95, ch i = ch j → i = j := by decide +kernel
  exact key i hi j hj h
theorem tx_len (js : List Nat) : (tx js).length = js.length := by rw [tx, S_len, List.length_map]
theorem tx_app (a b : List Nat) : tx (a ++ b) = tx a ++ tx b := by rw [tx, List.map_append, ← S_cat]; rfl
theorem occ_ch : ∀ j < 95, (Builtin.Str.occurrences chStr ⟨#[ch j]⟩ 0 95 1).head? = some j := by decide +kernel
theorem occ_at {j : Nat} (h : j < 95) : ∃ rest, Builtin.Str.occurrences chStr ⟨#[ch j]⟩ 0 chStr.length 1 = j :: rest := by
  have e := occ_ch j h
  rw [show chStr.length = 95 by decide +kernel]
  cases q : Builtin.Str.occurrences chStr ⟨#[ch j]⟩ 0 95 1 with
  | nil => rw [q] at e; cases e
  | cons a r => rw [q] at e; exact ⟨r, by rw [Option.some.inj e]⟩
theorem joinL_one : ∀ cs : List Nat, TL.joinL [] (cs.map fun c => [c]) = cs
  | [] => rfl
  | [c] => rfl
  | c :: d :: r => by
    have := joinL_one (d :: r)
    show [c] ++ ([] ++ TL.joinL [] ((d :: r).map fun c => [c])) = _
    rw [this]; rfl
theorem join_chars (cs : List Nat) : Txt.join "" (cs.map fun c => (⟨#[c]⟩ : Str)) = S cs := by
  rw [TL.join_eq]
  have e := TL.tl_join "" (cs.map fun c => (⟨#[c]⟩ : Str))
  rw [show TL.tl ("" : Str) = [] by decide +kernel, List.map_map, show (TL.tl ∘ fun c => (⟨#[c]⟩ : Str)) = fun c => [c] from rfl, joinL_one] at e
  cases h : Str.join "" (cs.map fun c => (⟨#[c]⟩ : Str)) with
  | mk a =>
    rw [h] at e
    have e : a.toList = cs := e
    subst e
    rfl
section
variable {X : Cx} {K : PySem.W.Frag} {T id : String} {name : Str} {r : V → List V → Hp → VK → Prop} {o e : Expr} {es : List Expr} {to : TE} {t : TA} {apos cpos : Pos}
/-- a built-in method, where the written part is told (in a comprehension) -/
theorem pe_bmK (hK : X.K = K) (pa : PlainAttrs T) (slot : Slot T name id) (hty : typeOf (.builtin id) = pure (.type "method_descriptor")) (hm : MtR X id r) (ho : PE X o to) (ha : PA X (e :: es) t)
    (hbase : attributeBase o name X.env (eval o X.env) = eval o X.env := by rfl)
    (hfew : ((backTo cpos (starEach (e :: es) X.env)).all (fun x => !x.1) && (backToKw cpos (keywordEach [] X.env)).all (fun x => x.1.isSome)
      && decide ((e :: es).length + ([] : List Keyword).length + (if ([] : List Keyword).isEmpty then 0 else 1) < 30)) = true := by rfl)
    (hline : (apos.endLine == cpos.line) = true := by rfl) (hs : starEach (e :: es) X.env = (false, eval e X.env) :: starEach es X.env := by rfl) (hplain : (backTo cpos (starEach es X.env)).any (·.1) = false := by rfl) :
    PE X (.Call (.Attribute o name apos) (e :: es) [] cpos) (tBM K T r to t) := by
  subst hK; exact pe_bm pa slot hty hm ho ha hbase hfew hline hs hplain
end
/-! dicts of the top whose keys are texts and whose values are plain -/
inductive DEntV (w : World) : List DictEntry → List (Str × V) → Prop
  | nil : DEntV w [] []
  | cons {e : DictEntry} {es : List DictEntry} {k : Str} {v : V} {ps : List (Str × V)} {t : Tok} : e.key = .str k t → e.hash = hashStr w k → RelV v e.val → DEntV w es ps → DEntV w (e :: es) ((k, v) :: ps)
def valKV (ps : List (Str × V)) : List (Key × V) := ps.map fun p => (.inr p.1, p.2)
theorem DEntV.pairs {P : Program} {w : World} : ∀ {es : List DictEntry} {ps : List (Str × V)}, DEntV w es ps → ∃ vs : List (Key × Value), KV (valKV ps) vs ∧ PySem.Pairs (mixKind P w) es vs ∧ vs.map (·.1) = ps.map (fun p => (Sum.inr p.1 : Key)) ∧ ∀ e ∈ es, ∃ k : Key, (mixKind P w).is k e.key = true ∧ e.hash = (mixKind P w).hash k
  | _, _, .nil => ⟨[], .nil, .nil, rfl, fun _ h => by cases h⟩
  | _, _, .cons (e := e0) (k := k) (v := v) (t := t) hk hh hv r => by
    obtain ⟨vs, a, b, c, d⟩ := DEntV.pairs (P := P) r
    refine ⟨(.inr k, e0.val) :: vs, .cons ⟨rfl, hv⟩ a, .cons (by rw [hk]; exact mixKind_str P w k t) rfl b, by rw [List.map_cons, c]; rfl, fun e he => ?_⟩
    rcases List.mem_cons.mp he with rfl | he
    · exact ⟨.inr k, by rw [hk]; exact mixKind_str P w k t, hh⟩
    · exact d e he
theorem HasDct.mkV {P : Program} {w : World} {K : PySem.W.Frag} {x : Str} {ps : List (Str × V)} {a : Addr} {es : Array DictEntry} {ep : Nat} (h : PySem.W.nsIn K mainGlobals x = some (some (.ref a)))
    (b : K.lookup a = some { cls := .type "dict", data := .dict es ep }) (hs : (a == sysModules) = false) (c : DEntV w es.toList ps) (nd : (ps.map (·.1)).Nodup) : HasDct P w K x (valKV ps) := by
  obtain ⟨vs, v1, v2, v3, v4⟩ := DEntV.pairs (P := P) c
  refine ⟨a, h, hs, vs, v1, fun hh hK => ⟨_, es, ep, hK a _ b, ⟨rfl, rfl, rfl⟩, rfl, fun e he => v4 e (Array.mem_toList_iff.mpr he), v2, ?_⟩⟩
  rw [v3]
  have : ps.map (fun p => (Sum.inr p.1 : Key)) = (ps.map (·.1)).map Sum.inr := by rw [List.map_map]; rfl
  rw [this]
  exact nodup_inr nd
theorem dtAll_int {K : PySem.W.Frag} {H : Hp} : ∀ {is : List Int} {ws : List V}, DtAll K H ws (is.map PyData.int) → ws = is.map V.int
  | [], _, h => by cases h.nil_inv; rfl
  | i :: r, _, h => by
    obtain ⟨y, ws, rfl, h1, h2⟩ := h.cons_inv
    cases h1.int_inv
    rw [dtAll_int h2]; rfl
theorem cut_one (x : V) (xs : List V) : cutV (x :: xs) (some 1) none = xs := by
  unfold cutV
  rw [show (some (1 : Int)) = some ((1 : Nat) : Int) from rfl, HT.sIx_nat, HT.sIx_none, Nat.min_eq_left (by simp)]
  simp
theorem tx_take (js : List Nat) (n : Nat) : cutS (tx js) none (some (n : Int)) = tx (js.take n) := by
  unfold cutS
  rw [tx_len, HT.sIx_nat, HT.sIx_none]
  show (⟨(((js.map ch).drop 0).take (min n js.length - 0)).toArray⟩ : Str) = ⟨((js.take n).map ch).toArray⟩
  rw [List.drop_zero, Nat.sub_zero, List.map_take]
  congr 2
  by_cases h : n ≤ js.length
  · rw [Nat.min_eq_left h]
  · rw [Nat.min_eq_right (by omega), List.take_of_length_le (by simp), List.take_of_length_le (by simp; omega)]
theorem tx_drop (js : List Nat) (n : Nat) : cutS (tx js) (some (n : Int)) none = tx (js.drop n) := by
  unfold cutS
  rw [tx_len, HT.sIx_nat, HT.sIx_none]
  show (⟨(((js.map ch).drop (min n js.length)).take (js.length - min n js.length)).toArray⟩ : Str) = ⟨((js.drop n).map ch).toArray⟩
  rw [List.map_drop]
  congr 2
  by_cases h : n ≤ js.length
  · rw [Nat.min_eq_left h, List.take_of_length_le (by simp)]
  · rw [Nat.min_eq_right (by omega), List.drop_of_length_le (by simp), List.drop_of_length_le (by simp; omega)]; simp
def rLenK (K : PySem.W.Frag) : List V → Hp → VK → Prop := fun xs H Q => ∃ x n, xs = [x] ∧ LenV K x H n ∧ Q (.int (n : Nat)) H
theorem call_lenK {X : Cx} {K : PySem.W.Frag} (hK : X.K = K) : CallR X (.builtin "len") (rLenK K) := by subst hK; exact call_len
end LK

set_option Elab.async false
set_option linter.all false
set_option maxRecDepth 100000
set_option maxHeartbeats 4000000
/-! An own exception class over ValueError (its bases may be own ones) whose __init__ says super().__init__(..) first. -/
namespace SupX
open PySem PySem.Spec PyProof.Rows L2 NdefX
/-- what the written part says of the class at C, its __init__ at fI (a def that closes over __class__), in the program P -/
structure SupC (P : Program) (K : PySem.W.Frag) (C fI cc : Addr) (F : NF) : Prop where
  oex : OexC K C
  fn : ∃ oc od doc pm ctv osl, K.lookup fI = some ⟨oc, od, .func (F.fd doc pm ctv), osl⟩
  cl : F.cl = [(("__class__" : Str), cc)]
  cd : PySem.W.codeIn K (.ref F.c) F.qual = true
  code : ∃ ccl cdd vs ccs file tf, K.lookup F.c = some ⟨ccl, cdd, .fields vs, ccs⟩ ∧ vs[2]? = some (.str file tf) ∧ ((P.main.file : Str) == file) = true
  top : (P.main.scope.names.lookup ("super" : Str)).isSome = false
  cell : ∃ cl cld csl, K.lookup cc = some ⟨cl, cld, .cell (some (.ref C)), csl⟩
  own : PySem.W.mroIn K C (.ref C) = some true
  isB : PySem.W.subIn K (.ref C) (.type "ValueError") = some true
  sup : PySem.W.ks_superIn K C C "__init__" = some (some (.builtin "ValueError.__init__"))
  opq : PySem.W.nsIn K cStatics "thirdparty.any" = some none
  glob : PySem.W.nsIn K mainGlobals "super" = some none
/-- super().__init__(..), then the rest -/
def tSup (C : Addr) (ta : TA) (tr : TS) : TS := fun D σ H => ta σ H fun ws H1 => ws.length ≤ 1000 ∧ ∃ a, σ[0]? = some (some (.ref a)) ∧ H1 a = some (exo a C none) ∧ tr D σ H1
section
variable {P : Program} {w : World} {K : PySem.W.Frag} {mg : Str → Option Value} {base : Heap} {N ps : List Str} {F : NF} {fI C cc : Addr} {k : Nat} {sp : Sp} {e : Expr} {es : List Expr} {rest : List Stmt} {p0 p1 pa pc pe : Pos} {self : Str} {ar : Arg}
theorem sup_ok (T : SupC P K C fI cc F) (S : NScope N (self :: ps) ["__class__"] F.scope) (len : ∀ vs H Q E, sp vs H Q E → vs.length = (self :: ps).length)
    (hself : ∀ vs H Q E, sp vs H Q E → ∃ a ws, vs = .ref a :: ws ∧ H a = some (exo a C none))
    (hbd : F.body = .Expr (.Call (.Attribute (.Call (.Name "super" p0) [] [] p1) "__init__" pa) (e :: es) [] pc) pe :: rest) (hpar : (F.params.posonlyargs ++ F.params.args).head? = some ar) (har : ar.arg = self)
    (hks : F.scope.names.lookup ("super" : Str) = some .globalImplicit) (hkc : F.scope.names.lookup ("__class__" : Str) = some .free) (hka : F.scope.names.lookup self = some .local)
    (he : ∀ env : Env, starEach (e :: es) env = (false, eval e env) :: starEach es env) (hpl : ∀ env : Env, (backTo pc (starEach es env)).any (·.1) = false)
    (hev : ∀ env : Env, ∃ pl : Sem Bool, eval (.Call (.Attribute (.Call (.Name "super" p0) [] [] p1) "__init__" pa) (e :: es) [] pc) env = (do
      let ov ← attributeBase (.Call (.Name "super" p0) [] [] p1) "__init__" env (eval (.Call (.Name "super" p0) [] [] p1) env)
      standAt pa.atName
      let (f, first) ← holding [ov] (getMethod ov "__init__" pl)
      callWith pc f first (backTo pc (starEach (e :: es) env)) []))
    (body : ∀ (A : Around) (outer : List Env) (s : Shared) (H : Hp) (vs : List V) (Q : VK) (E : XK), Room k (A.deeper (envF F fI s.heap.objs.size)) → sp vs H Q E →
      ∃ ta tr, PA (ncx CX0 P w K mg base N F fI A outer s H E) (e :: es) ta ∧ PSs (ncx CX0 P w K mg base N F fI A outer s H E) rest tr ∧ tSup C ta tr { nx := fun _ H' => Q .non H', rt := Q } (startF N vs [none]) H) :
    ∀ fd, (∃ oc od osl, K.lookup fI = some ⟨oc, od, .func fd, osl⟩) → FnOk P w K mg base CX0 (k + 1) fI fd (self :: ps) sp := by
  rintro fd ⟨oc', od', osl', lk'⟩
  obtain ⟨oc, od, doc, pm, ctv, osl, lk⟩ := T.fn
  have efd : fd = F.fd doc pm ctv := by
    rw [lk] at lk'
    have := Option.some.inj lk'
    injection this with _ _ h _
    injection h with h
    exact h.symm
  subst efd
  refine ⟨len, fun A outer s H args us vs Q E hr e0 hb r hsp => ?_⟩
  have inn : K.In s.heap := e0.mod.kin.keeps fun b o e => (e0.bs b o e).1
  have lim : s.heap.NoLimit := e0.mod.nolimit.keeps fun b o e => (e0.bs b o e).1
  obtain ⟨a, ws, rfl, ha⟩ := hself _ _ _ _ hsp
  refine ks_codeAny_call_defAt (fd := F.fd doc pm ctv) (body := F.body) (binds := (self :: ps).zip us) hr.depth (inn _ _ lk) rfl lim (PySem.W.codeRec_of inn T.cd) rfl hb S.nocell
    (fun ⟨n, _⟩ hx => S.par n (List.of_mem_zip hx).1) (fun h₁ hns kp => ?_) S.co S.gen S.kind
  obtain ⟨cl, cld, csl, hcell⟩ := T.cell
  have cellS : s.heap.IsCell cc (some (.ref C)) := ⟨_, inn _ _ hcell, rfl⟩
  have ec : ∀ y c, F.cl.lookup y = some c → y = "__class__" ∧ c = cc := fun y c h => by
    rw [T.cl] at h
    by_cases hy : y = ("__class__" : Str)
    · subst hy
      simp [List.lookup] at h
      exact ⟨rfl, h.symm⟩
    · have : (y == ("__class__" : Str)) = false := beq_eq_false_iff_ne.mpr hy
      simp [List.lookup, this] at h
  have lc : F.cl.lookup ("__class__" : Str) = some cc := by rw [T.cl]; simp [List.lookup]
  obtain ⟨oB, hoB⟩ : ∃ o, base.get? cc = some o := ⟨_, e0.mod.kin _ _ hcell⟩
  have Cs : CellsAt F.cl ["__class__"] [none] s.heap H := by
    refine ⟨rfl, fun y c h => ?_, fun x y c h1 h2 => ?_, fun i y h => ?_⟩
    · obtain ⟨_, rfl⟩ := ec y c h
      exact ⟨(e0.bs _ _ hoB).2, _, cellS⟩
    · rw [(ec x c h1).1, (ec y c h2).1]
    · match i, h with
      | 0, h =>
        obtain rfl := Option.some.inj h
        exact ⟨cc, lc, fun v hv => by simp at hv⟩
      | i + 1, h => simp at h
  obtain ⟨ta, tr, hta, htr, hq⟩ := body A outer s H _ Q E (hr.deeper _) hsp
  have I : Inv (ncx CX0 P w K mg base N F fI A outer s H E) [] (startF N (.ref a :: ws) [none]) H { s with heap := h₁, toks := s.toks + ((self :: ps).zip us).length } := inv_startN S hr.hd e0 (len _ _ _ _ hsp) r Cs hns kp
  show PySem.wpAt (model P w) (A.deeper (envF F fI s.heap.objs.size)) (.func F.body (envF F fI s.heap.objs.size)) (execs F.body (envF F fI s.heap.objs.size)) _ _ _
  generalize s.toks + ((self :: ps).zip us).length = tk at I
  rw [show execs F.body = execs (.Expr (.Call (.Attribute (.Call (.Name "super" p0) [] [] p1) "__init__" pa) (e :: es) [] pc) pe :: rest) from by rw [hbd]]
  refine ks_wpAt_execs_cons ?_
  refine ks_wpAt_Expr_any ?_ (by unfold interactive; rw [show (envF F fI s.heap.objs.size).scope.kind = .function from S.kind]; rfl)
  obtain ⟨pl, hev⟩ := hev (envF F fI s.heap.objs.size)
  refine ks_wpAt_MethodCall ?_ hev
  obtain ⟨ccl, cdd, vs', ccs, file, tf, hcode, hvs, hfile⟩ := T.code
  have X1 : K.In h₁ := inn.keeps kp
  refine ks_wpAt_super_base (env := envF F fI s.heap.objs.size) hks hkc rfl rfl (X1 _ _ lk) rfl hpar rfl (X1 _ _ hcode) rfl hvs hfile T.top ?_
  obtain ⟨mb, hmb, hboot⟩ := e0.mod.blt
  have kB : ∀ b o, base.get? b = some o → h₁.get? b = some o := fun b o e => kp b o (e0.bs b o e).1
  refine PySem.W.ks_loadName_global S.kind hks (PySem.Calls.loadGlobal_builtin (env := envF F fI s.heap.objs.size) (e0.mod.glob.keeps kB) (PySem.W.mg_none_of e0.mod.kin e0.mod.glob T.glob) (hmb.keeps kB) (hboot _ (by decide +kernel)) ⟨rfl, ?_⟩)
  refine wpAny_loadName_free S.kind hkc lc ⟨_, X1 _ _ hcell, rfl⟩ ?_
  -- self
  have ndp : (self :: ps).Nodup := by
    have h : ((self :: ps) ++ [("__class__" : Str)]).Nodup := by rw [← S.pre]; exact S.nd.sublist (List.take_sublist _ _)
    exact (List.nodup_append.mp h).1
  obtain ⟨us', rfl⟩ : ∃ us', us = .ref a :: us' := by
    cases r with
    | cons r1 r2 => exact ⟨_, by rw [show _ = Value.ref a from r1]⟩
  rw [har]
  refine wpAny_loadName_local S.kind hka hns (zip_look (i := 0) (x := self) (u := .ref a) ndp rfl rfl) ?_
  -- super(__class__, self)
  obtain ⟨nm, q, NN, bs, bm, sn, sub, ab, col, dd, k0, k1, k2, k3, k5, hC, hbm⟩ := T.oex.cls
  have hcl : PySem.W.clsIn K C = some { name := nm, bases := bs, mro := .ref C :: bm, ns := NN, qualname := q, hasDict := true, slotNames := sn, subclasses := sub, abstract := ab, collection := col, hasDel := false } := by unfold PySem.W.clsIn; rw [hC] <;> rfl
  obtain ⟨t1, hoa⟩ := exo_at I.hok ha
  obtain ⟨hh0, g, dr, tk0, os⟩ := s
  dsimp only at *
  refine ks_wpAny_isType_cls (X1 _ _ hC) rfl ⟨rfl, ?_⟩
  refine ks_wpAny_call_super (X1 _ _ hC) rfl hoa rfl (fun c e => by cases e) (PySem.W.looks_mroIn X1 T.own) (fun h2 e2 k2' => ?_)
  have X2 : K.In h2 := X1.keeps k2'
  have IA : PySem.W.InstAt h2 a _ C none := ⟨k2' _ _ hoa, rfl, rfl, trivial⟩
  have hm := T.sup
  unfold PySem.W.ks_superIn at hm
  rw [hcl] at hm
  refine PySem.W.kxs_getMethod PySem.W.kxs_ValueError e2 (PySem.W.looks_opaque X2 T.opq) (l₀ := .ref C :: bm) (fun A Q E s k q => wpAny_bind ((PySem.W.looks_clsIn X2 hcl) A _ E s k (wpAny_pure q))) rfl X2 hm (IA.type.andThen (PySem.W.looks_subIn X2 T.isB)) (PySem.W.ks_ne X2 IA hcl) (by decide) ?_
  -- the wrapper, called
  have I1 : Inv (ncx CX0 P w K mg base N F fI A outer ⟨hh0, g, dr, tk0, os⟩ H E) [(h2.objs.size, PySem.W.kxs_mw "ValueError.__init__" a)] (startF N (.ref a :: ws) [none]) H ⟨h2.push (PySem.W.kxs_mw "ValueError.__init__" a), g, dr, tk + 1, os⟩ :=
    ClX.pin_new (t' := tk + 1) I (fun b o e => Heap.get?_push_of_some _ (k2' _ _ e)) (Nat.le_of_lt (Heap.lt_size e2)) (Heap.get?_push_at rfl rfl) (fun v e => by cases e)
  have He := he (envF F fI hh0.objs.size)
  rw [He]
  refine PySem.W.kxs_callWith (i := "ValueError.__init__") (x := a) (by show (false || (backTo pc (starEach es (envF F fI hh0.objs.size))).any (·.1)) = false; rw [hpl]; rfl) ?_
  refine PySem.Calls.evalArgs_plain ?_
  have hrun := hta.run pc _ _ _ _ _ I1 hq
  change wpAny _ _ (spliced (backTo pc (starEach (e :: es) (envF F fI hh0.objs.size)))) _ _ _ at hrun
  rw [He] at hrun
  refine thn hrun fun vs s1 ⟨ws', H1, I2, r2, hz, a', ha', hb', q⟩ => ?_
  obtain rfl : a = a' := by
    have e : (startF N (.ref a :: ws) [none])[0]? = some (some (V.ref a)) := rfl
    rw [e] at ha'
    exact V.ref.inj (Option.some.inj (Option.some.inj ha'))
  have hu := ClX.pin_at I2
  refine ⟨hu, ?_⟩
  obtain ⟨t2, ho2⟩ := exo_at I2.hok hb'
  have hlen : vs.length ≤ sizeLine := by
    rw [← Paired.length r2, sizeLine_eq]
    omega
  obtain ⟨h3, g3, d3, t3, os3⟩ := s1
  have X3 : K.In h3 := I2.kIn
  dsimp only at *
  refine wpAny_call (codeAny_of_tree ?_)
  show wpAny _ _ (callAny (.ref h2.objs.size) ⟨[] ++ vs, []⟩) _ _ _
  rw [List.nil_append]
  simp only [callAny]
  refine wpAny_bind (wpAny_load hu ?_)
  simp only [PySem.W.kxs_mw, show (Value.type "method-wrapper" == Value.type "method" || Value.type "method-wrapper" == Value.type "builtin_function_or_method" || Value.type "method-wrapper" == Value.type "method-wrapper") = true by decide, if_true]
  refine PySem.W.KFB.if_so (by decide) ?_
  refine wpAny_bind (PySem.W.check_bound_init PySem.F.excBase_ValueError.toExcCallFacts (X3 _ _ hC) ho2 rfl ?_)
  refine wpAny_bind (wpAny_pure (wpAny_pure ?_))
  refine ⟨plainId_quiet PySem.F.excBase_ValueError.init.plain _, codeAny_builtin PySem.F.excBase_ValueError.initEntry ?_⟩
  refine PySem.W.exc_init_tree (cls := .ref C) (t0 := t2) (dv := none) (c2 := .none) (c3 := .none) (b4 := .bool false) ho2 hlen fun h4 k4 e4 _ => ?_
  have J := I2.write (t' := t3) (x := a) (e := a) (o := exo a C none) (by rw [hb']; exact True.intro) (.inl rfl) k4 ⟨_, e4⟩ (exo_ok e4)
  have eu : upd H1 a (exo a C none) = H1 := by
    funext b
    by_cases hb : b = a
    · rw [hb, upd_same, hb']
    · rw [upd_ne hb]
  rw [eu] at J
  have J := ClX.unpin J
  refine wpAt_of_wpAny (wpAny_mono (htr.run [] _ _ _ _ J q) (fun fl s' hs => ?_) fun _ _ z => z)
  have fin : ∀ {σ' : L2.St} {H' : Hp} {v : V} {u : Value}, Inv (ncx CX0 P w K mg base N F fI A outer ⟨hh0, g, dr, tk0, os⟩ H E) [] σ' H' s' → L2.RelV v u → Q v H' → CE outer P w H ⟨hh0, g, dr, tk0, os⟩ Q u s' :=
    fun {σ' H' v u} J rv q => ⟨v, H', J.os, J.bare, J.base, J.hok, rv, q⟩
  cases fl with
  | ret u =>
    obtain ⟨v, σ', H', J, rv, q⟩ := hs
    exact fin J rv q
  | next =>
    obtain ⟨σ', H', J, q⟩ := hs
    exact fin (v := V.non) (u := Value.none) J rfl q
  | brk =>
    obtain ⟨_, _, _, q⟩ := hs
    exact False.elim q
  | cont =>
    obtain ⟨_, _, _, q⟩ := hs
    exact False.elim q
end
end SupX

set_option Elab.async false
set_option linter.all false
set_option maxRecDepth 100000
set_option maxHeartbeats 4000000
/-! Own exceptions in the layer: isinstance of a caught one that has a dict; raise C(line, reason); defs that raise. -/
namespace LK
open PySem PySem.Spec PyProof.Rows L2 NdefX SupX
section
variable {K : PySem.W.Frag} {x D : Addr} {ox : Obj}
theorem kitx_excD (C : ExcC K D) : PySem.W.KitX K (.ref x) (.ref D) (fun h => ∃ od, PySem.W.InstAt h x ox D od) where
  ty := fun _ _ _ ⟨_, I⟩ => I.type
  it := fun _ _ X _ => by
    obtain ⟨cdD, hcD, _⟩ := PySem.W.any_some C.hd
    unfold PySem.W.clsIn at hcD
    split at hcD
    · rename_i c' d' cd' sl' ho
      intro A' Q' E' s' k q
      unfold isType loadHead
      exact wpAny_bind (wpAny_loadPart (k _ _ (X _ _ ho)) (wpAny_pure q))
    · cases hcD
  ne := fun h tp dd its n sl X htp => by
    obtain ⟨cdD, hcD, _⟩ := PySem.W.any_some C.hd
    refine Bool.eq_false_iff.mpr fun q => ?_
    have e : D = tp := Value.ref.inj (beq_iff_eq.mp q)
    subst e
    unfold PySem.W.clsIn at hcD
    split at hcD
    · rename_i c' d' cd' sl' ho
      have z := (X _ _ ho).symm.trans htp
      cases z
    · cases hcD
  ca := fun X ⟨od, I⟩ k => PySem.W.kx_classE X I C.hg C.hk C.hs (PySem.W.findObj_dataE (by obtain ⟨cd, hc, _⟩ := PySem.W.any_some C.hd; rw [hc]; rfl) C.ha C.hn C.ht) C.hm k
end
/-- isinstance(e, c), e the exception that the suite holds, its dict at dd -/
def rIsD (K : PySem.W.Frag) (D a dd : Addr) : List V → Hp → VK → Prop := fun xs H Q => ∃ (c : V) (cv : Value) (b : Bool) (fs : List (Str × V)), xs = [.ref a, c] ∧ (∀ u, RelV c u → u = cv) ∧ PySem.W.kitOne K (.ref D) cv = some b ∧ H dd = some (.xd fs) ∧ Q (.bl b) H
theorem call_isD {X : Cx} {a D dd : Addr} {oe : Obj} {pn : List (Addr × Obj)} (C : ExcC X.K D) (hz : Zc (.ref D) (some dd) oe) (hf : ∃ vs, oe.data = .fields vs) : CallR (X.suite a ((a, oe) :: pn)) (.builtin "isinstance") (rIsD X.K D a dd) := by
  intro pins s σ H xs us Q I r h
  obtain ⟨c, cv, b, fs, rfl, hcv, e, hd, q⟩ := h
  cases r with
  | cons rx rr =>
    cases rr with
    | cons rt rr =>
      cases rr
      cases rx
      have ec := hcv _ rt
      subst ec
      obtain ⟨hget, _⟩ := I.pin (a, oe) (List.mem_append.mpr (.inl List.mem_cons_self))
      obtain ⟨vs, hv⟩ := hf
      have hx : ObjOk X.prog X.w H s.heap dd (.xd fs) := I.hok dd _ hd
      obtain ⟨mA, hns, hr⟩ := hx
      obtain ⟨od, ho, hl⟩ := lookIn_ns hns
      have J : PySem.W.InstAt s.heap a oe D (some od) := ⟨hget, hz.1, by unfold PySem.W.notCls; rw [hv] <;> rfl, by rw [hz.2]; exact ho⟩
      exact PySem.W.kia_one (kitx_excD C) I.kIn ⟨_, J⟩ e (fun z => nomatch z) fun tk => ⟨.bl b, H, I.kept (t' := tk) fun _ _ z => z, rfl, q⟩
/-! ### the class Fault -/
/-- what its __init__ leaves -/
def spFault (K : PySem.W.Frag) (C : Addr) : Sp := fun vs H Q _ => ∃ (a : Addr) (n : Int) (r : Str), vs = [.ref a, .int n, .str r] ∧ H a = some (exo a C none) ∧ n.natAbs < 2 ^ 100 ∧ r.length ≤ 1000 ∧
  ∀ d H', H d = none → H' a = some (exo a C (some d)) → H' d = some (exd d [("reason", .str r), ("line", .int n)]) → (∀ b, b ≠ a → b ≠ d → H' b = H b) → Q .non H'
/-- the class stands at C, its base at B: what a raise and an except ask -/
structure UseF (P : Program) (w : World) (K : PySem.W.Frag) (mg : Str → Option Value) (base : Heap) (C B : Addr) : Prop where
  oex : OexC K C
  xf : XfC K C
  isc : ExcC K C
  mC : mg "Fault" = some (.ref C)
  mB : mg "HoldError" = some (.ref B)
  line : PySem.W.findIn K (.ref C) "line" = some none
  reason : PySem.W.findIn K (.ref C) "reason" = some none
  exm : PySem.W.exmOne K (.ref C) (.ref B) = some true
  ve : PySem.W.kitOne K (.ref C) (.type "ValueError") = some true
  ini : ∃ (fI : Addr) (fd : FuncData), PySem.W.findIn K (.ref C) "__init__" = some (some (.ref fI)) ∧ PySem.W.typeIn K (.ref fI) = some (.type "function") ∧ FnOk P w K mg base CX0 1 fI fd ["self", "line", "reason"] (spFault K C) ∧ Binds K fd ["self", "line", "reason"] []
def faultD (n : Int) (r : Str) : HO := .xd [("reason", .str r), ("line", .int n)]
/-- raise Fault(line, reason) -/
def tRaiseF (C : Addr) (ta : TA) (W : WX) : TS := fun _ σ H => ta σ H fun vs H1 => ∃ (n : Int) (r : Str), vs = [.int n, .str r] ∧ n.natAbs < 2 ^ 100 ∧ r.length ≤ 1000 ∧ ∀ d, H1 d = none → W (.ref C) (some d) σ (upd H1 d (faultD n r))
section
variable {X : Cx} {C B : Addr} {W : WX} {e1 : Expr} {es : List Expr} {ta : TA} {p pos pos2 : Pos}
theorem pa_up (h : PA X es ta) : PA X es (fun σ H Q => ∃ P : List V → Hp → Prop, ta σ H P ∧ ∀ vs H1, P vs H1 → Q vs H1) :=
  ⟨fun pos pins s σ H Q I ⟨P, hP, k⟩ => thn (h.run pos pins s σ H P I hP) fun us s1 ⟨vs, H1, I1, r, q⟩ => ⟨vs, H1, I1, r, k vs H1 q⟩⟩
theorem ps_raiseF (U : UseF X.prog X.w X.K X.mg X.base C B) (hc : X.calm = true) (tk : Takes X W) (hr : Room 2 X.A) (hg : Gl X "Fault") (ha : PA X (e1 :: es) ta)
    (he : starEach (e1 :: es) X.env = (false, eval e1 X.env) :: starEach es X.env := by rfl) (hpl : (backTo pos (starEach es X.env)).any (·.1) = false := by rfl) :
    PS X (.Raise (some (.Call (.Name "Fault" p) (e1 :: es) [] pos)) none pos2) (tRaiseF C ta W) := by
  obtain ⟨fI, fd, i1, i2, ok, hb⟩ := U.ini
  have R := ps_raise (pos := pos2) hc tk (pmk_oex (p := p) (pos := pos) U.oex i1 i2 ok hr hb .nil pass0 hg U.mC (pa_up ha) (by decide) he hpl)
  refine ⟨fun pins s σ H D I h => R.run pins s σ H D I ⟨_, h, ?_⟩⟩
  rintro vs H1 ⟨n, r, rfl, hn, hr, k⟩
  refine ⟨show 2 ≤ 1000 by decide, fun a ha1 => ⟨a, n, r, rfl, upd_same, hn, hr, fun d H2 hd ha2 hd2 keep => ?_⟩⟩
  have hda : d ≠ a := fun e => by
    subst e
    rw [upd_same] at hd
    cases hd
  rw [upd_ne hda] at hd
  refine ⟨rfl, d, _, ha2, hd2, hd, ?_⟩
  have e : upd (del H2 a) d (.xd [("reason", .str r), ("line", .int n)]) = upd H1 d (faultD n r) := by
    funext b
    by_cases hb : b = d
    · subst hb
      rw [upd_same, upd_same]; rfl
    · rw [upd_ne hb, upd_ne hb]
      by_cases hba : b = a
      · subst hba
        rw [del_same, ha1]
      · rw [del_ne hba, keep b hba hb, upd_ne hba]
  rw [e]
  exact k d hd
end
/-! ### the call of a def that may raise -/
section
variable {X : Cx} {CX : CXT} {k : Nat} {f : Addr} {fd : FuncData} {ps : List Str} {sp : Sp} {x : Str} {p pos : Pos} {e : Expr} {es : List Expr} {t : TA}
theorem run_fnSG {pins : List (Addr × Obj)} {σ : L2.St} {H : Hp} {s : Shared} {Q : VK} {us : List Value} {vs : List V} {E : L2.St → XK} (F : FnG X.prog X.w X.K X.mg X.base CX k f fd ps sp) (hr : Room k X.A) (hg : X.A.guards = some []) (hb : Binds X.K fd ps [])
    (hx : PassesAt CX X σ (E σ)) (I : Inv X pins σ H s) (r : Vals vs us) (h : sp vs H Q (E σ)) : wpAny (model X.prog X.w) X.A (call (.ref f) us) (EP X pins σ Q) X.xe s := by
  have hl : (us ++ []).length = ps.length := by rw [List.append_nil, ← r.length, F.len _ _ _ _ h]
  have hbs := hb s us I.kIn hl
  rw [List.append_nil] at hbs
  refine wpAny_call (codeAny_mono (F.run X.A X.stack s H ⟨us, []⟩ us vs Q _ hr hg I.env0 hbs r h) fun res s' hq => ?_)
  match res, hq with
  | .error e, hq => exact hx pins H s e s' I hq
  | .ok (.ret u), hq => exact I.after hq
  | .ok .next, hq => exact hq.elim
  | .ok .brk, hq => exact hq.elim
  | .ok .cont, hq => exact hq.elim
def tUseS (sp : Sp) (E : L2.St → XK) (t : TA) : TE := fun σ H Q => t σ H fun vs H1 => sp vs H1 Q (E σ)
/-- in a try -/
theorem pe_useS {E : L2.St → XK} (U : Use X.prog X.w X.K X.mg X.base CX x k ps sp) (hx : ∀ σ, PassesAt CX X σ (E σ)) (hr : Room k X.A) (gd : X.A.guards = some []) (hg : Gl X x) (ha : PA X (e :: es) t) (hdb : (x == ("__debug__" : Str)) = false := by decide)
    (he : starEach (e :: es) X.env = (false, eval e X.env) :: starEach es X.env := by rfl) (hpl : (backTo pos (starEach es X.env)).any (·.1) = false := by rfl) : PE X (.Call (.Name x p) (e :: es) [] pos) (tUseS sp E t) := by
  obtain ⟨f, fd, ok, hm, kp, hb⟩ := U.ex
  refine ⟨fun pins s σ H Q I h => wpAny_Call_Name_kw (ld_glob I hg hm ?_ hdb)⟩
  exact PySem.W.callWith_K (h₀ := X.base) I.ok.mod.kin kp (thn (ha.run pos pins s σ H _ I h) fun us s1 ⟨vs, H1, I1, r, q⟩ => ⟨I1.kIn, run_fnSG ok hr gd hb (hx _) I1 r q⟩) he hpl
/-- in a def that lets out what the callee lets out -/
theorem pe_useR {E : XK} (U : Use X.prog X.w X.K X.mg X.base (L2.CX X.prog X.w) x k ps sp) (tk : Takes X fun cls d _ H => E cls d H) (hr : Room k X.A) (gd : X.A.guards = some []) (hg : Gl X x) (ha : PA X (e :: es) t) (hdb : (x == ("__debug__" : Str)) = false := by decide)
    (he : starEach (e :: es) X.env = (false, eval e X.env) :: starEach es X.env := by rfl) (hpl : (backTo pos (starEach es X.env)).any (·.1) = false := by rfl) : PE X (.Call (.Name x p) (e :: es) [] pos) (tUse sp E t) :=
  pe_useX U (passes_call tk fun _ _ _ _ h => h) hr gd hg ha hdb he hpl
end
/-! ### Fault's __init__ -/
section
variable {P : Program} {w : World} {K : PySem.W.Frag} {mg : Str → Option Value} {base : Heap} {F : NF} {fI C cc : Addr} {p0 p1 pa pc pe q1 q2 q3 q4 q5 q6 q7 a1 a2 a3 a4 b1 b2 b3 b4 : Pos} {k1 k2 : Nat} {ar : Arg}
theorem fault_ini (T : SupC P K C fI cc F) (hl : PySem.W.findIn K (.ref C) "line" = some none) (hr : PySem.W.findIn K (.ref C) "reason" = some none)
    (S : NScope ["self", "line", "reason", "__class__"] ["self", "line", "reason"] ["__class__"] F.scope)
    (hbd : F.body = [.Expr (.Call (.Attribute (.Call (.Name "super" p0) [] [] p1) "__init__" pa) [.JoinedStr [.Constant (.str "line ") k1 q1, .FormattedValue (.Name "line" q2) (-1) none q3, .Constant (.str ": ") k2 q4, .FormattedValue (.Name "reason" q5) (-1) none q6] q7] [] pc) pe,
      .Assign [.Attribute (.Name "self" a1) "line" a2] (.Name "line" a3) a4, .Assign [.Attribute (.Name "self" b1) "reason" b2] (.Name "reason" b3) b4])
    (hpar : (F.params.posonlyargs ++ F.params.args).head? = some ar) (har : ar.arg = "self") (hks : F.scope.names.lookup ("super" : Str) = some .globalImplicit)
    (hev : ∀ env : Env, ∃ pl : Sem Bool, eval (.Call (.Attribute (.Call (.Name "super" p0) [] [] p1) "__init__" pa) [.JoinedStr [.Constant (.str "line ") k1 q1, .FormattedValue (.Name "line" q2) (-1) none q3, .Constant (.str ": ") k2 q4, .FormattedValue (.Name "reason" q5) (-1) none q6] q7] [] pc) env = (do
      let ov ← attributeBase (.Call (.Name "super" p0) [] [] p1) "__init__" env (eval (.Call (.Name "super" p0) [] [] p1) env)
      standAt pa.atName
      let (f, first) ← holding [ov] (getMethod ov "__init__" pl)
      callWith pc f first (backTo pc (starEach [.JoinedStr [.Constant (.str "line ") k1 q1, .FormattedValue (.Name "line" q2) (-1) none q3, .Constant (.str ": ") k2 q4, .FormattedValue (.Name "reason" q5) (-1) none q6] q7] env)) [])) :
    ∀ fd, (∃ oc od osl, K.lookup fI = some ⟨oc, od, .func fd, osl⟩) → FnOk P w K mg base CX0 1 fI fd ["self", "line", "reason"] (spFault K C) := by
  have v0 : F.scope.names.lookup ("self" : Str) = some .local := S.par _ (by simp)
  have v1 : F.scope.names.lookup ("line" : Str) = some .local := S.par _ (by simp)
  have v2 : F.scope.names.lookup ("reason" : Str) = some .local := S.par _ (by simp)
  refine sup_ok (k := 0) T S (fun vs H Q E h => ?_) (fun vs H Q E h => ?_) hbd hpar har hks (S.frk _ (by simp)) v0 (fun _ => rfl) (fun _ => rfl) hev fun A outer s H vs Q E hroom h => ?_
  · obtain ⟨a, n, r, rfl, _⟩ := h
    rfl
  · obtain ⟨a, n, r, rfl, ha, _⟩ := h
    exact ⟨a, _, rfl, ha⟩
  · obtain ⟨a, n, r, rfl, ha, hn, hz, k⟩ := h
    refine ⟨_, _, pa_cons (pe_joined (.cons pe_str (.cons (pe_fmt (pe_var (i := 1) rfl (.inl v1))) (.cons pe_str (.cons (pe_fmt (pe_var (i := 2) rfl (.inl v2))) .nil))))) pa_nil,
      pss_cons (ps_ost (pe_var (i := 0) rfl (.inl v0)) (pe_var (i := 1) rfl (.inl v1))) (pss_one (ps_ost (pe_var (i := 0) rfl (.inl v0)) (pe_var (i := 2) rfl (.inl v2)))), ?_⟩
    have hln : (Str.ofString (toString n)).length ≤ 2000 := by
      have hl : n.natAbs.log2 < 1900 := Nat.lt_of_lt_of_le (PySem.Flt.log2_lt_of (k := 100) (by decide) hn) (by decide)
      have e := int_text_length_le (k := 1900) (by decide) hl
      rw [PySem.ofString_length]; omega
    have l1 : (Str.empty ++ ("line " : Str)).length = 5 := by decide +kernel
    have l2 : (": " : Str).length = 2 := by decide +kernel
    refine ⟨_, rfl, by rw [l1]; decide, ?_⟩
    refine ⟨_, rfl, .inr ⟨n, rfl, Nat.lt_of_lt_of_le (PySem.Flt.log2_lt_of (k := 100) (by decide) hn) (by decide), _, rfl, ?_, ?_⟩⟩
    · rw [strLen_append, l1]
      exact Nat.le_trans (show 5 + _ ≤ 3000 by omega) (by decide)
    refine ⟨_, rfl, ?_, ?_⟩
    · rw [strLen_append, strLen_append, l1, l2]
      exact Nat.le_trans (show _ ≤ 3000 by omega) (by decide)
    refine ⟨_, rfl, .inl ⟨r, rfl, Nat.le_trans hz (by decide), _, rfl, ?_, ?_⟩⟩
    · rw [strLen_append, strLen_append, strLen_append, l1, l2]
      exact Nat.le_trans (show _ ≤ 5000 by omega) (by decide)
    refine ⟨show 1 ≤ 1000 by decide, a, rfl, ha, ?_⟩
    refine ⟨_, rfl, _, rfl, a, C, rfl, T.oex, hl, .inl ⟨ha, fun d hd hda => ?_⟩⟩
    refine ⟨_, rfl, _, rfl, a, C, rfl, T.oex, hr, .inr ⟨d, [("line", .int n)], upd_same, by rw [upd_ne hda, upd_same], (show 1 ≤ 900 by decide), ?_⟩⟩
    have hd2 : d ≠ a := hda
    refine k d _ hd (by rw [upd_ne (Ne.symm hd2), upd_same]) upd_same fun b hb hbd => ?_
    rw [upd_ne hbd, upd_ne hb, upd_ne hbd]
end
theorem kit_ve {K : PySem.W.Frag} {C : Addr} (h : PySem.W.subIn K (.ref C) (.type "ValueError") = some true) : PySem.W.kitOne K (.ref C) (.type "ValueError") = some true := by
  unfold PySem.W.kitOne PySem.W.kitCls
  rw [if_neg (fun e => by cases (beq_iff_eq.mp e))]
  show (if PySem.W.kitMeta "ValueError" = true then _ else _) = _
  rw [if_pos (by decide +kernel)]
  exact h
def rIsV (K : PySem.W.Frag) (C a : Addr) (cls : Value) (d : Option Addr) : List V → Hp → VK → Prop := fun xs H Q => cls = .ref C ∧ ∃ dd, d = some dd ∧ rIsD K C a dd xs H Q
theorem call_isV {X : Cx} {a C : Addr} {oe : Obj} {cls : Value} {d : Option Addr} {pn : List (Addr × Obj)} (T : ExcC X.K C) (hz : Zc cls d oe) (hf : ∃ vs, oe.data = .fields vs) : CallR (X.suite a ((a, oe) :: pn)) (.builtin "isinstance") (rIsV X.K C a cls d) := by
  intro pins s σ H xs us Q I r h
  obtain ⟨rfl, dd, rfl, q⟩ := h
  exact call_isD T hz hf pins s σ H xs us Q I r q
/-! ### from the top's facts -/
abbrev nfF (st : Stmt) (cc cda : Addr) : NF := ⟨"__init__", "Fault.__init__", defArgs st, defBody st, defScope st, [(("__class__" : Str), cc)], cda⟩
structure FaultK (P : Program) (K : PySem.W.Frag) (st : Stmt) (C B fI cc cda : Addr) : Prop where
  gC : PySem.W.nsIn K mainGlobals "Fault" = some (some (.ref C))
  gB : PySem.W.nsIn K mainGlobals "HoldError" = some (some (.ref B))
  sup : SupC P K C fI cc (nfF st cc cda)
  xf : XfC K C
  isc : ExcC K C
  line : PySem.W.findIn K (.ref C) "line" = some none
  reason : PySem.W.findIn K (.ref C) "reason" = some none
  exm : PySem.W.exmOne K (.ref C) (.ref B) = some true
  ini : PySem.W.findIn K (.ref C) "__init__" = some (some (.ref fI))
  ity : PySem.W.typeIn K (.ref fI) = some (.type "function")
def HasFault (P : Program) (K : PySem.W.Frag) (st : Stmt) : Prop := ∃ C B fI cc cda, FaultK P K st C B fI cc cda
section
variable {P : Program} {K : PySem.W.Frag} {st : Stmt} {C B fI cc cda : Addr} {nm q : Str} {N : Addr} {bs bm : List Value} {sn : List Str} {sub : List Value} {ab : Bool} {col : Option Bool} {dd : Option Addr} {k0 k1 k2 k3 k5 : Option Value}
  {oc : Value} {od : Option Addr} {doc pm ctv : Value} {osl : Array (Option Value)} {ccl : Value} {cdd : Option Addr} {vs : Array Value} {ccs : Array (Option Value)} {file : Str} {tf : Tok} {xcl : Value} {xld : Option Addr} {xsl : Array (Option Value)}
theorem HasFault.mk' (a1 : PySem.W.nsIn K mainGlobals "Fault" = some (some (.ref C))) (a2 : PySem.W.nsIn K mainGlobals "HoldError" = some (some (.ref B)))
    (a3 : K.lookup C = some (excClassObj nm q C N bs bm true sn sub ab col dd k0 k1 k2 k3 k5 "ValueError.__new__")) (a4 : PySem.HandSPX.refsVE bm = true)
    (a5 : PySem.W.findIn K (.ref C) "__setattr__" = some (some (.builtin "object.__setattr__"))) (a6 : PySem.W.subIn K (.ref C) (.type "BaseException") = some true) (a7 : PySem.W.typeIn K (.ref C) = some (.type "type")) (a8 : PySem.W.keepIn K (.ref C) = true)
    (b1 : PySem.W.findIn K (.ref C) "__init__" = some (some (.ref fI))) (b2 : PySem.W.typeIn K (.ref fI) = some (.type "function"))
    (b3 : K.lookup fI = some ⟨oc, od, .func ((nfF st cc cda).fd doc pm ctv), osl⟩) (b4 : PySem.W.codeIn K (.ref cda) "Fault.__init__" = true)
    (b5 : K.lookup cda = some ⟨ccl, cdd, .fields vs, ccs⟩) (b6 : vs[2]? = some (.str file tf)) (b7 : ((P.main.file : Str) == file) = true) (b8 : (P.main.scope.names.lookup ("super" : Str)).isSome = false)
    (c1 : K.lookup cc = some ⟨xcl, xld, .cell (some (.ref C)), xsl⟩) (c2 : PySem.W.mroIn K C (.ref C) = some true) (c3 : PySem.W.subIn K (.ref C) (.type "ValueError") = some true)
    (c4 : PySem.W.ks_superIn K C C "__init__" = some (some (.builtin "ValueError.__init__"))) (c5 : PySem.W.nsIn K cStatics "thirdparty.any" = some none) (c6 : PySem.W.nsIn K mainGlobals "super" = some none)
    (d1 : PySem.W.findIn K (.ref C) "__getattribute__" = some (some (.builtin "BaseException.__getattribute__"))) (d2 : PySem.W.findIn K (.ref C) "__getattr__" = some none) (d3 : PySem.W.hasDictIn K C = true)
    (d4 : PySem.W.findIn K (.ref C) "__class__" = some (some (.builtin "object.__class__"))) (d5 : PySem.W.specialIn K (.builtin "object.__class__") "__get__" = some (some (.builtin "getset_descriptor.__get__")))
    (d6 : PySem.W.takesIn K (.builtin "object.__class__") = some true) (d7 : PySem.W.mroIn K C (.type "object") = some true)
    (e1 : PySem.W.findIn K (.ref C) "line" = some none) (e2 : PySem.W.findIn K (.ref C) "reason" = some none) (e3 : PySem.W.subIn K (.ref B) (.type "BaseException") = some true) (e4 : PySem.W.hasDictIn K B = true) (e5 : PySem.W.typeIn K (.ref B) = some (.type "type")) (e6 : PySem.W.subIn K (.ref C) (.ref B) = some true) : HasFault P K st :=
  ⟨C, B, fI, cc, cda, a1, a2, ⟨⟨⟨nm, q, N, bs, bm, sn, sub, ab, col, dd, k0, k1, k2, k3, k5, a3, a4⟩, a5, a6, a7, a8⟩, ⟨oc, od, doc, pm, ctv, osl, b3⟩, rfl, b4, ⟨ccl, cdd, vs, ccs, file, tf, b5, b6, b7⟩, b8, ⟨xcl, xld, xsl, c1⟩, c2, c3, c4, c5, c6⟩,
    ⟨d1, d2, a6, d3⟩, ⟨d1, d2, a6, d3, d4, d5, d6, d7⟩, e1, e2, PySem.W.exm_ref e3 e4 e5 e6, b1, b2⟩
end
section
variable {P : Program} {w : World} {K : PySem.W.Frag} {mg : Str → Option Value} {base h : Heap} {st : Stmt} {p0 p1 pa pc pe q1 q2 q3 q4 q5 q6 q7 a1 a2 a3 a4 b1 b2 b3 b4 : Pos} {k1 k2 : Nat} {ar : Arg}
theorem mk_useF (f : HasFault P K st) (X : K.In h) (G : h.Ns mainGlobals mg)
    (S : NScope ["self", "line", "reason", "__class__"] ["self", "line", "reason"] ["__class__"] (defScope st))
    (hbd : defBody st = [.Expr (.Call (.Attribute (.Call (.Name "super" p0) [] [] p1) "__init__" pa) [.JoinedStr [.Constant (.str "line ") k1 q1, .FormattedValue (.Name "line" q2) (-1) none q3, .Constant (.str ": ") k2 q4, .FormattedValue (.Name "reason" q5) (-1) none q6] q7] [] pc) pe,
      .Assign [.Attribute (.Name "self" a1) "line" a2] (.Name "line" a3) a4, .Assign [.Attribute (.Name "self" b1) "reason" b2] (.Name "reason" b3) b4])
    (hpar : ((defArgs st).posonlyargs ++ (defArgs st).args).head? = some ar) (har : ar.arg = "self") (hks : (defScope st).names.lookup ("super" : Str) = some .globalImplicit)
    (hev : ∀ env : Env, ∃ pl : Sem Bool, eval (.Call (.Attribute (.Call (.Name "super" p0) [] [] p1) "__init__" pa) [.JoinedStr [.Constant (.str "line ") k1 q1, .FormattedValue (.Name "line" q2) (-1) none q3, .Constant (.str ": ") k2 q4, .FormattedValue (.Name "reason" q5) (-1) none q6] q7] [] pc) env = (do
      let ov ← attributeBase (.Call (.Name "super" p0) [] [] p1) "__init__" env (eval (.Call (.Name "super" p0) [] [] p1) env)
      standAt pa.atName
      let (f, first) ← holding [ov] (getMethod ov "__init__" pl)
      callWith pc f first (backTo pc (starEach [.JoinedStr [.Constant (.str "line ") k1 q1, .FormattedValue (.Name "line" q2) (-1) none q3, .Constant (.str ": ") k2 q4, .FormattedValue (.Name "reason" q5) (-1) none q6] q7] env)) []))
    (hb : ∀ (cc cda : Addr) (doc pm ctv : Value) (us : List Value), us.length = 3 → bindArgs ((nfF st cc cda).fd doc pm ctv) ⟨us, []⟩ = pure ((["self", "line", "reason"] : List Str).zip us)) :
    ∃ C B, UseF P w K mg base C B := by
  obtain ⟨C, B, fI, cc, cda, f⟩ := f
  obtain ⟨oc, od, doc, pm, ctv, osl, lk⟩ := f.sup.fn
  exact ⟨C, B, f.sup.oex, f.xf, f.isc, PySem.W.mg_of X G f.gC, PySem.W.mg_of X G f.gB, f.line, f.reason, f.exm, kit_ve f.sup.isB, fI, _, f.ini, f.ity, fault_ini f.sup f.line f.reason S hbd hpar har hks hev _ ⟨oc, od, osl, lk⟩, .all (hb cc cda doc pm ctv)⟩
end
end LK

set_option Elab.async false
set_option linter.all false
set_option maxRecDepth 100000
set_option maxHeartbeats 4000000
/-! rows: texts by their codes, tuples of data; cut, joined, their length -/
namespace LK
open PySem PySem.Spec PyProof.Rows L2 SX
inductive RowD where
  | txt (cs : List Nat)
  | tup (ds : List PyData)
namespace RowD
def d : RowD → PyData
  | txt cs => .str (S cs)
  | tup ds => .tuple ds
def len : RowD → Nat
  | txt cs => cs.length
  | tup ds => ds.length
end RowD
/-- xs[lo:hi] -/
def cutG {α : Type} (xs : List α) (lo hi : Option Int) : List α := (xs.drop (HT.sIx xs.length 0 lo)).take (HT.sIx xs.length xs.length hi - HT.sIx xs.length 0 lo)
def RowD.cut (r : RowD) (lo hi : Option Int) : RowD := match r with
  | .txt cs => .txt (cutG cs lo hi)
  | .tup ds => .tup (cutG ds lo hi)
theorem cutG_nat {α : Type} (xs : List α) {i j : Nat} (hi : i ≤ xs.length) (hj : j ≤ xs.length) : cutG xs (some (i : Int)) (some (j : Int)) = (xs.drop i).take (j - i) := by
  unfold cutG
  rw [HT.sIx_nat, HT.sIx_nat, Nat.min_eq_left hi, Nat.min_eq_left hj]
theorem cutG_to {α : Type} (xs : List α) {j : Nat} (hj : j ≤ xs.length) : cutG xs none (some (j : Int)) = xs.take j := by
  unfold cutG
  rw [HT.sIx_none, HT.sIx_nat, Nat.min_eq_left hj, List.drop_zero, Nat.sub_zero]
theorem cutG_from {α : Type} (xs : List α) {j : Nat} (hj : j ≤ xs.length) : cutG xs (some (j : Int)) none = xs.drop j := by
  unfold cutG
  rw [HT.sIx_none, HT.sIx_nat, Nat.min_eq_left hj]
  exact List.take_of_length_le (by rw [List.length_drop]; omega)
theorem DtAll.drop {K : PySem.W.Frag} {H : Hp} : ∀ {vs : List V} {ds : List PyData} (n : Nat), DtAll K H vs ds → DtAll K H (vs.drop n) (ds.drop n)
  | _, _, 0, h => h
  | _, _, _ + 1, .nil => .nil
  | _, _, n + 1, .cons _ t => t.drop n
theorem DtAll.takeN {K : PySem.W.Frag} {H : Hp} : ∀ {vs : List V} {ds : List PyData} (n : Nat), DtAll K H vs ds → DtAll K H (vs.take n) (ds.take n)
  | _, _, 0, _ => by rw [List.take_zero, List.take_zero]; exact .nil
  | _, _, _ + 1, .nil => .nil
  | _, _, n + 1, .cons h t => .cons h (t.takeN n)
theorem DtAll.cutG {K : PySem.W.Frag} {H : Hp} {vs : List V} {ds : List PyData} (h : DtAll K H vs ds) (lo hi : Option Int) : DtAll K H (cutV vs lo hi) (cutG ds lo hi) := by
  unfold cutV LK.cutG
  rw [h.length]
  exact DtAll.takeN _ (h.drop _)
theorem cutS_G (cs : List Nat) (lo hi : Option Int) : cutS (S cs) lo hi = S (cutG cs lo hi) := by
  unfold cutS cutG
  rw [S_len]
section
variable {X : Cx}
def rSlR (K : PySem.W.Frag) : V → Option Int → Option Int → Hp → VK → Prop := fun x lo hi H Q => ∃ r : RowD, Dt K H x r.d ∧ r.len ≤ 2000 ∧ ∀ v H', Same H H' → Dt K H' v (r.cut lo hi).d → Q v H'
theorem sl_row : SlR X (rSlR X.K) := by
  intro pins s σ H x v vl vu lo hi sl Q I rx hs pl pu h
  obtain ⟨r, dr, hn, q⟩ := h
  cases r with
  | txt cs =>
    cases dr.str_inv
    refine sl_str pins s σ H _ v vl vu _ _ sl Q I rx hs pl pu ⟨_, rfl, by rw [S_len]; exact Nat.le_trans hn (by decide), q _ _ (Same.refl _) ?_⟩
    rw [cutS_G]
    exact .str _
  | tup ds =>
    obtain ⟨p, xs, rfl, hq, ax⟩ := dr.tuple_inv
    have lx := ax.length
    refine sl_tupA pins s σ H _ v vl vu _ _ sl Q I rx hs pl pu ⟨p, xs, rfl, hq, fun hw => ?_, fun _ z hz => ?_⟩
    · refine q _ _ (Same.refl _) ?_
      rw [lx] at hw
      show Dt _ _ _ (PyData.tuple (cutG ds lo hi))
      unfold cutG
      rw [hw.1, hw.2, List.drop_zero, Nat.sub_zero, List.take_length]
      exact dr
    · exact q _ _ (Same.new hz) (Dt.made hz (ax.cutG lo hi))
/-- len(a), a row -/
def rLenR (K : PySem.W.Frag) : List V → Hp → VK → Prop := fun vs H Q => ∃ (v : V) (r : RowD), vs = [v] ∧ Dt K H v r.d ∧ r.len ≤ 2000 ∧ Q (.int (r.len : Int)) H
theorem call_lenR : CallR X (.builtin "len") (rLenR X.K) := by
  intro pins s σ H xs us Q I r h
  obtain ⟨v, rw', rfl, da, hn, q⟩ := h
  cases rw' with
  | txt cs =>
    cases da.str_inv
    exact call_len pins s σ H _ us Q I r ⟨_, cs.length, rfl, ⟨by rw [S_len]; exact Nat.le_trans hn (by decide), (S_len _).symm⟩, q⟩
  | tup ds =>
    obtain ⟨p, ys, rfl, hq, ax⟩ := da.tuple_inv
    exact call_len pins s σ H _ us Q I r ⟨_, ds.length, rfl, .inr ⟨_, hq, ax.length.symm⟩, q⟩
/-- x + y, tuples of data -/
def rCatTD (K : PySem.W.Frag) : R2 := fun x y H Q => ∃ ds es : List PyData, Dt K H x (.tuple ds) ∧ Dt K H y (.tuple es) ∧ ds.length + es.length ≤ 2000 ∧ ∀ v H', Same H H' → Dt K H' v (.tuple (ds ++ es)) → Q v H'
theorem op_catTD : OpR X (binaryOp .Add) (rCatTD X.K) := by
  intro pins s σ H x y v u Q I rx ry h
  obtain ⟨ds, es, dx, dy, hz, q⟩ := h
  obtain ⟨a, xs, rfl, ha, ax⟩ := dx.tuple_inv
  obtain ⟨b, ys, rfl, hb, ay⟩ := dy.tuple_inv
  have lx := ax.length
  have ly := ay.length
  refine op_catA pins s σ H _ _ v u Q I rx ry ⟨a, b, xs, ys, rfl, rfl, ha, hb, by rw [lx, ly]; exact Nat.le_trans hz (by decide), fun e => ?_, fun _ e => ?_, fun _ _ p hp => ?_⟩
  · subst e
    cases ax
    exact q _ _ (Same.refl _) dy
  · subst e
    cases ay
    rw [List.append_nil] at q
    exact q _ _ (Same.refl _) dx
  · exact q _ _ (Same.new hp) (Dt.made hp (DtAll.app ax ay))
end
end LK

set_option Elab.async false
set_option linter.all false
set_option maxRecDepth 100000
set_option maxHeartbeats 4000000
/-! Classes of one's own in the layer: fields, instances made, methods called. -/
namespace LK
open PySem PySem.Spec PyProof.Rows L2
/-- none of the names stands in the class -/
inductive NoAll (K : PySem.W.Frag) (C : Addr) : List Str → Prop
  | nil : NoAll K C []
  | cons {f : Str} {r : List Str} (h : PySem.W.findIn K (.ref C) f = some none) (t : NoAll K C r) : NoAll K C (f :: r)
theorem NoAll.at {K : PySem.W.Frag} {C : Addr} {f : Str} : ∀ {fs : List Str}, NoAll K C fs → fs.contains f = true → NoAttr K C f
  | _, .nil, h => by cases h
  | g :: r, .cons a t, h => by
    by_cases e : f = g
    · subst e; exact a
    · refine NoAll.at t ?_
      rw [List.contains_cons] at h
      rcases Bool.or_eq_true_iff.mp h with q | q
      · exact absurd (eq_of_beq q) e
      · exact q
/-- the class x as the top leaves it, at C, with the fields fs -/
structure ClsK (K : PySem.W.Frag) (x : Str) (fs : List Str) (C : Addr) : Prop where
  ns : PySem.W.nsIn K mainGlobals x = some (some (.ref C))
  cl : Cls K C
  mks : PySem.W.makesIn K C = true
  kp : PySem.W.keepIn K (.ref C) = true
  no : NoAll K C fs
theorem ClsK.mk' {K : PySem.W.Frag} {x : Str} {fs : List Str} {C : Addr} (a : PySem.W.nsIn K mainGlobals x = some (some (.ref C))) (pg : PySem.W.plainGet K C Str.empty = true) (hd : PySem.W.hasDictIn K C = true) (po : PySem.W.plainOver K C = true)
    (sa : PySem.W.findIn K (.ref C) "__setattr__" = some (some (.builtin "object.__setattr__"))) (mk : PySem.W.makesIn K C = true) (kp : PySem.W.keepIn K (.ref C) = true) (no : NoAll K C fs) : ClsK K x fs C := ⟨a, ⟨pg, hd, po, sa⟩, mk, kp, no⟩
structure UseC (K : PySem.W.Frag) (mg : Str → Option Value) (x : Str) (fs : List Str) (C : Addr) : Prop where
  cl : Cls K C
  no : NoAll K C fs
  mg : mg x = some (.ref C)
theorem ClsK.g {K : PySem.W.Frag} {mg : Str → Option Value} {h : Heap} {x : Str} {fs : List Str} {C : Addr} (k : ClsK K x fs C) (X : K.In h) (G : h.Ns mainGlobals mg) : UseC K mg x fs C := ⟨k.cl, k.no, PySem.W.mg_of X G k.ns⟩
/-- a method as the top leaves it -/
def HasMeth (K : PySem.W.Frag) (C : Addr) (m q : Str) (st : Stmt) : Prop := ∃ (f : Addr) (oc : Value) (od an : Option Addr) (kV doc pm cdv ct : Value) (osl : Array (Option Value)),
  PySem.W.findIn K (.ref C) m = some (some (.ref f)) ∧ PySem.W.isFn K (.ref f) = true ∧ PySem.W.keepIn K (.ref f) = true ∧
  K.lookup f = some ⟨oc, od, .func (PySem.W.fnOf m q (defArgs st) (defBody st) (defScope st) .none kV doc pm an cdv ct), osl⟩ ∧ PySem.W.codeIn K cdv q = true
theorem HasMeth.mk' {K : PySem.W.Frag} {C : Addr} {m q : Str} {st : Stmt} {f : Addr} {oc : Value} {od an : Option Addr} {kV doc pm cdv ct : Value} {osl : Array (Option Value)} (a : PySem.W.findIn K (.ref C) m = some (some (.ref f))) (i : PySem.W.isFn K (.ref f) = true)
    (k : PySem.W.keepIn K (.ref f) = true) (b : K.lookup f = some ⟨oc, od, .func (PySem.W.fnOf m q (defArgs st) (defBody st) (defScope st) .none kV doc pm an cdv ct), osl⟩) (c : PySem.W.codeIn K cdv q = true) : HasMeth K C m q st :=
  ⟨f, oc, od, an, kV, doc, pm, cdv, ct, osl, a, i, k, b, c⟩
/-- a method may be called -/
structure UseM (P : Program) (w : World) (K : PySem.W.Frag) (mg : Str → Option Value) (base : Heap) (CX : CXT) (C : Addr) (m : Str) (k : Nat) (ps : List Str) (sp : Sp) : Prop where
  ex : ∃ (f : Addr) (fd : FuncData), FnG P w K mg base CX k f fd ps sp ∧ Meth K C m f ∧ Binds K fd ps []
/-- an instance may be made -/
structure UseK (P : Program) (w : World) (K : PySem.W.Frag) (mg : Str → Option Value) (base : Heap) (x : Str) (C : Addr) (k : Nat) (ps : List Str) (sp : Sp) : Prop where
  ex : ∃ (f : Addr) (fd : FuncData), FnOk P w K mg base CX0 k f fd ps sp ∧ Mk K C f ∧ Binds K fd ps [] ∧ mg x = some (.ref C)
section
variable {P : Program} {w : World} {K : PySem.W.Frag} {mg : Str → Option Value} {base h : Heap} {CX : CXT} {C : Addr} {m q x : Str} {st : Stmt} {k : Nat} {ps fs : List Str} {sp : Sp}
theorem mk_useM (F : HasMeth K C m q st) (hb : ∀ (kV doc pm : Value) (an : Option Addr) (cdv ct : Value) (us : List Value), us.length = ps.length → bindArgs (PySem.W.fnOf m q (defArgs st) (defBody st) (defScope st) .none kV doc pm an cdv ct) ⟨us, []⟩ = pure (ps.zip us))
    (ok : ∀ (f : Addr) (fd : FuncData), Fun K m q st f fd → FnG P w K mg base CX k f fd ps sp) : UseM P w K mg base CX C m k ps sp := by
  obtain ⟨f, oc, od, an, kV, doc, pm, cdv, ct, osl, a, i, kp, b, c⟩ := F
  have Fn := fun_mk (st := st) b c kp
  exact ⟨f, _, ok f _ Fn, ⟨a, i, kp⟩, Fn.binds hb⟩
theorem mk_useK (k0 : ClsK K x fs C) (F : HasMeth K C "__init__" q st) (X : K.In h) (G : h.Ns mainGlobals mg) (hb : ∀ (kV doc pm : Value) (an : Option Addr) (cdv ct : Value) (us : List Value), us.length = ps.length → bindArgs (PySem.W.fnOf "__init__" q (defArgs st) (defBody st) (defScope st) .none kV doc pm an cdv ct) ⟨us, []⟩ = pure (ps.zip us))
    (ok : ∀ (f : Addr) (fd : FuncData), Fun K "__init__" q st f fd → FnOk P w K mg base CX0 k f fd ps sp) : UseK P w K mg base x C k ps sp := by
  obtain ⟨f, oc, od, an, kV, doc, pm, cdv, ct, osl, a, i, kp, b, c⟩ := F
  have Fn := fun_mk (st := st) b c kp
  exact ⟨f, _, ok f _ Fn, ⟨k0.mks, a, i, k0.kp⟩, Fn.binds hb, PySem.W.mg_of X G k0.ns⟩
theorem UseM.imp {sp' : Sp} (U : UseM P w K mg base CX C m k ps sp) (i : ∀ vs H Q E, sp' vs H Q E → sp vs H Q E) : UseM P w K mg base CX C m k ps sp' := by
  obtain ⟨f, fd, ok, r⟩ := U.ex
  exact ⟨f, fd, ok.imp i, r⟩
end
/-! ### readings -/
def tFd (C : Addr) (ta : TE) (f : Str) : TE := fun σ H Q => ta σ H fun x H1 => ∃ a dx gs v, x = .ref a ∧ H1 a = some (.ins C dx gs) ∧ gs.lookup f = some v ∧ Q v H1
def sFd (C : Addr) (ta tv : TE) (f : Str) : TS := fun D σ H => tv σ H fun y H1 => ta σ H1 fun x H2 => ∃ a dx gs, x = .ref a ∧ H2 a = some (.ins C dx gs) ∧ gs.length < 1000 ∧ D.nx σ (upd H2 a (.ins C dx (putF f y gs)))
def sFdAug (C : Addr) (ta tv : TE) (rd : V → V → Hp → VK → Prop) (f : Str) : TS := fun D σ H => ta σ H fun x H1 => ∃ a dx gs v, x = .ref a ∧ H1 a = some (.ins C dx gs) ∧ gs.lookup f = some v ∧
  tv σ H1 fun y H2 => rd v y H2 fun z H3 => ∃ dx' gs', H3 a = some (.ins C dx' gs') ∧ gs'.length < 1000 ∧ D.nx σ (upd H3 a (.ins C dx' (putF f z gs')))
def tMc (C : Addr) (m : Str) (sp : Sp) (E : XK) (ta : TE) (t : TA) : TE := fun σ H Q => ta σ H fun x H1 => ∃ a dx gs, x = .ref a ∧ H1 a = some (.ins C dx gs) ∧ gs.lookup m = none ∧ t σ H1 fun vs H2 => sp (.ref a :: vs) H2 Q E
def tMk (C : Addr) (sp : Sp) (t : TA) : TE := fun σ H Q => t σ H fun vs H1 => ∀ x dx, H1 x = none → H1 dx = none → dx ≠ x → sp (.ref x :: vs) (upd (upd H1 dx (.own x)) x (.ins C dx [])) (fun v H2 => v = .non ∧ Q (.ref x) H2) E0
section
variable {X : Cx} {CX : CXT} {C : Addr} {x m f : Str} {fs ps : List Str} {k : Nat} {sp : Sp} {o e value : Expr} {es : List Expr} {p pos pos' tpos apos : Pos} {ta tv : TE} {t : TA}
theorem pe_fd (U : UseC X.K X.mg x fs C) (hf : fs.contains f = true) (he : PE X e ta) (hb : attributeBase e f X.env (eval e X.env) = eval e X.env := by rfl) : PE X (.Attribute e f pos) (tFd C ta f) := by
  refine ⟨fun pins s σ H Q I h => ?_⟩
  refine attr_of hb (thn (he.run pins s σ H _ I h) fun u s1 ⟨x, H1, I1, rx, a, dx, fs, v, ex, ea, l, q⟩ => ?_)
  subst ex
  obtain rfl : u = Value.ref a := rx
  exact getattr_ok I1 ea U.cl (U.no.at hf) l fun u' s2 I2 ru => ⟨v, H1, I2, ru, q⟩
theorem ps_fd (U : UseC X.K X.mg x fs C) (hf : fs.contains f = true) (ha : PE X o ta) (hv : PE X value tv) (hs : swapsWith value (some (.Attribute o f pos')) pos.line X.env = pure false := by rfl) : PS X (.Assign [.Attribute o f pos'] value pos) (sFd C ta tv f) := by
  refine ⟨fun pins s σ H D I h => ?_⟩
  refine plainObj_wpAny_Assign_Attribute (thn (hv.run pins s σ H _ I h) fun u s1 ⟨y, H1, I1, ry, q⟩ => thn (ha.run pins s1 σ H1 _ I1 q) fun ov s2 ⟨x, H2, I2, rx, a, dx, fs, ex, ea, l, q2⟩ => ?_) hs
  subst ex
  obtain rfl : ov = Value.ref a := rx
  exact setattr_ok I2 ea U.cl (U.no.at hf) l ry fun s3 I3 => ⟨σ, _, I3, q2⟩
theorem ps_fdaug (U : UseC X.K X.mg x fs C) (hf : fs.contains f = true) {op : Operator} {rd : V → V → Hp → VK → Prop} (ha : PE X o ta) (hv : PE X value tv) (hop : InOp X op rd) : PS X (.AugAssign (.Attribute o f tpos) op value pos) (sFdAug C ta tv rd f) := by
  refine ⟨fun pins s σ H D I h => ?_⟩
  refine wpAny_AugAssign_AttributeAny (thn (ha.run pins s σ H _ I h) fun ov s1 ⟨x, H1, I1, rx, a, dx, fs, v, ex, ea, l, q⟩ => ?_)
  subst ex
  obtain rfl : ov = Value.ref a := rx
  refine getattr_ok I1 ea U.cl (U.no.at hf) l fun u s2 I2 ru => thn (hv.run pins s2 σ H1 _ I2 q) fun w3 s3 ⟨y, H2, I3, ry, q3⟩ => thn (hop pins s3 σ H2 v y u w3 _ I3 ru ry q3) fun w4 s4 ⟨z, H3, I4, rz, dx', fs', ea', l', q4⟩ => ?_
  exact setattr_ok I4 ea' U.cl (U.no.at hf) l' rz fun s5 I5 => ⟨σ, _, I5, q4⟩
/-- o.m(e, ..) -/
theorem pe_mc {E : XK} {pl : Sem Bool} (U : UseC X.K X.mg x fs C) (M : UseM X.prog X.w X.K X.mg X.base CX C m k ps sp) (hx : Passes CX X E) (hr : Room k X.A) (gd : X.A.guards = some []) (he : PE X o ta) (ha : PA X (e :: es) t)
    (hst : starEach (e :: es) X.env = (false, eval e X.env) :: starEach es X.env := by rfl) (hpl : (backTo pos (starEach es X.env)).any (·.1) = false := by rfl)
    (ht : eval (.Call (.Attribute o m apos) (e :: es) [] pos) X.env = (do
      let ov ← eval o X.env
      standAt apos.atName
      let (f, first) ← holding [ov] (getMethod ov m pl)
      callWith pos f first (backTo pos (starEach (e :: es) X.env)) (backToKw pos (keywordEach [] X.env))) := by rfl) :
    PE X (.Call (.Attribute o m apos) (e :: es) [] pos) (tMc C m sp E ta t) := by
  obtain ⟨f, fd, F, hm, hb⟩ := M.ex
  refine ⟨fun pins s σ H Q I h => ?_⟩
  refine PySem.W.methodCall_KW (pl := pl) (thn (he.run pins s σ H _ I h) fun u s1 ⟨x, H1, I1, rx, a, dx, fs, ex, ea, l, q⟩ => ?_) ht
  subst ex
  obtain rfl : u = Value.ref a := rx
  refine getmeth_ok I1 ea U.cl hm l ?_
  refine PySem.W.callWith_K (first := [.ref a]) (h₀ := X.base) I.ok.mod.kin hm.kp (thn (ha.run pos pins s1 σ H1 _ I1 q) fun us s2 ⟨vs, H2, I2, r, q2⟩ => ⟨I2.kIn, ?_⟩) hst hpl
  exact run_fnG (us := .ref a :: us) (vs := .ref a :: vs) F hr gd hb hx I2 (.cons rfl r) q2
/-- o.m() -/
theorem pe_mc0 {E : XK} {pl : Sem Bool} (U : UseC X.K X.mg x fs C) (M : UseM X.prog X.w X.K X.mg X.base CX C m k ps sp) (hx : Passes CX X E) (hr : Room k X.A) (gd : X.A.guards = some []) (he : PE X o ta)
    (ht : eval (.Call (.Attribute o m apos) [] [] pos) X.env = (do
      let ov ← eval o X.env
      standAt apos.atName
      let (f, first) ← holding [ov] (getMethod ov m pl)
      callWith pos f first (backTo pos (starEach [] X.env)) (backToKw pos (keywordEach [] X.env))) := by rfl) :
    PE X (.Call (.Attribute o m apos) [] [] pos) (tMc C m sp E ta tNil) := by
  obtain ⟨f, fd, F, hm, hb⟩ := M.ex
  refine ⟨fun pins s σ H Q I h => ?_⟩
  refine PySem.W.methodCall_KW (pl := pl) (thn (he.run pins s σ H _ I h) fun u s1 ⟨x, H1, I1, rx, a, dx, fs, ex, ea, l, q⟩ => ?_) ht
  subst ex
  obtain rfl : u = Value.ref a := rx
  refine getmeth_ok I1 ea U.cl hm l ?_
  exact PySem.W.callWith_K0 (first := [.ref a]) I1.kIn hm.kp (run_fnG (us := [.ref a]) (vs := [.ref a]) F hr gd hb hx I1 (.cons rfl .nil) q)
/-- C(e, ..) -/
theorem pe_mk (M : UseK X.prog X.w X.K X.mg X.base x C k ps sp) (hr : Room (k + 1) X.A) (hg : Gl X x) (ha : PA X (e :: es) t) (hdb : (x == ("__debug__" : Str)) = false := by decide) (he : starEach (e :: es) X.env = (false, eval e X.env) :: starEach es X.env := by rfl)
    (hpl : (backTo pos (starEach es X.env)).any (·.1) = false := by rfl) : PE X (.Call (.Name x p) (e :: es) [] pos) (tMk C sp t) := by
  obtain ⟨f, fd, F, mk, hb, hm⟩ := M.ex
  have R := pe_make (p := p) (pos := pos) mk F hr hg hm hb .nil pass0 ha hdb he hpl
  refine ⟨fun pins s σ H Q I h => R.run pins s σ H Q I ?_⟩
  have e0 : (tMake C sp [] E0 t : TE) = tMk C sp t := by
    funext σ H Q
    unfold tMake tMk
    simp only [List.append_nil]
  rw [e0]; exact h
end
end LK

set_option Elab.async false
set_option linter.all false
set_option maxRecDepth 100000
set_option maxHeartbeats 4000000
/-! Calls with keyword-only arguments. -/
namespace LK
open PySem PySem.Spec PyProof.Rows L2
structure UseN (P : Program) (w : World) (K : PySem.W.Frag) (mg : Str → Option Value) (base : Heap) (CX : CXT) (x : Str) (k : Nat) (ps : List Str) (n : Nat) (ks : List Str) (sp : Sp) : Prop where
  ex : ∃ (f : Addr) (fd : FuncData), FnG P w K mg base CX k f fd ps sp ∧ mg x = some (.ref f) ∧ PySem.W.keepIn K (.ref f) = true ∧ KBn K fd ps n ks (fun a b => a ++ b) (fun a b => a ++ b)
section
variable {P : Program} {w : World} {K : PySem.W.Frag} {mg : Str → Option Value} {base h : Heap} {CX : CXT}
theorem mk_useN {x : Str} {st : Stmt} {k n : Nat} {ps ks : List Str} {sp : Sp} (F : HasFn K x st) (X : K.In h) (G : h.Ns mainGlobals mg)
    (hb : ∀ (kV doc pm : Value) (an : Option Addr) (cdv ct : Value) (us ws : List Value), us.length = n → ws.length = ks.length → bindArgs (PySem.W.fnOf x x (defArgs st) (defBody st) (defScope st) .none kV doc pm an cdv ct) ⟨us, ks.zip ws⟩ = pure (ps.zip (us ++ ws)))
    (ok : ∀ (f : Addr) (fd : FuncData), Fun K x x st f fd → FnG P w K mg base CX k f fd ps sp) : UseN P w K mg base CX x k ps n ks sp := by
  obtain ⟨f, oc, od, an, kV, doc, pm, cdv, ct, osl, e, l, c, kp⟩ := F
  have Fn := fun_mk (st := st) l c kp
  exact ⟨f, _, ok f _ Fn, PySem.W.mg_of X G e, kp, ⟨fun s us ws _ l1 l2 => .of_eq (hb _ _ _ _ _ _ _ _ l1 l2), fun a b => a.append b⟩⟩
end
section
variable {X : Cx} {CX : CXT} {E : XK} {k n : Nat} {x : Str} {ps ks : List Str} {sp : Sp} {p pos : Pos} {e : Expr} {es : List Expr} {kws : List Keyword} {t tk : TA}
theorem pe_useN (U : UseN X.prog X.w X.K X.mg X.base CX0 x k ps n ks sp) (hr : Room k X.A) (gd : X.A.guards = some []) (hg : Gl X x) (ha : PA X (e :: es) t) (hkw : PK X kws tk)
    (hall : (backToKw pos (keywordEach kws X.env)).all (·.1.isSome) = true := by rfl) (hks : (backToKw pos (keywordEach kws X.env)).filterMap (·.1) = ks := by rfl)
    (hdb : (x == ("__debug__" : Str)) = false := by decide) (he : starEach (e :: es) X.env = (false, eval e X.env) :: starEach es X.env := by rfl)
    (hpl : ((backTo pos (starEach (e :: es) X.env)).any (·.1) || (backToKw pos (keywordEach kws X.env)).any (·.1.isNone)) = false := by rfl) :
    PE X (.Call (.Name x p) (e :: es) kws pos) (tCallN n ks.length sp (fun a b => a ++ b) E0 t tk) := by
  obtain ⟨f, fd, F, hm, hk, hb⟩ := U.ex
  refine ⟨fun pins s σ H Q I h => ?_⟩
  refine wpAny_Call_Name_kw (ld_glob I hg hm ?_ hdb)
  refine PySem.W.callWith_KW (h₀ := X.base) I.ok.mod.kin hk hall (thn (ha.run pos pins s σ H _ I h) fun us s1 ⟨vs, H1, I1, r, q⟩ => ?_) hpl he
  refine thn (hkw.run pos pins s1 σ H1 _ I1 q) fun ws s2 ⟨zs, H2, I2, rz, l1, l2, q2⟩ => ⟨I2.kIn, ?_⟩
  rw [hks]
  have r2 := hb.rel r rz
  refine wpAny_call (codeAny_mono (F.run X.A X.stack s2 H2 ⟨us, ks.zip ws⟩ (us ++ ws) (vs ++ zs) Q _ hr gd I2.env0 (hb.to s2 us ws I2.kIn (r.length.symm.trans l1) (rz.length.symm.trans l2)) r2 q2) fun res s' hq => ?_)
  match res, hq with
  | .error e, hq => exact pass0 pins σ H2 s2 e s' I2 hq
  | .ok (.ret u), hq => exact I2.after hq
  | .ok .next, hq => exact hq.elim
  | .ok .brk, hq => exact hq.elim
  | .ok .cont, hq => exact hq.elim
end
end LK

set_option Elab.async false
set_option linter.all false
set_option maxRecDepth 100000
set_option maxHeartbeats 4000000
/-! list(reversed(x)) of a tuple -/
namespace LK
open PySem PySem.Spec PyProof.Rows L2 SX
theorem nolen_rt : typeLookup (.type "reversed") "__len__" = pure none := by rw [typeLookup_type, builtinLookup_eq_fast]; kernel_rfl
theorem slot_rt_hint : Slot "reversed" "__length_hint__" "reversed.__length_hint__" :=
  .of (owner := "reversed") (n := "__length_hint__") (by rw [typeLookup_type, builtinLookup_eq_fast]; kernel_rfl) (by decide +kernel) (by decide +kernel) (by decide +kernel)
    (by first | exact .inl (by decide +kernel) | exact .inr (by decide +kernel)) (by rw [isSubtype_type]; kernel_rfl)
theorem entry_rt_hint : entryFor table "reversed.__length_hint__" = some Builtin.«reversed.__length_hint__» := entryFor_of_tree (by kernel_rfl)
theorem args_rt_hint (a : Value) : argsOk "reversed.__length_hint__" ⟨[a], []⟩ := by
  unfold argsOk; rw [signature?_of (id := "reversed.__length_hint__") (n := ['_', '_', 't', 'n', 'i', 'h', '_', 'h', 't', 'g', 'n', 'e', 'l', '_', '_']) (o := ['d', 'e', 's', 'r', 'e', 'v', 'e', 'r']) (by kernel_rfl) RT.owner_rt]; kernel_rfl
section
variable {prog : Program} {w : World} {A : Around} {E : Value → Shared → Prop} {s : Shared}
theorem hint_rt {it t : Addr} {items : Array Value} {Q : Bool → Shared → Prop} (hit : RT.IsRt s.heap it t ((items.size : Int) - 1)) (ht : IsTup s.heap t items) (hn : items.size ≤ sizeLine)
    (hQ : ∀ b tk, Q b { s with toks := tk }) : wpAny (model prog w) A (Builtin.List.listLengthHint (.ref it)) Q E s := by
  have hT : s.TypeIs (.ref it) "reversed" := hit.typeIs
  obtain ⟨o, ho, hc, hd⟩ := id hit
  unfold Builtin.List.listLengthHint
  refine wpAny_bind (wpAny_specialOf hT nolen_rt ?_)
  show wpAny _ _ (specialOf (Value.ref it) (Str.ofString "__length_hint__") >>= _) _ _ _
  refine wpAny_bind (wpAny_specialOf hT slot_rt_hint.lookup ?_)
  generalize hid : ("reversed.__length_hint__" : String) = id0
  wp_delta
  rw [show splitId id0 = some ("reversed", "__length_hint__") from by subst hid; decide +kernel]
  subst hid
  refine wpAny_bind (wpAny_isInstance (b := true) hT (by rw [isSubtype_type]; kernel_rfl) ?_)
  rw [if_neg (by decide)]
  rw [if_neg (by decide +kernel)]
  refine wpAny_bind (wpAny_rule ?_)
  refine wpAny_bind (wpAny_of_eq (slot_rt_hint.bind (.ref it)) ?_)
  refine wpAny_bind (wpAny_attempt (wpAny_call_entry slot_rt_hint hT entry_rt_hint ?_ (args_rt_hint _)))
  unfold Builtin.«reversed.__length_hint__»
  refine wpAny_bind (wpAny_of_eq (a := Value.ref it) rfl ?_)
  refine wpAny_bind (wpAny_field ho hd (x := .ref t) rfl ?_)
  rw [if_neg (show ¬ ((Value.ref t == Value.none) = true) from Bool.false_ne_true)]
  refine wpAny_bind (len_tuple ht (by rw [sizeLine_eq] at hn; omega) ?_)
  refine wpAny_bind (wpAny_of_eq (a := some ((items.size : Nat) : Int)) rfl ?_)
  refine wpAny_bind (wpAny_field (s := { s with toks := s.toks + 1 + 1 }) ho hd (x := rawInt ((items.size : Int) - 1)) rfl ?_)
  show wpAny _ _ (if ((items.size : Nat) : Int) < (items.size : Int) - 1 + 1 then _ else _) _ _ _
  rw [if_neg (by omega)]
  have e1 : (items.size : Int) - 1 + 1 = ((items.size : Nat) : Int) := by omega
  rw [e1]
  have hz := hn
  rw [sizeLine_eq] at hz
  unfold retInt
  refine wpAny_bind (wpAny_mkInt ?_)
  refine wpAny_pure ⟨_, rfl, ?_⟩
  dsimp only
  have f0 : ¬ (((items.size : Nat) : Int) < 0) := Int.not_lt.mpr (Int.natCast_nonneg _)
  have f1 : Builtin.List.listFitsIndex ((items.size : Nat) : Int) = true := by
    unfold Builtin.List.listFitsIndex
    rw [Bool.and_eq_true]
    exact ⟨decide_eq_true (by omega), decide_eq_true (by omega)⟩
  have f2 : Builtin.List.listTooLong ((items.size : Nat) : Int).toNat = false := by
    unfold Builtin.List.listTooLong
    rw [Int.toNat_natCast]
    exact decide_eq_false (Nat.not_lt.mpr hn)
  have f3 : ∀ tk, asInt? (Value.int ((items.size : Nat) : Int) tk) = pure (some ((items.size : Nat) : Int)) := fun _ => rfl
  generalize ((items.size : Nat) : Int) = N at f0 f1 f2 f3 ⊢
  rw [f3]
  refine wpAny_bind (wpAny_pure ?_)
  dsimp only
  rw [f1, if_neg (show ¬ ((!true) = true) by decide), if_neg f0, f2, if_neg Bool.false_ne_true]
  exact wpAny_pure (hQ _ _)
theorem walks_rt {t it : Addr} {items : Array Value} (hh : A.handled = none) (hne : t ≠ it) (hn : items.size ≤ sizeLine) :
    Walks prog w A it [it, t] [it] items.size (fun i v => items[items.size - 1 - i]? = some v) (fun i h => i ≤ items.size ∧ RT.IsRt h it t ((items.size : Int) - 1 - (i : Nat)) ∧ IsTup h t items) where
  sub := fun b hb => by rw [List.mem_singleton.mp hb]; simp
  frame := fun i h h' st hk => ⟨st.1, st.2.1.at fun o e => hk it (by simp) o e, let ⟨o, ho, r⟩ := st.2.2; ⟨o, hk t (by simp) o ho, r⟩⟩
  item := fun i s Q E hi st hQ => by
    have e1 : (items.size : Int) - 1 - ((i : Nat) : Int) = ((items.size - 1 - i : Nat) : Int) := by omega
    have st2 := st.2.1
    rw [e1] at st2
    have hx : items[items.size - 1 - i]? = some (items[items.size - 1 - i]'(by omega)) := Array.getElem?_eq_getElem (by omega)
    refine RT.next_rt_item st2 st.2.2 hx hn fun h' hit' sb => ?_
    have e2 : ((items.size - 1 - i : Nat) : Int) - 1 = (items.size : Int) - 1 - ((i + 1 : Nat) : Int) := by omega
    rw [e2] at hit'
    exact hQ _ h' _ hx ⟨hi, hit', let ⟨o, ho, r⟩ := st.2.2; ⟨o, (sb.2 t hne).trans ho, r⟩⟩ fun b o hb e => (sb.2 b (fun h => hb (by simp [h]))).trans e
  done := fun s Q E st hQ => by
    have st2 := st.2.1
    rw [show (items.size : Int) - 1 - ((items.size : Nat) : Int) = -1 by omega] at st2
    exact RT.next_rt_end hh st2 fun h' he => hQ h' s.toks fun b o hb e => he b o (fun h => hb (by simp [h])) e
  self := fun i s Q E st h => RT.iter_rt st.2.1 h
theorem extend_rt {R : Result → Shared → Prop} {it t S : Addr} {items : Array Value} (res : Value) (c₀ : Nat) (hh : A.handled = none) (hit : RT.IsRt s.heap it t ((items.size : Int) - 1)) (ht : IsTup s.heap t items) (hne : t ≠ it) (hn : items.size ≤ sizeLine) (hSi : S ≠ it) (hSt : S ≠ t)
    (hS : s.heap.get? S = some { cls := .type "list", data := .seq #[] c₀ })
    (hR : ∀ h' tk acc' c', (∀ b o, b ≠ S → b ≠ it → s.heap.get? b = some o → h'.get? b = some o) → h'.get? S = some { cls := .type "list", dict := none, data := .seq acc' c', slots := #[] } → ItemsOf (fun i v => items[items.size - 1 - i]? = some v) acc' items.size → R (.ok (.ret res)) { s with heap := h', toks := tk }) :
    wpAny (model prog w) A.in1 (Builtin.List.listExtendWith (.ref S) (.ref it) res)
      (fun fin s' => match fin with | .done f => R (.ok f) s' | .again c' => c'.quiet = true ∧ codeAny (model prog w) A c' R s') (fun e s' => R (.error e) s') s := by
  have W := walks_rt (prog := prog) (w := w) (A := A.in1) (items := items) hh hne hn
  have hSf : S ∉ [it, t] := by simp only [List.mem_cons, List.not_mem_nil, or_false, not_or]; exact ⟨hSi, hSt⟩
  have key : ∀ (h : Heap) (c₁ tk : Nat), (∀ b o, b ≠ S → s.heap.get? b = some o → h.get? b = some o) →
      h.get? S = some { cls := .type "list", data := .seq #[] c₁ } → codeAny (model prog w) A (.builtin "list.extend.loop" ⟨[.ref S, .ref it, res], []⟩) R { s with heap := h, toks := tk } := by
    intro h c₁ tk hk hS₁
    have hst : (fun (i : Nat) (h : Heap) => i ≤ items.size ∧ RT.IsRt h it t ((items.size : Int) - 1 - (i : Nat)) ∧ IsTup h t items) 0 h :=
      ⟨Nat.zero_le _, by rw [show (items.size : Int) - 1 - ((0 : Nat) : Int) = (items.size : Int) - 1 by omega]; exact hit.at fun o e => hk it o (Ne.symm hSi) e, let ⟨o, ho, r⟩ := ht; ⟨o, hk t o (Ne.symm hSt) ho, r⟩⟩
    refine codeAny_extend_loopS W.toS hn S hSf res items.size 0 _ #[] c₁ rfl (Nat.zero_le _) hst hS₁ (ItemsOf.nil _) fun s' acc' c' hm hS' hacc => ?_
    rw [Moved.eq_with hm]
    refine hR s'.heap s'.toks acc' c' (fun b o hb hb2 e => hm.heap b o (fun hmem => ?_) (hk b o hb e)) hS' hacc
    rcases List.mem_cons.mp hmem with e' | hmem
    · exact hb e'
    · exact hb2 (List.mem_singleton.mp hmem)
  have hT : s.TypeIs (.ref it) "reversed" := hit.typeIs
  have h1 : Builtin.List.listSameRef (.ref S) (.ref it) = false := by simp [Builtin.List.listSameRef, hSi]
  unfold Builtin.List.listExtendWith
  refine wpAny_bind (wpAny_typeOf hT ?_)
  rw [if_neg (by rw [h1]; decide)]
  refine wpAny_bind (RT.iter_rt hit ?_)
  refine wpAny_bind (wpAny_holding (hint_rt hit ht hn fun b tk => ?_))
  refine wpAny_ite_split (fun _ => ?_) (fun _ => wpAny_pure ⟨plainId_quiet PySem.F.plain_extend_loop _, key _ c₀ _ (fun b o _ e => e) hS⟩)
  refine wpAny_bind (wpAny_rule ?_)
  refine wpAny_bind ?_
  show wpAny _ _ (updateSeq S (·.push .none) >>= fun _ => updateSeq S (·.pop)) _ _ _
  refine wpAny_bind (wpAny_updateSeq (s := { s with toks := tk }) hS rfl ?_)
  have hS₂ := Heap.get?_update_self (Obj.mapSeq (·.push Value.none)) hS rfl
  refine wpAny_updateSeq (hz := by seq_fits) hS₂ rfl ?_
  have hS₃ := Heap.get?_update_self (Obj.mapSeq (·.pop)) hS₂ rfl
  refine wpAny_pure ⟨plainId_quiet PySem.F.plain_extend_loop _, key _ _ _ (fun b o hb e => ?_) hS₃⟩
  exact (Heap.get?_update_other _ _ (Ne.symm hb)).trans ((Heap.get?_update_other _ _ (Ne.symm hb)).trans e)
theorem call_listRt {it t : Addr} {items : Array Value} {Q : Value → Shared → Prop} (hh : A.handled = none) (hit : RT.IsRt s.heap it t ((items.size : Int) - 1)) (ht : IsTup s.heap t items) (hne : t ≠ it) (hn : items.size ≤ sizeLine)
    (hQ : ∀ h' tk acc' c', (∀ b o, b ≠ it → s.heap.get? b = some o → h'.get? b = some o) → h'.get? s.heap.objs.size = some { cls := .type "list", dict := none, data := .seq acc' c', slots := #[] } → ItemsOf (fun i v => items[items.size - 1 - i]? = some v) acc' items.size → Q (.ref s.heap.objs.size) { s with heap := h', toks := tk }) :
    wpAny (model prog w) A (call (.type "list") [.ref it]) Q E s := by
  refine callType_codes (Q₁ := fun obj s₁ => obj = .ref s.heap.objs.size ∧ s₁ = { s with heap := s.heap.push { cls := .type "list", data := .seq #[] } }) PySem.F.called_list (PySem.F.typeCall_list_1 _) PySem.F.entry_list_init
    (code_list_new _ ⟨rfl, rfl⟩) fun obj s₁ h₁ => ?_
  obtain ⟨rfl, rfl⟩ := h₁
  have hS : (s.heap.push { cls := .type "list", data := .seq #[] }).get? s.heap.objs.size = some { cls := .type "list", data := .seq #[] } := Heap.get?_push_size _ rfl
  have li : it < s.heap.objs.size := let ⟨_, e, _⟩ := hit; Heap.lt_size e
  have lt : t < s.heap.objs.size := let ⟨_, e, _⟩ := ht; Heap.lt_size e
  refine ⟨⟨_, hS, rfl⟩, PySem.F.args_list_init_2 _ _, ?_⟩
  show wpAny _ _ (do let old ← Builtin.List.listItems (.ref s.heap.objs.size); Builtin.List.listUpdate (.ref s.heap.objs.size) (fun _ => #[]); letGo old.toList.reverse; Builtin.List.listExtendWith (.ref s.heap.objs.size) (.ref it) .none) _ _ _
  refine wpAny_bind ?_
  unfold Builtin.List.listItems
  refine wpAny_bind (wpAny_seqItems hS rfl (wpAny_pure ?_))
  show wpAny _ _ (updateSeq s.heap.objs.size (fun _ => #[]) >>= fun _ => letGo (#[] : Array Value).toList.reverse >>= fun _ => Builtin.List.listExtendWith (.ref s.heap.objs.size) (.ref it) .none) _ _ _
  refine wpAny_bind (wpAny_updateSeq hS rfl ?_)
  have hS₂ := Heap.get?_update_self (Obj.mapSeq (fun _ => (#[] : Array Value))) hS rfl
  have oth : ∀ b o, b ≠ s.heap.objs.size → s.heap.get? b = some o → ((s.heap.push { cls := .type "list", data := .seq #[] }).update s.heap.objs.size (Obj.mapSeq (fun _ => (#[] : Array Value)))).get? b = some o :=
    fun b o hb e => (Heap.get?_update_other _ _ (Ne.symm hb)).trans (Heap.get?_push_of_some _ e)
  refine wpAny_bind (wpAny_letGo ?_)
  refine extend_rt (A := A.in1) .none _ hh (hit.at fun o e => oth it o (Nat.ne_of_lt li) e) (let ⟨o, ho, r⟩ := ht; ⟨o, oth t o (Nat.ne_of_lt lt) ho, r⟩) hne hn (Nat.ne_of_gt li) (Nat.ne_of_gt lt) hS₂ fun h' tk acc' c' hk hS' hacc => ?_
  exact ⟨rfl, hQ h' tk acc' c' (fun b o hb e => hk b o (Nat.ne_of_lt (Heap.lt_size e)) hb (oth b o (Nat.ne_of_lt (Heap.lt_size e)) e)) hS' hacc⟩
end
def tListRev (K : PySem.W.Frag) (te : TE) : TE := fun σ H Q => te σ H fun v H1 => ∃ (a : Addr) (xs : List V), v = .ref a ∧ SqT K H1 a xs ∧ ∀ q, H1 q = none → Q (.ref q) (L2.upd H1 q (.lst xs.reverse))
theorem pe_listRevT {X : Cx} {e : Expr} {te : TE} {p p2 pos pos2 : Pos} (hc : X.calm = true) (hg : Gl X "list") (hm : X.mg "list" = none) (hg2 : Gl X "reversed") (hm2 : X.mg "reversed" = none) (he : PE X e te)
    (hs : starEach [e] X.env = (false, eval e X.env) :: starEach [] X.env := by rfl)
    (hs2 : starEach [.Call (.Name "reversed" p2) [e] [] pos2] X.env = (false, eval (.Call (.Name "reversed" p2) [e] [] pos2) X.env) :: starEach [] X.env := by rfl) :
    PE X (.Call (.Name "list" p) [.Call (.Name "reversed" p2) [e] [] pos2] [] pos) (tListRev X.K te) := by
  refine ⟨fun pins s σ H Q I h => ?_⟩
  refine Call_ (ld_blt I hg hm PyProof.Rows.boot_list (PyProof.Rows.callWith_type1 (args_cons (Call_ (ld_blt I hg2 hm2 PyProof.Rows.boot_reversed (PyProof.Rows.callWith_type1 (args_cons (thn (he.run pins s σ H _ I h) fun u s1 ⟨v, H1, I1, r1, q1⟩ => args_nil ?_) hs) hs rfl))) hs2) hs2 rfl))
  obtain ⟨a, xs, ev, hq, q⟩ := q1
  subst ev
  obtain rfl : u = Value.ref a := r1
  obtain ⟨its, rv, p', hz⟩ := I1.tuple hq
  have hn : its.toArray.size ≤ sizeLine := by rw [List.size_toArray, ← rv.length]; exact hz
  refine RT.call_reversed_tup p' (fun A E Q k => len_tuple p' (by rw [sizeLine_eq] at hn; omega) k) (args_nil ?_)
  have k0 : ∀ b o, s1.heap.get? b = some o → (s1.heap.push (RT.rtObj a ((its.toArray.size : Int) - 1))).get? b = some o := fun b o e => Heap.get?_push_of_some _ e
  have I2 : Inv X pins σ H1 { s1 with heap := s1.heap.push (RT.rtObj a ((its.toArray.size : Int) - 1)), toks := s1.toks + 1 + 1 } := I1.kept (t' := s1.toks + 1 + 1) k0
  obtain ⟨f0, f1, f2, f3, f4, f5⟩ := I1.fpOk (H' := H1) (b := s1.heap.objs.size) (Nat.le_refl _) (I1.hok.fresh (Nat.le_refl _))
  obtain ⟨oa, hoa, _⟩ := id p'
  have hne : a ≠ s1.heap.objs.size := Nat.ne_of_lt (Heap.lt_size hoa)
  refine call_listRt (s := { s1 with heap := s1.heap.push (RT.rtObj a ((its.toArray.size : Int) - 1)), toks := s1.toks + 1 + 1 }) (I1.ok.hd hc) ⟨_, Heap.get?_push_size _ rfl, rfl, rfl⟩ (p'.keeps k0) hne hn fun h' tk acc c hk hS' hi => ?_
  have szp : (s1.heap.push (RT.rtObj a ((its.toArray.size : Int) - 1))).objs.size = s1.heap.objs.size + 1 := Heap.size_push ..
  have kk : ∀ b o, s1.heap.get? b = some o → h'.get? b = some o := fun b o e => hk b o (Nat.ne_of_lt (Heap.lt_size e)) (k0 b o e)
  have le : s1.heap.objs.size ≤ (s1.heap.push (RT.rtObj a ((its.toArray.size : Int) - 1))).objs.size := by rw [szp]; exact Nat.le_succ _
  refine ⟨.ref (s1.heap.push (RT.rtObj a ((its.toArray.size : Int) - 1))).objs.size, L2.upd H1 _ (.lst xs.reverse), I1.laid (t' := tk) kk le (show ObjOk X.prog X.w _ _ _ (.lst xs.reverse) from ⟨by rw [List.length_reverse]; exact hz, acc.toList, c, RT.vals_rev rv hi, ?_⟩), rfl, q _ (I1.hok.fresh le)⟩
  rw [Array.toArray_toList]
  exact hS'
end LK

set_option Elab.async false
set_option linter.all false
set_option maxRecDepth 100000
set_option maxHeartbeats 4000000
/-! defs that call themselves: a promise by depth, each depth from the one before -/
namespace LK
open PySem PySem.Spec PyProof.Rows L2 SX
section
variable {P : Program} {w : World} {K : PySem.W.Frag} {mg : Str → Option Value} {base h : Heap} {CX : CXT}
/-- sp 0 asks for nothing that can be (it is false); depth n + 1 may use depth n -/
theorem mk_useR {x : Str} {st : Stmt} {ps : List Str} (sp : Nat → Sp) (k0 : Nat) (F : HasFn K x st) (X : K.In h) (G : h.Ns mainGlobals mg)
    (hb : ∀ (kV doc pm : Value) (an : Option Addr) (cdv ct : Value) (us : List Value), us.length = ps.length → bindArgs (PySem.W.fnOf x x (defArgs st) (defBody st) (defScope st) .none kV doc pm an cdv ct) ⟨us, []⟩ = pure (ps.zip us))
    (h0 : ∀ vs H Q E, ¬ sp 0 vs H Q E)
    (ok : ∀ (n : Nat), Use P w K mg base CX x (k0 + n) ps (sp n) → ∀ (f : Addr) (fd : FuncData), Fun K x x st f fd → FnG P w K mg base CX (k0 + n + 1) f fd ps (sp (n + 1))) : ∀ n, Use P w K mg base CX x (k0 + n) ps (sp n)
  | 0 => by
    obtain ⟨f, oc, od, an, kV, doc, pm, cdv, ct, osl, e, l, c, kp⟩ := F
    have Fn := fun_mk (st := st) l c kp
    exact ⟨f, _, ⟨fun vs H Q E s => absurd s (h0 vs H Q E), fun _ _ _ _ _ _ vs Q E _ _ _ _ _ s => absurd s (h0 _ _ _ _)⟩, PySem.W.mg_of X G e, kp, Fn.binds hb⟩
  | n + 1 => mk_use F X G hb (ok n (mk_useR sp k0 F X G hb h0 ok n))
end
end LK

set_option Elab.async false
set_option linter.all false
set_option maxRecDepth 100000
set_option maxHeartbeats 4000000
/-! The own exception with one field (place) in the layer: raise, its init, what an except asks of it; defs called while an exception is held. -/
namespace LK
open PySem PySem.Spec PyProof.Rows L2 NdefX SupX
/-! ### a def called in the suite of an except -/
structure FnP (P : Program) (w : World) (K : PySem.W.Frag) (mg : Str → Option Value) (base : Heap) (k : Nat) (f : Addr) (fd : FuncData) (ps : List Str) (sp : Sp) : Prop where
  len : ∀ vs H Q E, sp vs H Q E → vs.length = ps.length
  go : ∀ (A : Around) (outer : List Env) (s : Shared) (H : Hp) (args : Args) (us : List Value) (vs : List V) (Q : VK) (E : XK) (p : Addr × Obj), L2H.RoomH k A → L2H.PinOk outer H s p → Env0 P w K mg base A outer s H → BindsTo s fd args (ps.zip us) →
    Vals vs us → sp vs H Q E → codeAny (model P w) A (.call (.ref f) args) (CR CX0 outer P w H s Q E) s
section
variable {P : Program} {w : World} {K : PySem.W.Frag} {mg : Str → Option Value} {base h : Heap}
theorem okP {x qual : Str} {st : Stmt} {f : Addr} {fd : FuncData} {N ps : List Str} {k : Nat} {sp : Sp} (F : Fun K x qual st f fd) (S : FnScope N ps (defScope st)) (len : ∀ vs H Q E, sp vs H Q E → vs.length = ps.length)
    (body : ∀ (cdv : Value) (A : Around) (outer : List Env) (s : Shared) (H : Hp) (vs : List V) (Q : VK) (E : XK) (p : Addr × Obj), L2H.RoomH k (A.deeper (envOfC qual (defScope st) s.heap.objs.size f cdv)) → sp vs H Q E →
      ∃ t, PSs (L2H.cxH CX0 P w K mg base N qual (defScope st) f cdv A outer s H E p) (defBody st) t ∧ t { nx := fun _ H' => Q .non H', rt := Q } (start N vs) H) : FnP P w K mg base (k + 1) f fd ps sp := by
  obtain ⟨oc, od, kV, doc, pm, an, cdv, ct, osl, rfl, lk, hcd⟩ := F.ex
  refine ⟨len, fun A outer s H args us vs Q E p hr pin e0 hb r hsp => ?_⟩
  have inn : K.In s.heap := e0.mod.kin.keeps fun b o e => (e0.bs b o e).1
  refine codeAny_call_function hr.depth (inn _ _ lk) rfl S.co S.gen rfl (PySem.W.codeRec_of inn hcd) (hb _ _ _ _ ?_)
  refine wpAny_newFunctionEnv_cells S.kind (fun y hy => ?_) fun env he s1 made => ?_
  · obtain ⟨n, v⟩ := y
    exact (S.par n (List.of_mem_zip hy).1).elim .inl fun q => .inr ⟨q, PySem.W.cellsFrom_some _ _ _ (.inl q)⟩
  · subst he
    have lim : s.heap.NoLimit := e0.mod.nolimit.keeps fun b o e => (e0.bs b o e).1
    refine ⟨lim.keeps made.toInCall.keep, codeAny_func ?_⟩
    obtain ⟨t, ht, hq⟩ := body cdv A outer s H vs Q E p (hr.deeper _) hsp
    refine wpAny_mono (ht.run [] s1 (start N vs) H _ (L2H.inv_startH S pin e0 (len _ _ _ _ hsp) r made) hq) (fun fl s2 hs => ?_) fun e s2 hs => hs
    cases fl with
    | ret u => exact let ⟨v, _, H2, J, rv, q⟩ := hs; ⟨v, H2, J.os, J.bare, J.base, J.hok, rv, q⟩
    | next => exact let ⟨_, H2, J, q⟩ := hs; ⟨V.non, H2, J.os, J.bare, J.base, J.hok, rfl, q⟩
    | brk => exact let ⟨_, _, _, q⟩ := hs; q.elim
    | cont => exact let ⟨_, _, _, q⟩ := hs; q.elim
structure UseP (P : Program) (w : World) (K : PySem.W.Frag) (mg : Str → Option Value) (base : Heap) (x : Str) (k : Nat) (ps : List Str) (sp : Sp) : Prop where
  ex : ∃ (f : Addr) (fd : FuncData), FnP P w K mg base k f fd ps sp ∧ mg x = some (.ref f) ∧ PySem.W.keepIn K (.ref f) = true ∧ Binds K fd ps []
theorem mk_useP {x : Str} {st : Stmt} {k : Nat} {ps : List Str} {sp : Sp} (F : HasFn K x st) (X : K.In h) (G : h.Ns mainGlobals mg)
    (hb : ∀ (kV doc pm : Value) (an : Option Addr) (cdv ct : Value) (us : List Value), us.length = ps.length → bindArgs (PySem.W.fnOf x x (defArgs st) (defBody st) (defScope st) .none kV doc pm an cdv ct) ⟨us, []⟩ = pure (ps.zip us))
    (ok : ∀ (f : Addr) (fd : FuncData), Fun K x x st f fd → FnP P w K mg base k f fd ps sp) : UseP P w K mg base x k ps sp := by
  obtain ⟨f, oc, od, an, kV, doc, pm, cdv, ct, osl, e, l, c, kp⟩ := F
  have Fn := fun_mk (st := st) l c kp
  exact ⟨f, _, ok f _ Fn, PySem.W.mg_of X G e, kp, Fn.binds hb⟩
end
section
variable {X : Cx} {k : Nat} {x : Str} {ps : List Str} {sp : Sp} {p pos : Pos} {e : Expr} {es : List Expr} {t : TA}
theorem pe_useP (U : UseP X.prog X.w X.K X.mg X.base x k ps sp) (hr : L2H.RoomH k X.A) (hp : ∃ q, q ∈ X.pn) (hg : Gl X x) (ha : PA X (e :: es) t) (hdb : (x == ("__debug__" : Str)) = false := by decide)
    (he : starEach (e :: es) X.env = (false, eval e X.env) :: starEach es X.env := by rfl) (hpl : (backTo pos (starEach es X.env)).any (·.1) = false := by rfl) : PE X (.Call (.Name x p) (e :: es) [] pos) (tUse sp E0 t) := by
  obtain ⟨f, fd, F, hm, kp, hb⟩ := U.ex
  obtain ⟨q0, hq0⟩ := hp
  refine ⟨fun pins s σ H Q I h => wpAny_Call_Name_kw (ld_glob I hg hm ?_ hdb)⟩
  refine PySem.W.callWith_K (h₀ := X.base) I.ok.mod.kin kp (thn (ha.run pos pins s σ H _ I h) fun us s1 ⟨vs, H1, I1, r, q⟩ => ⟨I1.kIn, ?_⟩) he hpl
  have hl : (us ++ []).length = ps.length := by rw [List.append_nil, ← r.length, F.len _ _ _ _ q]
  have hbs := hb s1 us I1.kIn hl
  rw [List.append_nil] at hbs
  have P1 := I1.pin q0 (List.mem_append_left _ hq0)
  have pin : L2H.PinOk X.stack H1 s1 q0 := ⟨P1.1, P1.2.1, fun hm => (List.mem_cons.mp (I1.stkSub q0.1 hm)).elim P1.2.2.1 P1.2.2.2.1, P1.2.2.2.2⟩
  refine wpAny_call (codeAny_mono (F.go X.A X.stack s1 H1 ⟨us, []⟩ us vs Q E0 q0 hr pin I1.env0 hbs r q) fun res s2 hq => ?_)
  match res, hq with
  | .error e, hq => exact hq.elim
  | .ok (.ret u), hq => exact I1.after hq
  | .ok .next, hq => exact hq.elim
  | .ok .brk, hq => exact hq.elim
  | .ok .cont, hq => exact hq.elim
end
/-! ### the class with the field place -/
def badD (n : Int) : HO := .xd [("place", .int n)]
/-- what its init leaves -/
def spBad (K : PySem.W.Frag) (C : Addr) : Sp := fun vs H Q _ => ∃ (a : Addr) (n : Int), vs = [.ref a, .int n] ∧ H a = some (exo a C none) ∧ n.natAbs < 2 ^ 100 ∧
  ∀ d H', H d = none → H' a = some (exo a C (some d)) → H' d = some (exd d [("place", .int n)]) → (∀ b, b ≠ a → b ≠ d → H' b = H b) → Q .non H'
structure UseB (P : Program) (w : World) (K : PySem.W.Frag) (mg : Str → Option Value) (base : Heap) (C B : Addr) : Prop where
  oex : OexC K C
  xf : XfC K C
  isc : ExcC K C
  mC : mg "BadNumbers" = some (.ref C)
  mB : mg "HoldError" = some (.ref B)
  place : PySem.W.findIn K (.ref C) "place" = some none
  exm : PySem.W.exmOne K (.ref C) (.ref B) = some true
  ini : ∃ (fI : Addr) (fd : FuncData), PySem.W.findIn K (.ref C) "__init__" = some (some (.ref fI)) ∧ PySem.W.typeIn K (.ref fI) = some (.type "function") ∧ FnOk P w K mg base CX0 1 fI fd ["self", "place"] (spBad K C) ∧ Binds K fd ["self", "place"] []
/-- raise BadNumbers(place) -/
def tRaiseB (C : Addr) (ta : TA) (W : WX) : TS := fun _ σ H => ta σ H fun vs H1 => ∃ (n : Int), vs = [.int n] ∧ n.natAbs < 2 ^ 100 ∧ ∀ d, H1 d = none → W (.ref C) (some d) σ (upd H1 d (badD n))
section
variable {X : Cx} {C B : Addr} {W : WX} {e1 : Expr} {es : List Expr} {ta : TA} {p pos pos2 : Pos}
theorem ps_raiseB (U : UseB X.prog X.w X.K X.mg X.base C B) (hc : X.calm = true) (tk : Takes X W) (hr : Room 2 X.A) (hg : Gl X "BadNumbers") (ha : PA X (e1 :: es) ta)
    (he : starEach (e1 :: es) X.env = (false, eval e1 X.env) :: starEach es X.env := by rfl) (hpl : (backTo pos (starEach es X.env)).any (·.1) = false := by rfl) :
    PS X (.Raise (some (.Call (.Name "BadNumbers" p) (e1 :: es) [] pos)) none pos2) (tRaiseB C ta W) := by
  obtain ⟨fI, fd, i1, i2, ok, hb⟩ := U.ini
  have R := ps_raise (pos := pos2) hc tk (pmk_oex (p := p) (pos := pos) U.oex i1 i2 ok hr hb .nil pass0 hg U.mC (pa_up ha) (by decide) he hpl)
  refine ⟨fun pins s σ H D I h => R.run pins s σ H D I ⟨_, h, ?_⟩⟩
  rintro vs H1 ⟨n, rfl, hn, k⟩
  refine ⟨show 1 ≤ 1000 by decide, fun a ha1 => ⟨a, n, rfl, upd_same, hn, fun d H2 hd ha2 hd2 keep => ?_⟩⟩
  have hda : d ≠ a := fun e => by
    subst e
    rw [upd_same] at hd
    cases hd
  rw [upd_ne hda] at hd
  refine ⟨rfl, d, _, ha2, hd2, hd, ?_⟩
  have e : upd (del H2 a) d (.xd [("place", .int n)]) = upd H1 d (badD n) := by
    funext b
    by_cases hb : b = d
    · subst hb
      rw [upd_same, upd_same]; rfl
    · rw [upd_ne hb, upd_ne hb]
      by_cases hba : b = a
      · subst hba
        rw [del_same, ha1]
      · rw [del_ne hba, keep b hba hb, upd_ne hba]
  rw [e]
  exact k d hd
end
section
variable {P : Program} {w : World} {K : PySem.W.Frag} {mg : Str → Option Value} {base : Heap} {F : NF} {fI C cc : Addr} {p0 p1 pa pc pe q1 q2 q3 q4 a1 a2 a3 a4 : Pos} {k1 : Nat} {ar : Arg}
theorem bad_ini (T : SupC P K C fI cc F) (hl : PySem.W.findIn K (.ref C) "place" = some none)
    (S : NScope ["self", "place", "__class__"] ["self", "place"] ["__class__"] F.scope)
    (hbd : F.body = [.Expr (.Call (.Attribute (.Call (.Name "super" p0) [] [] p1) "__init__" pa) [.JoinedStr [.Constant (.str "place ") k1 q1, .FormattedValue (.Name "place" q2) (-1) none q3] q4] [] pc) pe,
      .Assign [.Attribute (.Name "self" a1) "place" a2] (.Name "place" a3) a4])
    (hpar : (F.params.posonlyargs ++ F.params.args).head? = some ar) (har : ar.arg = "self") (hks : F.scope.names.lookup ("super" : Str) = some .globalImplicit)
    (hev : ∀ env : Env, ∃ pl : Sem Bool, eval (.Call (.Attribute (.Call (.Name "super" p0) [] [] p1) "__init__" pa) [.JoinedStr [.Constant (.str "place ") k1 q1, .FormattedValue (.Name "place" q2) (-1) none q3] q4] [] pc) env = (do
      let ov ← attributeBase (.Call (.Name "super" p0) [] [] p1) "__init__" env (eval (.Call (.Name "super" p0) [] [] p1) env)
      standAt pa.atName
      let (f, first) ← holding [ov] (getMethod ov "__init__" pl)
      callWith pc f first (backTo pc (starEach [.JoinedStr [.Constant (.str "place ") k1 q1, .FormattedValue (.Name "place" q2) (-1) none q3] q4] env)) [])) :
    ∀ fd, (∃ oc od osl, K.lookup fI = some ⟨oc, od, .func fd, osl⟩) → FnOk P w K mg base CX0 1 fI fd ["self", "place"] (spBad K C) := by
  have v0 : F.scope.names.lookup ("self" : Str) = some .local := S.par _ (by simp)
  have v1 : F.scope.names.lookup ("place" : Str) = some .local := S.par _ (by simp)
  refine sup_ok (k := 0) T S (fun vs H Q E h => ?_) (fun vs H Q E h => ?_) hbd hpar har hks (S.frk _ (by simp)) v0 (fun _ => rfl) (fun _ => rfl) hev fun A outer s H vs Q E hroom h => ?_
  · obtain ⟨a, n, rfl, _⟩ := h
    rfl
  · obtain ⟨a, n, rfl, ha, _⟩ := h
    exact ⟨a, _, rfl, ha⟩
  · obtain ⟨a, n, rfl, ha, hn, k⟩ := h
    refine ⟨_, _, pa_cons (pe_joined (.cons pe_str (.cons (pe_fmt (pe_var (i := 1) rfl (.inl v1))) .nil))) pa_nil,
      pss_one (ps_ost (pe_var (i := 0) rfl (.inl v0)) (pe_var (i := 1) rfl (.inl v1))), ?_⟩
    have hln : (Str.ofString (toString n)).length ≤ 2000 := by
      have hl : n.natAbs.log2 < 1900 := Nat.lt_of_lt_of_le (PySem.Flt.log2_lt_of (k := 100) (by decide) hn) (by decide)
      have e := int_text_length_le (k := 1900) (by decide) hl
      rw [PySem.ofString_length]; omega
    have l1 : (Str.empty ++ ("place " : Str)).length = 6 := by decide +kernel
    refine ⟨_, rfl, by rw [l1]; decide, ?_⟩
    refine ⟨_, rfl, .inr ⟨n, rfl, Nat.lt_of_lt_of_le (PySem.Flt.log2_lt_of (k := 100) (by decide) hn) (by decide), _, rfl, ?_, ?_⟩⟩
    · rw [strLen_append, l1]
      exact Nat.le_trans (show 6 + _ ≤ 3000 by omega) (by decide)
    refine ⟨show 1 ≤ 1000 by decide, a, rfl, ha, ?_⟩
    refine ⟨_, rfl, _, rfl, a, C, rfl, T.oex, hl, .inl ⟨ha, fun d hd hda => ?_⟩⟩
    refine k d _ hd upd_same (by rw [upd_ne hda, upd_same]) fun b hb hbd => ?_
    rw [upd_ne hb, upd_ne hbd]
end
/-! ### from the top's facts -/
abbrev nfB (st : Stmt) (cc cda : Addr) : NF := ⟨"__init__", "BadNumbers.__init__", defArgs st, defBody st, defScope st, [(("__class__" : Str), cc)], cda⟩
structure BadK (P : Program) (K : PySem.W.Frag) (st : Stmt) (C B fI cc cda : Addr) : Prop where
  gC : PySem.W.nsIn K mainGlobals "BadNumbers" = some (some (.ref C))
  gB : PySem.W.nsIn K mainGlobals "HoldError" = some (some (.ref B))
  sup : SupC P K C fI cc (nfB st cc cda)
  xf : XfC K C
  isc : ExcC K C
  place : PySem.W.findIn K (.ref C) "place" = some none
  exm : PySem.W.exmOne K (.ref C) (.ref B) = some true
  ini : PySem.W.findIn K (.ref C) "__init__" = some (some (.ref fI))
  ity : PySem.W.typeIn K (.ref fI) = some (.type "function")
def HasBad (P : Program) (K : PySem.W.Frag) (st : Stmt) (C : Addr) : Prop := ∃ B fI cc cda, BadK P K st C B fI cc cda
section
variable {P : Program} {K : PySem.W.Frag} {st : Stmt} {C B fI cc cda : Addr} {nm q : Str} {N : Addr} {bs bm : List Value} {sn : List Str} {sub : List Value} {ab : Bool} {col : Option Bool} {dd : Option Addr} {k0 k1 k2 k3 k5 : Option Value}
  {oc : Value} {od : Option Addr} {doc pm ctv : Value} {osl : Array (Option Value)} {ccl : Value} {cdd : Option Addr} {vs : Array Value} {ccs : Array (Option Value)} {file : Str} {tf : Tok} {xcl : Value} {xld : Option Addr} {xsl : Array (Option Value)}
theorem HasBad.mk' (a1 : PySem.W.nsIn K mainGlobals "BadNumbers" = some (some (.ref C))) (a2 : PySem.W.nsIn K mainGlobals "HoldError" = some (some (.ref B)))
    (a3 : K.lookup C = some (excClassObj nm q C N bs bm true sn sub ab col dd k0 k1 k2 k3 k5 "ValueError.__new__")) (a4 : PySem.HandSPX.refsVE bm = true)
    (a5 : PySem.W.findIn K (.ref C) "__setattr__" = some (some (.builtin "object.__setattr__"))) (a6 : PySem.W.subIn K (.ref C) (.type "BaseException") = some true) (a7 : PySem.W.typeIn K (.ref C) = some (.type "type")) (a8 : PySem.W.keepIn K (.ref C) = true)
    (b1 : PySem.W.findIn K (.ref C) "__init__" = some (some (.ref fI))) (b2 : PySem.W.typeIn K (.ref fI) = some (.type "function"))
    (b3 : K.lookup fI = some ⟨oc, od, .func ((nfB st cc cda).fd doc pm ctv), osl⟩) (b4 : PySem.W.codeIn K (.ref cda) "BadNumbers.__init__" = true)
    (b5 : K.lookup cda = some ⟨ccl, cdd, .fields vs, ccs⟩) (b6 : vs[2]? = some (.str file tf)) (b7 : ((P.main.file : Str) == file) = true) (b8 : (P.main.scope.names.lookup ("super" : Str)).isSome = false)
    (c1 : K.lookup cc = some ⟨xcl, xld, .cell (some (.ref C)), xsl⟩) (c2 : PySem.W.mroIn K C (.ref C) = some true) (c3 : PySem.W.subIn K (.ref C) (.type "ValueError") = some true)
    (c4 : PySem.W.ks_superIn K C C "__init__" = some (some (.builtin "ValueError.__init__"))) (c5 : PySem.W.nsIn K cStatics "thirdparty.any" = some none) (c6 : PySem.W.nsIn K mainGlobals "super" = some none)
    (d1 : PySem.W.findIn K (.ref C) "__getattribute__" = some (some (.builtin "BaseException.__getattribute__"))) (d2 : PySem.W.findIn K (.ref C) "__getattr__" = some none) (d3 : PySem.W.hasDictIn K C = true)
    (d4 : PySem.W.findIn K (.ref C) "__class__" = some (some (.builtin "object.__class__"))) (d5 : PySem.W.specialIn K (.builtin "object.__class__") "__get__" = some (some (.builtin "getset_descriptor.__get__")))
    (d6 : PySem.W.takesIn K (.builtin "object.__class__") = some true) (d7 : PySem.W.mroIn K C (.type "object") = some true)
    (e1 : PySem.W.findIn K (.ref C) "place" = some none) (e3 : PySem.W.subIn K (.ref B) (.type "BaseException") = some true) (e4 : PySem.W.hasDictIn K B = true) (e5 : PySem.W.typeIn K (.ref B) = some (.type "type")) (e6 : PySem.W.subIn K (.ref C) (.ref B) = some true) : HasBad P K st C :=
  ⟨B, fI, cc, cda, a1, a2, ⟨⟨⟨nm, q, N, bs, bm, sn, sub, ab, col, dd, k0, k1, k2, k3, k5, a3, a4⟩, a5, a6, a7, a8⟩, ⟨oc, od, doc, pm, ctv, osl, b3⟩, rfl, b4, ⟨ccl, cdd, vs, ccs, file, tf, b5, b6, b7⟩, b8, ⟨xcl, xld, xsl, c1⟩, c2, c3, c4, c5, c6⟩,
    ⟨d1, d2, a6, d3⟩, ⟨d1, d2, a6, d3, d4, d5, d6, d7⟩, e1, PySem.W.exm_ref e3 e4 e5 e6, b1, b2⟩
end
section
variable {P : Program} {w : World} {K : PySem.W.Frag} {mg : Str → Option Value} {base h : Heap} {st : Stmt} {p0 p1 pa pc pe q1 q2 q3 q4 a1 a2 a3 a4 : Pos} {k1 : Nat} {ar : Arg} {C : Addr}
theorem mk_useB (f : HasBad P K st C) (X : K.In h) (G : h.Ns mainGlobals mg)
    (S : NScope ["self", "place", "__class__"] ["self", "place"] ["__class__"] (defScope st))
    (hbd : defBody st = [.Expr (.Call (.Attribute (.Call (.Name "super" p0) [] [] p1) "__init__" pa) [.JoinedStr [.Constant (.str "place ") k1 q1, .FormattedValue (.Name "place" q2) (-1) none q3] q4] [] pc) pe,
      .Assign [.Attribute (.Name "self" a1) "place" a2] (.Name "place" a3) a4])
    (hpar : ((defArgs st).posonlyargs ++ (defArgs st).args).head? = some ar) (har : ar.arg = "self") (hks : (defScope st).names.lookup ("super" : Str) = some .globalImplicit)
    (hev : ∀ env : Env, ∃ pl : Sem Bool, eval (.Call (.Attribute (.Call (.Name "super" p0) [] [] p1) "__init__" pa) [.JoinedStr [.Constant (.str "place ") k1 q1, .FormattedValue (.Name "place" q2) (-1) none q3] q4] [] pc) env = (do
      let ov ← attributeBase (.Call (.Name "super" p0) [] [] p1) "__init__" env (eval (.Call (.Name "super" p0) [] [] p1) env)
      standAt pa.atName
      let (f, first) ← holding [ov] (getMethod ov "__init__" pl)
      callWith pc f first (backTo pc (starEach [.JoinedStr [.Constant (.str "place ") k1 q1, .FormattedValue (.Name "place" q2) (-1) none q3] q4] env)) []))
    (hb : ∀ (cc cda : Addr) (doc pm ctv : Value) (us : List Value), us.length = 2 → bindArgs ((nfB st cc cda).fd doc pm ctv) ⟨us, []⟩ = pure ((["self", "place"] : List Str).zip us)) :
    ∃ B, UseB P w K mg base C B := by
  obtain ⟨B, fI, cc, cda, f⟩ := f
  obtain ⟨oc, od, doc, pm, ctv, osl, lk⟩ := f.sup.fn
  exact ⟨B, f.sup.oex, f.xf, f.isc, PySem.W.mg_of X G f.gC, PySem.W.mg_of X G f.gB, f.place, f.exm, fI, _, f.ini, f.ity, bad_ini f.sup f.place S hbd hpar har hks hev _ ⟨oc, od, osl, lk⟩, .all (hb cc cda doc pm ctv)⟩
end
/-! ### another class of the top, of which the caught one is none -/
def HasKin (K : PySem.W.Frag) (x : Str) (C : Addr) (b : Bool) : Prop := ∃ D, PySem.W.nsIn K mainGlobals x = some (some (.ref D)) ∧ PySem.W.kitOne K (.ref C) (.ref D) = some b
theorem HasKin.mk' {K : PySem.W.Frag} {x : Str} {C D : Addr} {b : Bool} (h1 : PySem.W.nsIn K mainGlobals x = some (some (.ref D))) (h0 : (Value.ref C == Value.ref D) = false) (h2 : PySem.W.hasDictIn K D = true)
    (h3 : PySem.W.typeIn K (.ref D) = some (.type "type")) (h4 : PySem.W.subIn K (.ref C) (.ref D) = some b) : HasKin K x C b := ⟨D, h1, by
  obtain ⟨cd, hc, _⟩ := PySem.W.any_some h2
  unfold PySem.W.kitOne
  rw [h0, if_neg Bool.false_ne_true]
  show (if ((PySem.W.clsIn K D).isSome && PySem.W.typeIn K (.ref D) == some (.type "type")) = true then PySem.W.subIn K (.ref C) (.ref D) else none) = _
  rw [hc, h3, h4]
  rfl⟩
structure UseKin (K : PySem.W.Frag) (mg : Str → Option Value) (x : Str) (C : Addr) (b : Bool) : Prop where
  ex : ∃ D, mg x = some (.ref D) ∧ PySem.W.kitOne K (.ref C) (.ref D) = some b
theorem HasKin.g {K : PySem.W.Frag} {mg : Str → Option Value} {h : Heap} {x : Str} {C : Addr} {b : Bool} (k : HasKin K x C b) (X : K.In h) (G : h.Ns mainGlobals mg) : UseKin K mg x C b := by
  obtain ⟨D, h1, h2⟩ := k
  exact ⟨D, PySem.W.mg_of X G h1, h2⟩
section
variable {P : Program} {w : World} {K : PySem.W.Frag} {mg : Str → Option Value} {base : Heap}
theorem FnG.calm {k : Nat} {f : Addr} {fd : FuncData} {ps : List Str} {sp : Sp} (F : FnG P w K mg base (L2.CX P w) k f fd ps sp) (hE : ∀ vs H Q E E', sp vs H Q E → sp vs H Q E') : FnG P w K mg base CX0 k f fd ps sp :=
  ⟨F.len, fun A outer s H args us vs Q E hr hg he hb hv hs => PySem.codeAny_mono (F.run A outer s H args us vs Q E0 hr hg he hb hv (hE _ _ _ _ _ hs)) fun r s' h => by
    cases r with
    | ok fl => cases fl <;> exact h
    | error e =>
      obtain ⟨a, B, H', cls, d, _, _, _, _, _, _, _, hh⟩ := h
      exact hh.elim⟩
end
end LK

set_option Elab.async false
set_option linter.all false
set_option maxRecDepth 100000
set_option maxHeartbeats 4000000
/-! dict comprehensions over any walk; dicts whose keys are ints -/
namespace LK
open PySem PySem.Spec PyProof.Rows L2
theorem dc_it {J : It} {n : Nat} {G : Hp → Prop} {Y : Nat → Hp → V → Hp → Prop} (wk : Walk J n G Y) {g : TG} {tt : TT} {tk tv : TE} {own : List Nat} {σ : L2.St} {H0 : Hp} {D : Addr} {Qd : Hp → Prop} (I : Nat → Hp → Prop) (st : I 0 (upd H0 D (.dK []))) (still : ∀ j H, j ≤ n → I j H → G H)
    (turn : ∀ j x H H', j < n → I j H → Y j H x H' → g x (wipe σ own) H' fun τ Ha => wipe τ own = wipe σ own ∧ tt τ Ha fun b Hb =>
      if b = true then tk τ Hb fun key Hc => tv τ Hc fun val Hd => ∃ ps c, key = kV c ∧ Hd D = some (.dK ps) ∧ ps.length < sizeLine ∧ I (j + 1) (upd Hd D (.dK (putK ps c val))) else I (j + 1) Hb) (fin : ∀ H, I n H → Qd H) :
    ∃ W : Nat → Nat → Hp → Prop, (∃ m, W 0 m (upd H0 D (.dK []))) ∧ ∀ j m H, W j m H → (J.stop j H ∧ Qd H) ∨ (J.go j H ∧ ∃ Nx : Hp → Prop, (∀ H', Nx H' → ∃ m', m' < m ∧ W (j + 1) m' H') ∧
      ∀ x H', J.yld j H x H' → g x (wipe σ own) H' fun τ Ha => wipe τ own = wipe σ own ∧ tt τ Ha fun b Hb =>
        if b = true then tk τ Hb fun key Hc => tv τ Hc fun val Hd => ∃ ps c, key = kV c ∧ Hd D = some (.dK ps) ∧ ps.length < sizeLine ∧ Nx (upd Hd D (.dK (putK ps c val))) else Nx Hb) := by
  refine ⟨fun j m H => j ≤ n ∧ m = n - j ∧ I j H, ⟨n - 0, Nat.zero_le _, rfl, st⟩, ?_⟩
  rintro j m H ⟨hj, rfl, hI⟩
  have hG := still j H hj hI
  rcases Nat.lt_or_ge j n with c | c
  · exact .inr ⟨wk.goes j H c hG, I (j + 1), fun H' h' => ⟨n - (j + 1), by omega, c, rfl, h'⟩, fun x H' y => turn j x H H' c hI (wk.yields j H x H' c hG y)⟩
  · obtain rfl : j = n := Nat.le_antisymm hj c
    exact .inl ⟨wk.stops H hG, fin H hI⟩
/-- a dict whose keys are the ints of a row -/
def KnAt (H : Hp) (a : Addr) (ks : List Int) : Prop := ∃ kvs : List (Key × V), H a = some (.dK kvs) ∧ kvs.length ≤ ks.length ∧ ∀ k : Int, (valV kvs (.inl k)).isSome = decide (k ∈ ks)
theorem KnAt.nil {H : Hp} {a : Addr} : KnAt (upd H a (.dK [])) a [] := ⟨[], upd_same, Nat.le_refl _, fun k => by rw [valV_nil]; simp⟩
theorem KnAt.put {H : Hp} {a : Addr} {ks : List Int} {kvs : List (Key × V)} {k : Int} {v : V} (h : KnAt H a ks) (e : H a = some (.dK kvs)) : KnAt (upd H a (.dK (putK kvs (.inl k) v))) a (ks ++ [k]) := by
  obtain ⟨kvs', e', l, p⟩ := h
  rw [e] at e'
  obtain rfl := HO.dK.inj (Option.some.inj e')
  refine ⟨_, upd_same, ?_, fun j => ?_⟩
  · have := length_putK kvs (.inl k) v
    rw [List.length_append, List.length_singleton]; omega
  · rw [valV_put]
    by_cases c : j = k
    · subst c; simp
    · rw [if_neg (fun h => c (Sum.inl.inj h)), p j]
      simp [c]
theorem KnAt.same {H H' : Hp} {a : Addr} {ks : List Int} (h : KnAt H a ks) (e : Same H H') : KnAt H' a ks := let ⟨x, b, c⟩ := h; ⟨x, e _ _ b, c⟩
/-- what a comprehension's block asks of each of its pieces -/
abbrev InBlk (X : Cx) (scope : Scope) (Z : Cx → Prop) : Prop := ∀ (s : Shared) (H : Hp) (C : Addr) (cl : List (Str × Addr)) (fp : List Addr), Z (X.blk s H scope (compEnvC scope cl C X.env) fp)
/-- name = {k: v for ..}, the name a local of the def -/
theorem ps_setDc {X : Cx} {i : Nat} {y : Str} {py : Pos} {ke ve te ie : Expr} {ifs : List Expr} {scope : Scope} {own : List (Str × Nat)} {p1 p2 : Pos} {wi : TI} {g : TG} {tt : TT} {tk tv : TE} (calm : X.calm = true) (nd : X.N.Nodup) (at_ : X.N[i]? = some y) (isl : X.env.scope.names.lookup y = some .local) (used : swapsWith (.DictComp ke ve [⟨te, ie, ifs, 0⟩] scope p1) (some (.Name y py)) p2.line X.env = pure true)
    (hi : PI X te ie wi) (blk : BlkOk X.N X.env.scope scope own) (a1 : InBlk X scope fun Y => PG Y te g) (a2 : InBlk X scope fun Y => PTs Y ifs tt) (a3 : InBlk X scope fun Y => PE Y ke tk) (a4 : InBlk X scope fun Y => PE Y ve tv) (fi : ∀ x, foldedSetIterable ie X.env x = pure x := by intro _; rfl) : PS X (.Assign [.Name y py] (.DictComp ke ve [⟨te, ie, ifs, 0⟩] scope p1) p2) (tAsg (tDc wi g tt tk tv (own.map (·.2))) (gName i)) := ⟨fun pins s σ H D I h => by
  rw [exec_Assign_Name_used _ _ _ _ used]; refine wpAny_bind (wpAny_standAt (wpAny_bind ?_)); show wpAny _ X.A (do let _ ← comprehension (.DictComp ke ve [⟨te, ie, ifs, 0⟩] scope p1) scope X.env (firstIterPos [⟨te, ie, ifs, 0⟩] p1) newDict false (eval ie X.env) (some (assign (.Name y py) X.env))) _ _ s
  have h' : tDc wi g tt tk tv (own.map (·.2)) σ H (fun x H1 => gName i x σ H1 D.nx) := h
  refine wpAny_bind (thn (dc_core (Qf := fun _ z => SP X pins D .next z) calm nd I hi blk a1 a2 a3 a4 fi h' fun L C z m H' I' q ns fo => ?_) fun _ _ hq => wpAny_pure (wpAny_pure hq)); show wpAny _ _ (assign (.Name y py) X.env (.ref L)) _ _ _
  refine wpAny_assign_Name (store_ok2 (v := V.ref L) I' nd at_ (.inl isl) rfl (fun z2 I2 ⟨b, sb, hb⟩ => ?_) (.inr isl)); obtain ⟨e0, e1, e2, e3, e4, e5⟩ := fo
  have apart : C ≠ b := hb.elim (fun w => by rw [w]; exact e1) fun w e => e4 y b w e.symm
  exact ⟨m, ns.sameBut sb apart, fun h3 sb3 => ⟨_, H', I2.turned (t' := z2.toks) (fun c o hc e => (sb3.2 c hc).trans e) e0 e1 e3 e4 e5, q⟩⟩⟩
theorem swd_true {ke ve : Expr} {gs : List Comprehension} {scope : Scope} {p1 py : Pos} {y : Str} {l : Nat} {env : Env} (h1 : env.scope.kind = .function) (h2 : env.scope.names.lookup y = some .local) (h3 : (py.line == p1.line) = true) (h4 : (scope.names.any fun (n, k) => n == y && (k == .local || k == .cell)) = false) : swapsWith (.DictComp ke ve gs scope p1) (some (.Name y py)) l env = pure true := by
  have k1 : env.kindOf y = some .local := h2
  have k2 : env.blockKind = .function := by unfold Env.blockKind; rw [h1]; rfl
  unfold swapsWith; simp only [k2, k1, h4, Expr.pos, h3]; rfl
end LK

set_option Elab.async false
set_option linter.all false
set_option maxRecDepth 100000
set_option maxHeartbeats 4000000
/-! x.split(): the words of a text -/
namespace LK
open PySem PySem.Spec PyProof.Rows L2
theorem mt_split0 {X : Cx} : MtR X "str.split" (fun x xs H Q => ∃ z, x = .str z ∧ xs = [] ∧ z.length + 2 ≤ sizeLine ∧ rNewStrs (Txt.words z) H Q) := by
  intro pins s σ H x xs v us Q I ex es hyp
  obtain ⟨z, rfl, rfl, lim, next⟩ := hyp
  obtain ⟨tok, rfl⟩ := ex
  cases es
  have few : (Txt.words z).length ≤ sizeLine := Nat.le_trans (words_le z) (by omega)
  have few2 : (Builtin.Str.spaceWords z (z.length + 1)).length ≤ sizeLine := by
    have w1 := (StrLaws.sw_weight z).1
    have w2 := StrLaws.len_le_wsum (Builtin.Str.spaceWords z (z.length + 1))
    omega
  refine call_meets F.slot_str_split (typeIs_str _ _ _) F.entry_str_split (F.args_str_split_1 _) (meets_str_split_space z tok (by omega) few2) ?_
  cases hb : Builtin.Str.spaceWords z (z.length + 1) == [(0, z.length)]
  · simp only [Bool.false_eq_true, if_false]
    rw [strsFrom_eq]
    exact laid_strs (ys := Txt.words z) I ((numbered_texts _ _).trans (if_neg (ne_true_of_eq_false hb)).symm) few next
  · simp only [if_true]
    exact laid_strs (l := [(z, tok)]) (ys := Txt.words z) (k := s.toks) I (if_pos hb).symm few next
end LK

set_option Elab.async false
set_option linter.all false
set_option maxRecDepth 100000
set_option maxHeartbeats 4000000
/-! zip of a text and a tuple -/
namespace LK
open PySem PySem.Spec PyProof.Rows L2 SX
/-- the signs of x beside the items of the tuple at b, in new pairs -/
def ItzST (K : PySem.W.Frag) (x : Str) (b : Addr) : It where
  go := fun i H => ∃ (ys : List V) (c : Nat) (y : V), SqT K H b ys ∧ x.cps[i]? = some c ∧ ys[i]? = some y
  yld := fun i H v H' => ∃ T c y, v = .ref T ∧ H T = none ∧ H' = upd H T (.tup [.str ⟨#[c]⟩, y]) ∧ x.cps[i]? = some c ∧ ∀ ys, SqT K H b ys → ys[i]? = some y
  stop := fun i H => ∃ ys : List V, SqT K H b ys ∧ i ≤ x.cps.size ∧ i ≤ ys.length ∧ (i = x.cps.size ∨ i = ys.length)
theorem sep_of {z TI TO i1 i2 b : Addr} (D : ZipApart z TI TO i1 i2 b b) : ZipSep2 z TI TO i1 i2 [i1] [i2, b] :=
  ⟨D.TIz, D.TOz, D.TITO, D.TIi1, by simp, by simpa using D.i1z.symm, by simpa using D.TOi1, D.TIi2, by simp, by simp [D.i2z.symm, D.l1z.symm], by simp [D.TOi2, D.l1TO.symm], by simp [D.i12, D.l1i1.symm], by simpa using D.i12.symm⟩
theorem turn_zipST {P : Program} {w : World} {K : PySem.W.Frag} {elts : List Expr} {kk : Nat} {tpos : Pos} {x : Str} {t : Tok} {b z TI TO i1 i2 : Addr} (D : ZipApart z TI TO i1 i2 b b) :
    Turn P w K (.Tuple elts kk tpos) (ItzST K x b) [z, TI, TO, i1, i2] z (fun i h => IsZip h z TI TO .none ∧ IsTupOf2 h TI (.ref i1) (.ref i2) ∧ (∃ u v, IsTupOf2 h TO u v) ∧ h.IsStrIter i1 (strIterType x) x t i ∧ h.IsTupleIter i2 b i) where
  mem := List.mem_cons_self
  obj := fun i h ⟨a1, a2, ⟨u, v, a3⟩, ⟨o1, e1, _, d1⟩, ⟨o2, e2, _, d2⟩⟩ c hc => by
    simp only [List.mem_cons, List.not_mem_nil, or_false] at hc
    rcases hc with rfl | rfl | rfl | rfl | rfl
    · exact ⟨_, a1, fun v q => nomatch q⟩
    · exact ⟨_, a2, fun v q => nomatch q⟩
    · exact ⟨_, a3, fun v q => nomatch q⟩
    · exact ⟨o1, e1, fun v q => by rw [d1] at q; cases q⟩
    · exact ⟨o2, e2, fun v q => by rw [d2] at q; cases q⟩
  keep := fun i h h' ⟨a1, a2, ⟨u, v, a3⟩, a4, a5⟩ k =>
    ⟨k z (by simp) _ a1, k TI (by simp) _ a2, ⟨u, v, k TO (by simp) _ a3⟩, (let ⟨o, e, r⟩ := a4; ⟨o, k i1 (by simp) o e, r⟩), a5.at fun o q => k i2 (by simp) o q⟩
  item := by
    intro X hP hw hK hc i pins s σ H E I hf st hg
    subst hP hw hK
    obtain ⟨a1, a2, ⟨u0, v0, a3⟩, a4, a5⟩ := st
    obtain ⟨ys, c, y, hq, hx, hy⟩ := hg
    obtain ⟨its, rv, p, _⟩ := I.tuple hq
    obtain ⟨u, hu, ru⟩ := rv.get hy
    have hzl : z < s.heap.objs.size := Heap.lt_size a1
    have D1 := Draws.text (prog := X.prog) (w := X.w) (A := X.A.in1) (I.ok.hd hc) i1 x t
    have D2 := Draws.tuple (prog := X.prog) (w := X.w) (A := X.A.in1) (I.ok.hd hc) i2 b D.l1i2 its.toArray
    have l1 : i < x.cps.size := (Array.getElem?_eq_some_iff.mp hx).1
    have l2 : i < its.toArray.size := by
      have := (List.getElem?_eq_some_iff.mp hu).1
      simpa using this
    refine wpAny_pyNext_zipD2_item (sep_of D) D1 D2 a1 a2 a3 a4 ⟨a5, p⟩ l1 l2 fun x1 x2 h' tk p1 p2 b1 b2 b3 b4 b5 b6 hk => ?_
    obtain ⟨c', tc, hc', rfl⟩ := p1
    obtain rfl : c' = c := Option.some.inj (hc'.symm.trans hx)
    obtain rfl : x2 = u := by
      have p2 : its.toArray[i]? = some x2 := p2
      rw [show its.toArray[i]? = some u by simpa using hu] at p2
      exact (Option.some.inj p2).symm
    refine ⟨_, rfl, wpAny_letOwnedTupleGo_zip (s := { s with heap := h', toks := tk }) b1 fun h'' z'' sb => ?_⟩
    have hT2 : h''.get? s.heap.objs.size = _ := (sb.2 _ (Nat.ne_of_gt hzl)).trans b5
    have new : ObjOk X.prog X.w (upd H s.heap.objs.size (.tup [.str ⟨#[c']⟩, y])) h'' s.heap.objs.size (.tup [.str ⟨#[c']⟩, y]) :=
      ⟨by show 2 ≤ sizeLine; decide, [.str ⟨#[c']⟩ tc, x2], .cons ⟨_, rfl⟩ (.cons ru .nil), ⟨_, hT2, rfl, _, rfl⟩⟩
    have I1 : Inv X pins σ (upd H s.heap.objs.size (.tup [.str ⟨#[c']⟩, y])) { s with heap := h'', toks := tk } :=
      I.turnedNew (t' := tk) (ch := [z, TI, TO, i1, i2]) (fun q o hb e => (sb.2 q (fun g => hb (by simp [g]))).trans (hk q o (fun g => hb (by simp [g])) (fun g => hb (by simp [g])) (fun g => hb (by simp [g])) (fun g => hb (by simp [g])) e)) hf (Nat.le_refl _) new
    refine ⟨.ref s.heap.objs.size, _, I1, rfl, ⟨_, c', y, rfl, I.hok.fresh (Nat.le_refl _), rfl, hx, fun l hl => by rw [I.tuple_inj hl hq]; exact hy⟩, ⟨z'', ?_, ⟨_, _, (sb.2 _ D.TOz).trans b2⟩, (let ⟨o, e, r⟩ := b3; ⟨o, (sb.2 _ D.i1z).trans e, r⟩), b4.1.at fun o q => (sb.2 _ D.i2z).trans q⟩, fun q hm => ?_⟩
    · exact (sb.2 _ D.TIz).trans (hk _ _ D.TIz D.TITO D.TIi1 D.TIi2 a2)
    · have hlt : q < s.heap.objs.size := by
        simp only [List.mem_cons, List.not_mem_nil, or_false] at hm
        rcases hm with rfl | rfl | rfl | rfl | rfl
        · exact hzl
        · exact Heap.lt_size a2
        · exact Heap.lt_size a3
        · obtain ⟨_, e, _⟩ := a4; exact Heap.lt_size e
        · obtain ⟨_, e, _⟩ := a5; exact Heap.lt_size e
      rw [upd_ne (Nat.ne_of_lt hlt)]
      exact (hf q hm).1
  done := by
    intro X hP hw hK hc i pins s σ H E I hf st hg
    subst hP hw hK
    obtain ⟨a1, a2, ⟨u0, v0, a3⟩, a4, a5⟩ := st
    obtain ⟨ys, hq, e1, e2, e3⟩ := hg
    obtain ⟨its, rv, p, _⟩ := I.tuple hq
    have hl := rv.length
    have D1 := Draws.text (prog := X.prog) (w := X.w) (A := X.A.in1) (I.ok.hd hc) i1 x t
    have D2 := Draws.tuple (prog := X.prog) (w := X.w) (A := X.A.in1) (I.ok.hd hc) i2 b D.l1i2 its.toArray
    have hz : its.toArray.size = ys.length := by simp; omega
    refine wpAny_pyNext_zipD2_end (sep_of D) D1 D2 a1 a2 a3 a4 ⟨a5, p⟩ e1 (by omega) (by omega) fun h' tk hk => ⟨rfl, ?_⟩
    exact I.turnedL (t' := tk) (ch := [z, TI, TO, i1, i2]) (fun q o hb e => hk q o (fun g => hb (by simp [g])) (fun g => hb (by simp [g])) (fun g => hb (by simp [g])) (fun g => hb (by simp [g])) e) hf
  self := fun A i s Q E st h => wpAny_pyIter_zip st.1 h
def iZipST (K : PySem.W.Frag) (ta : TA) : TI := fun σ H R => ta σ H fun vs H1 => ∃ z b ys, vs = [.str z, .ref b] ∧ SqT K H1 b ys ∧ R (ItzST K z b) H1
theorem pi_zipST {X : Cx} {e e2 : Expr} {ta : TA} {p pos tpos : Pos} {elts : List Expr} {kk : Nat} (hg : Gl X "zip") (hm : X.mg "zip" = none) (ha : PA X [e, e2] ta)
    (hs : starEach [e, e2] X.env = (false, eval e X.env) :: starEach [e2] X.env := by rfl) (hpl : (backTo pos (starEach [e2] X.env)).any (·.1) = false := by rfl) :
    PI X (.Tuple elts kk tpos) (.Call (.Name "zip" p) [e, e2] [] pos) (iZipST X.K ta) := by
  refine ⟨fun pins s σ H R I h => ?_⟩
  refine Call_ (ld_blt I hg hm PyProof.Rows.boot_zip (PyProof.Rows.callWith_type1 (thn (ha.run pos pins s σ H _ I h) fun us s1 ⟨vs, H1, I1, r1, q1⟩ => ?_) hs hpl))
  obtain ⟨z, b, ys, rfl, hq, q⟩ := q1
  obtain ⟨u1, u2, rfl, r1, r2⟩ := vals2 r1
  obtain ⟨t, rfl⟩ := r1
  cases r2
  obtain ⟨its, rv, pt, _⟩ := I1.tuple hq
  obtain ⟨o2, ho2, _⟩ := id pt
  refine zip_begins2 (begins_text z t) (begins_tuple b its.toArray) trivial pt fun h' hz hTI hTO h1 h2 hsz hk => wpAny_pyIter_zip hz ?_
  have hb : b < s1.heap.objs.size := Heap.lt_size ho2
  refine ⟨s1.heap.objs.size + 4, [s1.heap.objs.size + 4, s1.heap.objs.size + 2, s1.heap.objs.size + 3, s1.heap.objs.size, s1.heap.objs.size + 1], _, _, H1, rfl, I1.kept (t' := s1.toks) hk, turn_zipST (x := z) (t := t) (PySem.W.ktu_apart s1.heap.objs.size b b hb hb), ⟨hz, hTI, ⟨_, _, hTO⟩, ⟨_, h1, rfl, rfl⟩, ⟨_, h2, rfl, rfl⟩⟩, fun c hc => ?_, q⟩
  have hle : s1.heap.objs.size ≤ c := by
    simp only [List.mem_cons, List.not_mem_nil, or_false] at hc
    rcases hc with rfl | rfl | rfl | rfl | rfl
    · exact Nat.le_add_right _ _
    · exact Nat.le_add_right _ _
    · exact Nat.le_add_right _ _
    · exact Nat.le_refl _
    · exact Nat.le_add_right _ _
  exact I1.fpOk hle (I1.hok.fresh hle)
/-- walked over a text and a tuple of one length -/
theorem walk_zipST {K : PySem.W.Frag} {z : List Nat} {b : Addr} {ys : List V} (hl : z.length = ys.length) : Walk (ItzST K (S z) b) ys.length (fun H => SqT K H b ys) (YPair (fun i => (z[i]?).map fun c => V.str (S [c])) (fun i => ys[i]?)) := by
  have hz : (S z).cps.size = z.length := by simp [S]
  have hg : ∀ i : Nat, (S z).cps[i]? = z[i]? := fun i => by simp [S]
  refine ⟨fun i _ hi q => ⟨ys, z[i]'(by omega), ys[i], q, by rw [hg]; simp [hl, hi], by simp [hi]⟩, fun _ q => ⟨ys, q, by rw [hz, hl]; exact Nat.le_refl _, Nat.le_refl _, .inr rfl⟩, fun i H v H' _ q y => ?_⟩
  obtain ⟨T, c, y', h1, h2, h3, h4, h5⟩ := y
  exact ⟨T, .str (S [c]), y', h1, h2, h3, (by have hz4 := h4; rw [hg] at hz4; show (z[i]?).map (fun c => V.str (S [c])) = _; rw [hz4]; rfl), h5 ys q⟩
/-- a loop, by its turns -/
theorem walk_gen {J : It} {n : Nat} {G : Hp → Prop} {Y : Nat → Hp → V → Hp → Prop} (w : Walk J n G Y) {F : (Hp → Prop) → V → Hp → Prop} {H0 : Hp} {Qd : Hp → Prop} (Pv : Nat → Hp → Prop) (h0 : Pv 0 H0) (hG : ∀ i H, i ≤ n → Pv i H → G H)
    (hs : ∀ i x H H', i < n → Pv i H → Y i H x H' → F (Pv (i + 1)) x H') (hd : ∀ H, Pv n H → Qd H) :
    ∃ W : Nat → Nat → Hp → Prop, (∃ m, W 0 m H0) ∧ ∀ i m H, W i m H → (J.stop i H ∧ Qd H) ∨ (J.go i H ∧ ∃ Nx : Hp → Prop, (∀ H', Nx H' → ∃ m', m' < m ∧ W (i + 1) m' H') ∧ ∀ x H', J.yld i H x H' → F Nx x H') := by
  refine ⟨fun i m H => m = n - i ∧ i ≤ n ∧ Pv i H, ⟨n, by simp, Nat.zero_le _, h0⟩, ?_⟩
  rintro i m H ⟨rfl, hi, pv⟩
  rcases Nat.lt_or_ge i n with hlt | hge
  · exact .inr ⟨w.goes i H hlt (hG i H hi pv), Pv (i + 1), fun H' pv' => ⟨n - (i + 1), by omega, rfl, hlt, pv'⟩, fun x H' hy => hs i x H H' hlt pv (w.yields i H x H' hlt (hG i H hi pv) hy)⟩
  · have hin : i = n := by omega
    subst hin
    exact .inl ⟨w.stops H (hG i H hi pv), hd H pv⟩
end LK

set_option Elab.async false
set_option linter.all false
set_option maxRecDepth 100000
set_option maxHeartbeats 4000000
/-! Defs held by names and by dicts of the top: action = D[k]; action(x). The keys and the length of a dict of the top. -/
namespace LK
open PySem PySem.Spec PyProof.Rows L2
/-! ### a def that a local holds -/
def tCallV (X : Cx) (k : Nat) (i : Nat) (t : TA) : TE := fun σ H Q => ∃ (f : Addr) (fd : FuncData) (ps : List Str) (sp : Sp), σ[i]? = some (some (.ref f)) ∧ FnG X.prog X.w X.K X.mg X.base CX0 k f fd ps sp ∧ PySem.W.keepIn X.K (.ref f) = true ∧ Binds X.K fd ps [] ∧
  t σ H fun vs H1 => sp vs H1 Q E0
section
variable {X : Cx} {k i : Nat} {x : Str} {p pos : Pos} {e : Expr} {es : List Expr} {t : TA}
theorem pe_callV (hv : PE X (.Name x p) (tVar i)) (hr : Room k X.A) (gd : X.A.guards = some []) (ha : PA X (e :: es) t)
    (he : starEach (e :: es) X.env = (false, eval e X.env) :: starEach es X.env := by rfl) (hpl : (backTo pos (starEach es X.env)).any (·.1) = false := by rfl) : PE X (.Call (.Name x p) (e :: es) [] pos) (tCallV X k i t) := by
  refine ⟨fun pins s σ H Q I ⟨f, fd, ps, sp, eσ, F, kp, hb, h⟩ => ?_⟩
  refine wpAny_Call_Name_kw (thn (hv.run pins s σ H (fun v H' => v = V.ref f ∧ H' = H) I ⟨_, eσ, rfl, rfl⟩) fun u s1 ⟨v, H', I1, rv, ev, eH⟩ => ?_)
  subst ev eH
  obtain rfl : u = Value.ref f := rv
  exact PySem.W.callWith_K (h₀ := X.base) I1.ok.mod.kin kp (thn (ha.run pos pins s1 σ _ _ I1 h) fun us s2 ⟨vs, H2, I2, r, q⟩ => ⟨I2.kIn, run_fnG F hr gd hb pass0 I2 r q⟩) he hpl
end
/-! ### defs by name and place -/
def HasFnA (K : PySem.W.Frag) (x : Str) (st : Stmt) (f : Addr) : Prop := ∃ (oc : Value) (od an : Option Addr) (kV doc pm cdv ct : Value) (osl : Array (Option Value)),
  PySem.W.nsIn K mainGlobals x = some (some (.ref f)) ∧ K.lookup f = some ⟨oc, od, .func (PySem.W.fnOf x x (defArgs st) (defBody st) (defScope st) .none kV doc pm an cdv ct), osl⟩ ∧
  PySem.W.codeIn K cdv x = true ∧ PySem.W.keepIn K (.ref f) = true
theorem HasFnA.mk' {K : PySem.W.Frag} {x : Str} {st : Stmt} {f : Addr} {oc : Value} {od an : Option Addr} {kV doc pm cdv ct : Value} {osl : Array (Option Value)} (a : PySem.W.nsIn K mainGlobals x = some (some (.ref f)))
    (b : K.lookup f = some ⟨oc, od, .func (PySem.W.fnOf x x (defArgs st) (defBody st) (defScope st) .none kV doc pm an cdv ct), osl⟩) (c : PySem.W.codeIn K cdv x = true) (d : PySem.W.keepIn K (.ref f) = true) : HasFnA K x st f := ⟨oc, od, an, kV, doc, pm, cdv, ct, osl, a, b, c, d⟩
theorem HasFnA.fn {K : PySem.W.Frag} {x : Str} {st : Stmt} {f : Addr} (h : HasFnA K x st f) : HasFn K x st := by
  obtain ⟨oc, od, an, kV, doc, pm, cdv, ct, osl, a, b, c, d⟩ := h
  exact ⟨f, oc, od, an, kV, doc, pm, cdv, ct, osl, a, b, c, d⟩
structure UseA (P : Program) (w : World) (K : PySem.W.Frag) (mg : Str → Option Value) (base : Heap) (x : Str) (k : Nat) (ps : List Str) (sp : Sp) (f : Addr) : Prop where
  ex : ∃ fd : FuncData, FnG P w K mg base CX0 k f fd ps sp ∧ mg x = some (.ref f) ∧ PySem.W.keepIn K (.ref f) = true ∧ Binds K fd ps []
section
variable {P : Program} {w : World} {K : PySem.W.Frag} {mg : Str → Option Value} {base h : Heap}
theorem UseA.use {x : Str} {k : Nat} {ps : List Str} {sp : Sp} {f : Addr} (U : UseA P w K mg base x k ps sp f) : Use P w K mg base CX0 x k ps sp := by
  obtain ⟨fd, r⟩ := U.ex
  exact ⟨f, fd, r⟩
theorem mk_useA {x : Str} {st : Stmt} {k : Nat} {ps : List Str} {sp : Sp} {f : Addr} (F : HasFnA K x st f) (X : K.In h) (G : h.Ns mainGlobals mg)
    (hb : ∀ (kV doc pm : Value) (an : Option Addr) (cdv ct : Value) (us : List Value), us.length = ps.length → bindArgs (PySem.W.fnOf x x (defArgs st) (defBody st) (defScope st) .none kV doc pm an cdv ct) ⟨us, []⟩ = pure (ps.zip us))
    (ok : ∀ (f : Addr) (fd : FuncData), Fun K x x st f fd → FnG P w K mg base CX0 k f fd ps sp) : UseA P w K mg base x k ps sp f := by
  obtain ⟨oc, od, an, kV, doc, pm, cdv, ct, osl, e, l, c, kp⟩ := F
  have Fn := fun_mk (st := st) l c kp
  exact ⟨_, ok f _ Fn, PySem.W.mg_of X G e, kp, Fn.binds hb⟩
end
/-! ### a dict of the top whose values are defs -/
inductive FEnt (w : World) : List DictEntry → List (Str × Addr) → Prop
  | nil : FEnt w [] []
  | cons {e : DictEntry} {es : List DictEntry} {k : Str} {v : Addr} {ps : List (Str × Addr)} {t : Tok} : e.key = .str k t → e.hash = hashStr w k → e.val = .ref v → FEnt w es ps → FEnt w (e :: es) ((k, v) :: ps)
def fnKV (ps : List (Str × Addr)) : List (Key × V) := ps.map fun p => (.inr p.1, .ref p.2)
theorem FEnt.pairs {P : Program} {w : World} : ∀ {es : List DictEntry} {ps : List (Str × Addr)}, FEnt w es ps → ∃ vs : List (Key × Value), KV (fnKV ps) vs ∧ PySem.Pairs (mixKind P w) es vs ∧ vs.map (·.1) = ps.map (fun p => (Sum.inr p.1 : Key)) ∧ ∀ e ∈ es, ∃ k, (mixKind P w).is k e.key = true ∧ e.hash = (mixKind P w).hash k
  | _, _, .nil => ⟨[], .nil, .nil, rfl, fun _ h => by cases h⟩
  | _, _, .cons (k := k) (v := v) (t := t) hk hh hv r => by
    obtain ⟨vs, a, b, c, d⟩ := FEnt.pairs (P := P) r
    refine ⟨(.inr k, .ref v) :: vs, .cons ⟨rfl, rfl⟩ a, .cons (by rw [hk]; exact mixKind_str P w k t) hv b, by rw [List.map_cons, c]; rfl, fun e he => ?_⟩
    rcases List.mem_cons.mp he with rfl | he
    · exact ⟨.inr k, by rw [hk]; exact mixKind_str P w k t, hh⟩
    · exact d e he
theorem HasDct.mkF {P : Program} {w : World} {K : PySem.W.Frag} {x : Str} {ps : List (Str × Addr)} {a : Addr} {es : Array DictEntry} {ep : Nat} (h : PySem.W.nsIn K mainGlobals x = some (some (.ref a)))
    (b : K.lookup a = some { cls := .type "dict", data := .dict es ep }) (hs : (a == sysModules) = false) (c : FEnt w es.toList ps) (nd : (ps.map (·.1)).Nodup) : HasDct P w K x (fnKV ps) := by
  obtain ⟨vs, v1, v2, v3, v4⟩ := FEnt.pairs (P := P) c
  refine ⟨a, h, hs, vs, v1, fun hh hK => ⟨_, es, ep, hK a _ b, ⟨rfl, rfl, rfl⟩, rfl, fun e he => v4 e (Array.mem_toList_iff.mpr he), v2, ?_⟩⟩
  rw [v3]
  have : ps.map (fun p => (Sum.inr p.1 : Key)) = (ps.map (·.1)).map Sum.inr := by rw [List.map_map]; rfl
  rw [this]
  exact nodup_inr nd
/-! ### list(D), len(D) -/
def rListK (P : Program) (w : World) (K : PySem.W.Frag) : List V → Hp → VK → Prop := fun xs H Q => ∃ p kvs, xs = [.ref p] ∧ KDct P w K p kvs ∧ kvs.length ≤ 1000 ∧ ∀ q, H q = none → Q (.ref q) (upd H q (.lst (kvs.map fun kv => kV kv.1)))
theorem call_listK {X : Cx} (hc : X.calm = true) : CallR X (.type "list") (rListK X.prog X.w X.K) := by
  intro pins s σ H xs us Q I r h
  obtain ⟨p, kvs, rfl, ⟨hsys, vs, rel, dd⟩, hz, q⟩ := h
  obtain ⟨u, rfl, rx⟩ := vals1 r
  obtain rfl : u = Value.ref p := rx
  obtain ⟨ep, hat⟩ := (dd _ I.kIn).dictAt
  have hl : kvs.length = vs.length := Paired.length rel
  have hz2 : vs.length ≤ sizeLine := by rw [← hl]; exact Nat.le_trans hz (by decide)
  refine PySem.W.kdl_call (PySem.W.kdl_dict (knd := mixKind X.prog X.w) (kvs := vs) (ep := ep) hsys) (I.ok.hd hc) hat hz2 fun h2 tk acc c kk hS it => ?_
  have ok : ObjOk X.prog X.w (upd H s.heap.objs.size (.lst (kvs.map fun kv => kV kv.1))) h2 s.heap.objs.size (.lst (kvs.map fun kv => kV kv.1)) := by
    refine ⟨by rw [List.length_map, hl]; exact hz2, acc.toList, c, ?_, by rw [Array.toArray_toList]; exact hS⟩
    have el : acc.toList.length = acc.size := by simp
    refine vals_of_at (by rw [List.length_map, el, it.1, hl]) fun j x y h1 h2 => ?_
    obtain ⟨k, z, hkz, hi⟩ := it.2 j y (by rw [← Array.getElem?_toList]; exact h2)
    have e1 : (kvs.map (·.1))[j]? = some k := by
      rw [KV.keys rel, List.getElem?_map, hkz]
      rfl
    have e3 : (kvs.map fun kv => kV kv.1) = (kvs.map (·.1)).map kV := by rw [List.map_map]; rfl
    rw [e3, List.getElem?_map, e1] at h1
    cases h1
    exact keyIs_rel hi
  exact ⟨.ref s.heap.objs.size, _, I.laid kk (Nat.le_refl _) ok, rfl, q _ (I.hok.fresh (Nat.le_refl _))⟩
theorem call_lenDK {X : Cx} : CallR X (.builtin "len") (fun xs H Q => ∃ p kvs, xs = [V.ref p] ∧ KDct X.prog X.w X.K p kvs ∧ kvs.length ≤ 1000 ∧ Q (.int (kvs.length : Nat)) H) := by
  intro pins s σ H xs us Q I r h
  obtain ⟨p, kvs, rfl, ⟨hsys, vs, rel, dd⟩, hz, q⟩ := h
  obtain ⟨u, rfl, rx⟩ := vals1 r
  obtain rfl : u = Value.ref p := rx
  have hl : kvs.length = vs.length := Paired.length rel
  refine call_len_dict hsys (dd _ I.kIn) (by rw [← hl]; omega) ?_
  exact ⟨.int (kvs.length : Nat), H, I.tok _, ⟨_, by rw [hl]⟩, q⟩
end LK

set_option Elab.async false
set_option linter.all false
set_option maxRecDepth 100000
set_option maxHeartbeats 4000000
/-! enumerate(zip(x, y)) of two lists: the pair that zip gave out is held by enumerate's, so zip's next step is taken from a zip that has given out nothing, or that still knows what it gave out, dead or alive -/
namespace LK
open PySem PySem.Spec PyProof.Rows L2
open Sem (wp)
section
variable {prog : Program} {w : World} {A : Around} {E : Value → Shared → Prop} {s : Shared} {z TI TO i1 i2 l1 l2 : Addr}
abbrev IsZ (h : Heap) (z TI TO : Addr) (f0 : Value) (f : Bool) : Prop := h.get? z = some { cls := .type "zip", dict := none, data := .fields #[f0, .bool f, .bool false, .ref TI, .ref TO], slots := #[] }
def ZAny (h : Heap) (z TI TO : Addr) : Prop := ∃ f0 f, IsZ h z TI TO f0 f ∧ (f0 = .none ∨ ∃ T : Addr, f0 = rawInt T)
def ZFree (h : Heap) (f0 : Value) : Prop := f0 = .none ∨ ∃ T : Addr, f0 = rawInt T ∧ h.get? T = none
theorem z_free {f0 : Value} {f : Bool} {Q : Bool → Shared → Prop} (hz : IsZ s.heap z TI TO f0 f) (hf : ZFree s.heap f0) (h : Q true s) : wpAny (model prog w) A (Builtin.SmallTypes.ownedTupleIsFree (.ref z)) Q E s := by
  unfold Builtin.SmallTypes.ownedTupleIsFree
  rcases hf with rfl | ⟨T, rfl, hT⟩
  · exact wpAny_bind (wpAny_field hz rfl (x := .none) rfl (wpAny_pure h))
  · refine wpAny_bind (wpAny_field hz rfl (x := rawInt T) rfl ?_)
    show wpAny _ _ (loadIfAlive ((T : Int).toNat) >>= _) _ _ _
    rw [Int.toNat_natCast]
    refine wpAny_bind ?_
    have dead : ∀ {R : Option Obj → Shared → Prop}, R none s → wpAny (model prog w) A (loadIfAlive T) R E s := fun {R} h => by
      have h' : R (s.heap.get? T) s := by rw [hT]; exact h
      exact fun _ _ _ => h'
    refine dead ?_
    simp only [Option.isNone_none, if_true]
    exact wpAny_pure h
/-- the next pair of a zip whose own tuple is free -/
theorem zf_item {f0 : Value} {f : Bool} {k1 k2 : Nat} {xs ys : Array Value} {x y a b : Value} {Q : Value → Shared → Prop} (D : ZipApart z TI TO i1 i2 l1 l2)
    (hz : IsZ s.heap z TI TO f0 f) (hf : ZFree s.heap f0) (hTI : IsPair s.heap TI (.ref i1) (.ref i2)) (hTO : IsPair s.heap TO a b)
    (h1 : s.heap.IsListIter i1 l1 k1) (h2 : s.heap.IsListIter i2 l2 k2) (hl1 : s.heap.IsList l1 xs) (hl2 : s.heap.IsList l2 ys) (hx : xs[k1]? = some x) (hy : ys[k2]? = some y)
    (hQ : ∀ h', IsZ h' z TI TO (rawInt s.heap.objs.size) false → IsPair h' TO x y → h'.IsListIter i1 l1 (k1 + 1) → h'.IsListIter i2 l2 (k2 + 1) → IsPair h' s.heap.objs.size x y → h'.objs.size = s.heap.objs.size + 1 →
      (∀ c o, c ≠ z → c ≠ TO → c ≠ i1 → c ≠ i2 → s.heap.get? c = some o → h'.get? c = some o) → Q (.ref s.heap.objs.size) { s with heap := h' }) :
    wpAny (model prog w) A (Builtin.«zip.__next__» ⟨[.ref z], []⟩) (fun fin s' => ∃ v, fin = .done (.ret v) ∧ Q v s') E s := by
  show wpAny _ _ (field (.ref z) 2 >>= _) _ _ _
  refine wpAny_bind (wpAny_field hz rfl (x := .bool false) rfl ?_)
  show wpAny _ _ (field (.ref z) 3 >>= _) _ _ _
  refine wpAny_bind (wpAny_field hz rfl (x := .ref TI) rfl ?_)
  refine wpAny_bind (wpAny_seqItems hTI rfl ?_)
  show wpAny _ _ (Builtin.SmallTypes.ownedTupleIsFree (.ref z) >>= _) _ _ _
  refine wpAny_bind (z_free hz hf ?_)
  simp only [if_true]
  refine wpAny_bind (wpAny_rule ?_)
  refine wpAny_bind (wpAny_field hz rfl (x := .ref TO) rfl ?_)
  refine wpAny_bind (wpAny_setField_rec hz (by simp) fun p1 z1 e1 => ?_)
  replace z1 : IsZ p1 z TI TO .ellipsis f := z1
  refine wpAny_bind ?_
  simp only [List.zipIdx_cons, List.zipIdx_nil, List.forIn_cons, List.forIn_nil]
  refine wpAny_bind (wpAny_bind (wpAny_onRaise ?_))
  show wpAny _ _ (Builtin.SmallTypes.nextOf (.ref i1) >>= _) _ _ _
  refine wpAny_bind (wpAny_nextOf_list_item (h1.extBut e1.extBut D.i1z) (hl1.extBut e1.extBut D.l1z) hx fun p2 q1 e2 => wpAny_pure ?_)
  have t2 : IsPair p2 TO a b := e2.extBut _ _ D.TOi1 (e1.extBut _ _ D.TOz hTO)
  refine wpAny_bind (wpAny_seqItems t2 rfl ?_)
  refine wpAny_bind (wpAny_updateSeq_pair t2 fun p3 t3 e3 => ?_)
  replace t3 : IsPair p3 TO x b := t3
  refine wpAny_bind (wpAny_letGo (wpAny_pure ?_))
  refine wpAny_bind (wpAny_bind (wpAny_onRaise ?_))
  show wpAny _ _ (Builtin.SmallTypes.nextOf (.ref i2) >>= _) _ _ _
  have g2 := ((h2.extBut e1.extBut D.i2z).extBut e2.extBut D.i12.symm).extBut e3.extBut D.TOi2.symm
  have m2 := ((hl2.extBut e1.extBut D.l2z).extBut e2.extBut D.l2i1).extBut e3.extBut D.l2TO
  refine wpAny_bind (wpAny_nextOf_list_item g2 m2 hy fun p4 q2 e4 => wpAny_pure ?_)
  have t4 : IsPair p4 TO x b := e4.extBut _ _ D.TOi2 t3
  refine wpAny_bind (wpAny_seqItems t4 rfl ?_)
  refine wpAny_bind (wpAny_updateSeq_pair t4 fun p5 t5 e5 => ?_)
  replace t5 : IsPair p5 TO x y := t5
  refine wpAny_bind (wpAny_letGo (wpAny_pure (wpAny_pure ?_)))
  refine wpAny_bind (wpAny_seqItems t5 rfl ?_)
  refine wpAny_bind (wpAny_newTuple ?_)
  have hsz : p5.objs.size = s.heap.objs.size := by rw [e5.1, e4.1, e3.1, e2.1, e1.1]
  have z5 : IsZ p5 z TI TO .ellipsis f := e5.extBut _ _ D.TOz.symm (e4.extBut _ _ D.i2z.symm (e3.extBut _ _ D.TOz.symm (e2.extBut _ _ D.i1z.symm z1)))
  have k5 : ∀ c o, c ≠ z → c ≠ TO → c ≠ i1 → c ≠ i2 → s.heap.get? c = some o → p5.get? c = some o := fun c o c1 c2 c3 c4 q => e5.extBut _ _ c2 (e4.extBut _ _ c4 (e3.extBut _ _ c2 (e2.extBut _ _ c3 (e1.extBut _ _ c1 q))))
  have a1 : p5.IsListIter i1 l1 (k1 + 1) := ((q1.extBut e3.extBut D.TOi1.symm).extBut e4.extBut D.i12).extBut e5.extBut D.TOi1.symm
  have a2 : p5.IsListIter i2 l2 (k2 + 1) := q2.extBut e5.extBut D.TOi2.symm
  have hzl : z < p5.objs.size := Heap.lt_size z5
  show wpAny _ _ (Builtin.SmallTypes.ownedTupleHandOut (.ref z) (.ref p5.objs.size) >>= _) _ _ _
  refine wpAny_bind ?_
  unfold Builtin.SmallTypes.ownedTupleHandOut
  have z6 : IsZ (p5.push { cls := .type "tuple", data := .seq #[x, y] }) z TI TO .ellipsis f := Heap.get?_push_of_some _ z5
  refine wpAny_bind (wpAny_setField_rec z6 (by simp) fun p7 z7 e7 => ?_)
  replace z7 : IsZ p7 z TI TO (rawInt p5.objs.size) f := z7
  refine wpAny_setField_rec z7 (by simp) fun p8 z8 e8 => ?_
  replace z8 : IsZ p8 z TI TO (rawInt p5.objs.size) false := z8
  have up : ∀ c o, c ≠ z → p5.get? c = some o → p8.get? c = some o := fun c o c1 q => e8.extBut _ _ c1 (e7.extBut _ _ c1 (Heap.get?_push_of_some _ q))
  have t8 : IsPair p8 p5.objs.size x y := e8.extBut _ _ (Nat.ne_of_gt hzl) (e7.extBut _ _ (Nat.ne_of_gt hzl) (Heap.get?_push_size _ rfl))
  have s8 : p8.objs.size = p5.objs.size + 1 := by rw [e8.1, e7.1, Heap.size_push]
  rw [hsz] at z8 t8 s8
  refine wpAny_pure ⟨_, rfl, ?_⟩
  show Q (.ref p5.objs.size) _
  rw [hsz]
  exact hQ p8 z8 (up _ _ D.TOz t5) (a1.at fun o q => up _ o D.i1z q) (a2.at fun o q => up _ o D.i2z q) t8 s8 fun c o c1 c2 c3 c4 q => up c o c1 (k5 c o c1 c2 c3 c4 q)
/-- the first list is at its end -/
theorem zf_end {f0 : Value} {f : Bool} {k1 : Nat} {xs : Array Value} {Q : Fin → Shared → Prop} (hh : A.handled = none) (D : ZipApart z TI TO i1 i2 l1 l2)
    (hz : IsZ s.heap z TI TO f0 f) (hf : ZFree s.heap f0) (hTI : IsPair s.heap TI (.ref i1) (.ref i2))
    (h1 : s.heap.IsListIter i1 l1 k1) (hl1 : s.heap.IsList l1 xs) (hx : xs[k1]? = none)
    (hE : ∀ h' e, (∀ c o, c ≠ z → c ≠ i1 → s.heap.get? c = some o → h'.get? c = some o) → (∃ o, h'.get? e = some o ∧ o.cls = .type "StopIteration") → E (.ref e) { s with heap := h' }) :
    wpAny (model prog w) A (Builtin.«zip.__next__» ⟨[.ref z], []⟩) Q E s := by
  show wpAny _ _ (field (.ref z) 2 >>= _) _ _ _
  refine wpAny_bind (wpAny_field hz rfl (x := .bool false) rfl ?_)
  show wpAny _ _ (field (.ref z) 3 >>= _) _ _ _
  refine wpAny_bind (wpAny_field hz rfl (x := .ref TI) rfl ?_)
  refine wpAny_bind (wpAny_seqItems hTI rfl ?_)
  show wpAny _ _ (Builtin.SmallTypes.ownedTupleIsFree (.ref z) >>= _) _ _ _
  refine wpAny_bind (z_free hz hf ?_)
  simp only [if_true]
  refine wpAny_bind (wpAny_rule ?_)
  refine wpAny_bind (wpAny_field hz rfl (x := .ref TO) rfl ?_)
  refine wpAny_bind (wpAny_setField_rec hz (by simp) fun p1 z1 e1 => ?_)
  replace z1 : IsZ p1 z TI TO .ellipsis f := z1
  refine wpAny_bind ?_
  simp only [List.zipIdx_cons, List.zipIdx_nil, List.forIn_cons, List.forIn_nil]
  refine wpAny_bind (wpAny_bind (wpAny_onRaise ?_))
  show wpAny _ _ (Builtin.SmallTypes.nextOf (.ref i1) >>= _) _ _ _
  refine wpAny_bind (wpAny_nextOf_list_end hh (h1.extBut e1.extBut D.i1z) (hl1.extBut e1.extBut D.l1z) hx fun p2 e e2 he => ?_)
  obtain ⟨oe, hoe, hce⟩ := he
  have z2 : IsZ p2 z TI TO .ellipsis f := e2 _ _ D.i1z.symm z1
  have hez : e ≠ z := fun q => by subst q; rw [z2] at hoe; cases hoe; simp at hce
  exact wpAny_setField_rec z2 (by simp) fun p3 _ e3 => hE p3 e (fun c o c1 c3 q => e3.extBut _ _ c1 (e2 _ _ c3 (e1.extBut _ _ c1 q))) ⟨oe, e3.extBut _ _ hez hoe, hce⟩
theorem ZAny.split {h : Heap} (H : ZAny h z TI TO) : (∃ f0 f, IsZ h z TI TO f0 f ∧ ZFree h f0) ∨ ∃ (T : Addr) (f : Bool) (o : Obj), IsZipHeld h z TI TO T f ∧ h.get? T = some o := by
  obtain ⟨f0, f, hz, rfl | ⟨T, rfl⟩⟩ := H
  · exact .inl ⟨_, f, hz, .inl rfl⟩
  · cases e : h.get? T with
    | none => exact .inl ⟨_, f, hz, .inr ⟨T, rfl, e⟩⟩
    | some o => exact .inr ⟨T, f, o, hz, e⟩
theorem za_next {k1 k2 : Nat} {xs ys : Array Value} {x y a b : Value} {Q : Value → Shared → Prop} (D : ZipApart z TI TO i1 i2 l1 l2)
    (hz : ZAny s.heap z TI TO) (hTI : IsPair s.heap TI (.ref i1) (.ref i2)) (hTO : IsPair s.heap TO a b)
    (h1 : s.heap.IsListIter i1 l1 k1) (h2 : s.heap.IsListIter i2 l2 k2) (hl1 : s.heap.IsList l1 xs) (hl2 : s.heap.IsList l2 ys) (hx : xs[k1]? = some x) (hy : ys[k2]? = some y)
    (hQ : ∀ h', ZAny h' z TI TO → (∃ a b, IsPair h' TO a b) → h'.IsListIter i1 l1 (k1 + 1) → h'.IsListIter i2 l2 (k2 + 1) → IsPair h' s.heap.objs.size x y → h'.objs.size = s.heap.objs.size + 1 →
      (∀ c o, c ≠ z → c ≠ TO → c ≠ i1 → c ≠ i2 → s.heap.get? c = some o → h'.get? c = some o) → Q (.ref s.heap.objs.size) { s with heap := h' }) :
    wpAny (model prog w) A (Builtin.SmallTypes.nextOf (.ref z)) Q E s := by
  have hTy : s.TypeIs (.ref z) "zip" := by obtain ⟨_, _, h, _⟩ := hz; exact ⟨_, h, rfl⟩
  unfold Builtin.SmallTypes.nextOf
  refine wpAny_bind (wpAny_callSpecial?_slot (name := Str.ofString "__next__") hTy F.slot_zip_next (wpAny_call_entry F.slot_zip_next hTy F.entry_zip_next ?_ (F.args_zip_next_1 _)))
  rcases hz.split with ⟨f0, f, hz, hf⟩ | ⟨T, f, o, hz, hT⟩
  · exact zf_item D hz hf hTI hTO h1 h2 hl1 hl2 hx hy fun h' a1 a2 a3 a4 a5 a6 a7 => wpAny_pure (hQ h' ⟨_, _, a1, .inr ⟨_, rfl⟩⟩ ⟨_, _, a2⟩ a3 a4 a5 a6 a7)
  · exact zip_next_item_held D hz hT hTI h1 h2 hl1 hl2 hx hy fun h' a1 a3 a4 a5 a6 a7 => wpAny_pure (hQ h' ⟨_, _, a1, .inr ⟨_, rfl⟩⟩ ⟨_, _, a7 _ _ D.TOz D.TOi1 D.TOi2 hTO⟩ a3 a4 a5 a6 fun c o c1 _ c3 c4 q => a7 c o c1 c3 c4 q)
theorem za_end {k1 k2 : Nat} {xs ys : Array Value} {Q : Value → Shared → Prop} (hh : A.handled = none) (D : ZipApart z TI TO i1 i2 l1 l2)
    (hz : ZAny s.heap z TI TO) (hTI : IsPair s.heap TI (.ref i1) (.ref i2)) (h1 : s.heap.IsListIter i1 l1 k1) (h2 : s.heap.IsListIter i2 l2 k2) (hl1 : s.heap.IsList l1 xs) (hl2 : s.heap.IsList l2 ys) (hx : xs[k1]? = none)
    (hE : ∀ h' e, (∀ c o, c ≠ z → c ≠ i1 → c ≠ i2 → s.heap.get? c = some o → h'.get? c = some o) → (∃ o, h'.get? e = some o ∧ o.cls = .type "StopIteration") → E (.ref e) { s with heap := h' }) :
    wpAny (model prog w) A (Builtin.SmallTypes.nextOf (.ref z)) Q E s := by
  have hTy : s.TypeIs (.ref z) "zip" := by obtain ⟨_, _, h, _⟩ := hz; exact ⟨_, h, rfl⟩
  unfold Builtin.SmallTypes.nextOf
  refine wpAny_bind (wpAny_callSpecial?_slot (name := Str.ofString "__next__") hTy F.slot_zip_next (wpAny_call_entry F.slot_zip_next hTy F.entry_zip_next ?_ (F.args_zip_next_1 _)))
  rcases hz.split with ⟨f0, f, hz, hf⟩ | ⟨T, f, o, hz, hT⟩
  · exact zf_end hh D hz hf hTI h1 hl1 hx fun h' e a1 a2 => hE h' e (fun c o c1 c2 _ q => a1 c o c1 c2 q) a2
  · exact zip_next_end_held hh D hz hT hTI h1 h2 hl1 hl2 (.inl hx) fun h' e a1 a2 => hE h' e a1 a2
/-- enumerate's next step over such a zip -/
theorem ez_next {e : Addr} {i : Int} {old : Value} {k1 k2 : Nat} {xs ys : Array Value} {x y a b : Value} {Q : Value → Shared → Prop} (D : ZipApart z TI TO i1 i2 l1 l2) (ez : e ≠ z) (eO : e ≠ TO) (e1 : e ≠ i1) (e2 : e ≠ i2)
    (he : IsEnum s.heap e z i old) (hz : ZAny s.heap z TI TO) (hTI : IsPair s.heap TI (.ref i1) (.ref i2)) (hTO : IsPair s.heap TO a b)
    (h1 : s.heap.IsListIter i1 l1 k1) (h2 : s.heap.IsListIter i2 l2 k2) (hl1 : s.heap.IsList l1 xs) (hl2 : s.heap.IsList l2 ys) (hx : xs[k1]? = some x) (hy : ys[k2]? = some y)
    (hQ : ∀ p1 h' tk, ZAny p1 z TI TO → (∃ a b, IsPair p1 TO a b) → p1.IsListIter i1 l1 (k1 + 1) → p1.IsListIter i2 l2 (k2 + 1) → IsPair p1 s.heap.objs.size x y → p1.objs.size = s.heap.objs.size + 1 →
      (∀ c o, c ≠ z → c ≠ TO → c ≠ i1 → c ≠ i2 → s.heap.get? c = some o → p1.get? c = some o) →
      IsEnumOut h' e z (i + 1) (.ref s.heap.objs.size) p1.objs.size → h'.get? p1.objs.size = some { cls := .type "tuple", data := .seq #[.int i tk, .ref s.heap.objs.size] } →
      (∀ c o, c ≠ e → p1.get? c = some o → h'.get? c = some o) → Q (.ref p1.objs.size) { s with heap := h', toks := tk + 1 }) :
    wpAny (model prog w) A (Builtin.«enumerate.__next__» ⟨[.ref e], []⟩) (fun fin s' => ∃ v, fin = .done (.ret v) ∧ Q v s') E s := by
  obtain ⟨hp, g, d, tk, os⟩ := s
  show wpAny _ _ (field (.ref e) 2 >>= _) _ _ _
  refine wpAny_bind (wpAny_field he rfl (x := .ref z) rfl ?_)
  refine wpAny_bind (za_next D hz hTI hTO h1 h2 hl1 hl2 hx hy fun p1 y1 y2 y3 y4 y5 y6 y7 => ?_)
  replace y5 : IsPair p1 hp.objs.size x y := y5
  replace y6 : p1.objs.size = hp.objs.size + 1 := y6
  replace y7 : ∀ c o, c ≠ z → c ≠ TO → c ≠ i1 → c ≠ i2 → hp.get? c = some o → p1.get? c = some o := y7
  have g1 : IsEnum p1 e z i old := y7 _ _ ez eO e1 e2 he
  show wpAny _ _ (field (.ref e) 3 >>= _) _ _ ⟨p1, g, d, tk, os⟩
  refine wpAny_bind (wpAny_field g1 rfl (x := rawInt i) rfl ?_)
  show wpAny _ _ (field (.ref e) 4 >>= _) _ _ ⟨p1, g, d, tk, os⟩
  refine wpAny_bind (wpAny_field g1 rfl (x := .none) rfl ?_)
  show wpAny _ _ (mkInt i >>= _) _ _ ⟨p1, g, d, tk, os⟩
  refine wpAny_bind (wpAny_mkInt ?_)
  show wpAny _ _ (setField (.ref e) 3 (rawInt (i + 1)) >>= _) _ _ ⟨p1, g, d, tk + 1, os⟩
  refine wpAny_bind (wpAny_setField_rec g1 (by simp) fun p2 g2 u2 => ?_)
  replace u2 : Heap.SameBut e p1 p2 := u2
  replace g2 : IsEnum p2 e z (i + 1) old := g2
  show wpAny _ _ (setField (.ref e) 4 .none >>= _) _ _ ⟨p2, g, d, tk + 1, os⟩
  refine wpAny_bind (wpAny_setField_rec g2 (by simp) fun p3 g3 u3 => ?_)
  replace u3 : Heap.SameBut e p2 p3 := u3
  replace g3 : IsEnum p3 e z (i + 1) old := g3
  show wpAny _ _ (newTuple [.int i tk, .ref hp.objs.size] >>= _) _ _ ⟨p3, g, d, tk + 1, os⟩
  refine wpAny_bind (wpAny_newTuple ?_)
  have hsz : p3.objs.size = p1.objs.size := by rw [u3.1, u2.1]
  have g4 : IsEnum (p3.push { cls := .type "tuple", data := .seq #[.int i tk, .ref hp.objs.size] }) e z (i + 1) old := Heap.get?_push_of_some _ g3
  have t4 : (p3.push { cls := .type "tuple", data := .seq #[.int i tk, .ref hp.objs.size] }).get? p1.objs.size = some { cls := .type "tuple", data := .seq #[.int i tk, .ref hp.objs.size] } := by rw [← hsz]; exact Heap.get?_push_size _ rfl
  have k4 : ∀ c o, c ≠ e → p1.get? c = some o → (p3.push { cls := .type "tuple", data := .seq #[.int i tk, .ref hp.objs.size] }).get? c = some o := fun c o hc q => Heap.get?_push_of_some _ (u3.extBut c o hc (u2.extBut c o hc q))
  have hel : e < p1.objs.size := Heap.lt_size g1
  show wpAny _ _ (Builtin.SmallTypes.ownedTupleIsFree (.ref e) >>= _) _ _ ⟨p3.push { cls := .type "tuple", data := .seq #[.int i tk, .ref hp.objs.size] }, g, d, tk + 1, os⟩
  rw [hsz]
  generalize p3.push { cls := .type "tuple", data := .seq #[.int i tk, .ref hp.objs.size] } = p4 at g4 t4 k4
  refine wpAny_bind ?_
  unfold Builtin.SmallTypes.ownedTupleIsFree
  refine wpAny_bind (wpAny_field g4 rfl (x := .none) rfl (wpAny_pure ?_))
  simp only [if_true]
  refine wpAny_bind (wpAny_rule ?_)
  refine wpAny_bind (wpAny_field g4 rfl (x := old) rfl ?_)
  refine wpAny_bind (wpAny_setField_rec g4 (by simp) fun p5 g5 u5 => ?_)
  replace u5 : Heap.SameBut e p4 p5 := u5
  replace g5 : IsEnum p5 e z (i + 1) (.ref hp.objs.size) := g5
  show wpAny _ _ (Builtin.SmallTypes.ownedTupleHandOut (.ref e) (.ref p1.objs.size) >>= _) _ _ ⟨p5, g, d, tk + 1, os⟩
  refine wpAny_bind ?_
  unfold Builtin.SmallTypes.ownedTupleHandOut
  refine wpAny_bind (wpAny_setField_rec g5 (by simp) fun p6 g6 u6 => ?_)
  replace u6 : Heap.SameBut e p5 p6 := u6
  replace g6 : IsEnumOut p6 e z (i + 1) (.ref hp.objs.size) p1.objs.size := g6
  refine wpAny_setField_rec g6 (by simp) fun p7 g7 u7 => ?_
  replace u7 : Heap.SameBut e p6 p7 := u7
  replace g7 : IsEnumOut p7 e z (i + 1) (.ref hp.objs.size) p1.objs.size := g7
  have k7 : ∀ c o, c ≠ e → p4.get? c = some o → p7.get? c = some o := fun c o hc q => u7.extBut c o hc (u6.extBut c o hc (u5.extBut c o hc q))
  exact wpAny_bind (wpAny_letGo (wpAny_pure ⟨_, rfl, hQ p1 p7 tk y1 y2 y3 y4 y5 y6 y7 g7 (k7 _ _ (Nat.ne_of_gt hel) t4) fun c o hc q => k7 c o hc (k4 c o hc q)⟩))
end
open AutoSeq1 (wpAny_loadPart')
theorem meets_enumZ (z TI TO : Addr) :
    Meets (Builtin.«enumerate.__new__» ⟨[.type "enumerate", .ref z], []⟩) (fun _ R s => IsZip s.heap z TI TO .none ∧ R (.ok (.ret (.ref s.heap.objs.size))) { s with heap := s.heap.push (enumObj z) }) :=
  .of_wp fun prog w A R s h => by
    obtain ⟨hp, g, d, tk, os⟩ := s
    obtain ⟨hl, h⟩ := h
    have hsub := sub_enumerate
    have hz : IsZip (Shared.heap ⟨hp, g, d, tk, os⟩) z TI TO .none := hl
    wp_walk using wpAny_loadPart' hl
    refine wpAny_stack_any fun st => wpAny_pure ?_
    split
    · rename_i c _ _ _ _ _
      cases (c == Value.type "enumerate") <;> (wp_walk using wpAny_loadPart' hl, wpAny_pyIter_zip hz; exact ⟨_, rfl, h⟩)
    · wp_walk using wpAny_loadPart' hl, wpAny_pyIter_zip hz
      exact ⟨_, rfl, h⟩
section
variable {prog : Program} {w : World} {A : Around} {E : Value → Shared → Prop} {s : Shared} {z TI TO i1 i2 l1 l2 : Addr}
theorem call_enumZ {Q : Value → Shared → Prop} (hz : IsZip s.heap z TI TO .none)
    (h : ∀ h', IsEnum h' s.heap.objs.size z 0 .none → (∀ b o, s.heap.get? b = some o → h'.get? b = some o) → Q (.ref s.heap.objs.size) { s with heap := h' }) :
    wpAny (model prog w) A (call (.type "enumerate") [.ref z]) Q E s := by
  refine callType_new F.called_enumerate (by decide) (F.typeCall_enumerate_1 _) (F.newCall_enumerate_1 _) (fun obj => F.args_object_init_2 obj _) F.entry_enumerate_new (meets_enumZ z TI TO) ⟨hz, ?_⟩
  have he : IsEnum (s.heap.push (enumObj z)) s.heap.objs.size z 0 .none := Heap.get?_push_size _ rfl
  exact ⟨⟨_, he, rfl⟩, h _ he fun b o x => Heap.get?_push_of_some _ x⟩
end
/-- the lists at a and b as they stand at each turn, the items in a new pair, that in a new pair with its place -/
def ItzE (K : PySem.W.Frag) (a b : Addr) : It where
  go := fun i H => ∃ (xs ys : List V) (x y : V), SqL K H a xs ∧ SqL K H b ys ∧ xs[i]? = some x ∧ ys[i]? = some y
  yld := fun i H v H' => ∃ T U x y, v = .ref U ∧ H T = none ∧ H U = none ∧ T ≠ U ∧ H' = upd (upd H T (.tup [x, y])) U (.tup [.int (i : Nat), .ref T]) ∧ (∀ xs, SqL K H a xs → xs[i]? = some x) ∧ ∀ ys, SqL K H b ys → ys[i]? = some y
  stop := fun i H => ∃ xs ys : List V, SqL K H a xs ∧ SqL K H b ys ∧ xs.length ≤ i
theorem turn_enumZ {P : Program} {w : World} {K : PySem.W.Frag} {elts : List Expr} {kk : Nat} {tpos : Pos} {a b e z TI TO i1 i2 : Addr} (D : ZipApart z TI TO i1 i2 a b) (ez : e ≠ z) (eI : e ≠ TI) (eO : e ≠ TO) (e1 : e ≠ i1) (e2 : e ≠ i2) :
    Turn P w K (.Tuple elts kk tpos) (ItzE K a b) [e, z, TI, TO, i1, i2] e (fun i h => (∃ old, IsEnum h e z ((i : Nat) : Int) old) ∧ ZAny h z TI TO ∧ IsPair h TI (.ref i1) (.ref i2) ∧ (∃ x y, IsPair h TO x y) ∧ h.IsListIter i1 a i ∧ h.IsListIter i2 b i) where
  mem := by simp
  obj := fun i h st c hc => by
    obtain ⟨⟨old, he⟩, ⟨f0, f, hz, _⟩, hTI, ⟨x, y, hTO⟩, ⟨o1, q1, _, d1⟩, ⟨o2, q2, _, d2⟩⟩ := st
    have e' : c = e ∨ c = z ∨ c = TI ∨ c = TO ∨ c = i1 ∨ c = i2 := by simpa using hc
    rcases e' with q | q | q | q | q | q
    · rw [q]; exact ⟨_, he, fun v q => nomatch q⟩
    · rw [q]; exact ⟨_, hz, fun v q => nomatch q⟩
    · rw [q]; exact ⟨_, hTI, fun v q => nomatch q⟩
    · rw [q]; exact ⟨_, hTO, fun v q => nomatch q⟩
    · rw [q]; exact ⟨o1, q1, fun v q => by rw [d1] at q; cases q⟩
    · rw [q]; exact ⟨o2, q2, fun v q => by rw [d2] at q; cases q⟩
  keep := fun i h h' st k => by
    obtain ⟨⟨old, he⟩, ⟨f0, f, hz, hf⟩, hTI, ⟨x, y, hTO⟩, h1, h2⟩ := st
    exact ⟨⟨old, k e (by simp) _ he⟩, ⟨f0, f, k z (by simp) _ hz, hf⟩, k TI (by simp) _ hTI, ⟨x, y, k TO (by simp) _ hTO⟩, h1.at fun o q => k i1 (by simp) o q, h2.at fun o q => k i2 (by simp) o q⟩
  item := by
    intro X hP hw hK hc i pins s σ H E I hf st hg
    subst hP hw hK
    obtain ⟨⟨old, he⟩, hz, hTI, ⟨x0, y0, hTO⟩, h1, h2⟩ := st
    obtain ⟨xs, ys, x, y, hqx, hqy, hx, hy⟩ := hg
    obtain ⟨its, rv, p, _⟩ := I.list hqx
    obtain ⟨its2, rv2, p2, _⟩ := I.list hqy
    obtain ⟨u, hu, ru⟩ := rv.get hx
    obtain ⟨u2, hu2, ru2⟩ := rv2.get hy
    have hTy : s.TypeIs (.ref e) "enumerate" := ⟨_, he, rfl⟩
    have cell : ∀ c ∈ [e, z, TI, TO, i1, i2], c < s.heap.objs.size := fun c hcm => by
      have e' : c = e ∨ c = z ∨ c = TI ∨ c = TO ∨ c = i1 ∨ c = i2 := by simpa using hcm
      obtain ⟨f0, f, hz', _⟩ := hz
      rcases e' with q | q | q | q | q | q
      · rw [q]; exact Heap.lt_size he
      · rw [q]; exact Heap.lt_size hz'
      · rw [q]; exact Heap.lt_size hTI
      · rw [q]; exact Heap.lt_size hTO
      · rw [q]; obtain ⟨_, q1, _⟩ := h1; exact Heap.lt_size q1
      · rw [q]; obtain ⟨_, q2, _⟩ := h2; exact Heap.lt_size q2
    unfold pyNext
    refine wpAny_bind (wpAny_attempt (wpAny_callSpecial?_slot (name := Str.ofString "__next__") hTy F.slot_enumerate_next (wpAny_call_entry F.slot_enumerate_next hTy F.entry_enumerate_next
      (ez_next D ez eO e1 e2 he hz hTI hTO h1 h2 p.isList p2.isList (x := u) (y := u2) (by simpa using hu) (by simpa using hu2) fun p1 h' tk y1 y2 y3 y4 y5 y6 y7 g7 t7 k7 => wpAny_pure ?_) (F.args_enumerate_next_1 _))))
    refine ⟨_, rfl, wpAny_letOwnedTupleGo_enum (s := { s with heap := h', toks := tk + 1 }) g7 fun h'' g'' sb => ?_⟩
    have hel := cell e (by simp)
    have k8 : ∀ c o, c ≠ e → p1.get? c = some o → h''.get? c = some o := fun c o hce q => (sb.2 c hce).trans (k7 c o hce q)
    have hTn : H s.heap.objs.size = none := I.hok.fresh (Nat.le_refl _)
    have new1 : ObjOk X.prog X.w (upd H s.heap.objs.size (.tup [x, y])) p1 s.heap.objs.size (.tup [x, y]) := ⟨by show 2 ≤ sizeLine; decide, [u, u2], .cons ru (.cons ru2 .nil), ⟨_, y5, rfl, _, rfl⟩⟩
    have I1 : Inv X pins σ (upd H s.heap.objs.size (.tup [x, y])) { s with heap := p1, toks := s.toks } :=
      I.turnedNew (ch := [e, z, TI, TO, i1, i2]) (fun c o hb q => y7 c o (fun q' => hb (by simp [q'])) (fun q' => hb (by simp [q'])) (fun q' => hb (by simp [q'])) (fun q' => hb (by simp [q'])) q) hf (Nat.le_refl _) new1
    have hf1 : ∀ c ∈ [e, z, TI, TO, i1, i2], FpOk X pins (upd H s.heap.objs.size (.tup [x, y])) c := fun c hcm => ⟨by rw [upd_ne (Nat.ne_of_lt (cell c hcm))]; exact (hf c hcm).1, (hf c hcm).2⟩
    have t8 : h''.get? p1.objs.size = some { cls := .type "tuple", data := .seq #[.int (i : Nat) tk, .ref s.heap.objs.size] } := (sb.2 _ (by rw [y6]; exact Nat.ne_of_gt (Nat.lt_succ_of_lt hel))).trans t7
    have new2 : ObjOk X.prog X.w (upd (upd H s.heap.objs.size (.tup [x, y])) p1.objs.size (.tup [.int (i : Nat), .ref s.heap.objs.size])) h'' p1.objs.size (.tup [.int (i : Nat), .ref s.heap.objs.size]) :=
      ⟨by show 2 ≤ sizeLine; decide, [.int (i : Nat) tk, .ref s.heap.objs.size], .cons ⟨_, rfl⟩ (.cons rfl .nil), ⟨_, t8, rfl, _, rfl⟩⟩
    have hTU : s.heap.objs.size ≠ p1.objs.size := by rw [y6]; exact Nat.ne_of_lt (Nat.lt_succ_self _)
    have hUn0 : (upd H s.heap.objs.size (.tup [x, y])) p1.objs.size = none := I1.hok.fresh (Nat.le_refl _)
    have hUn : H p1.objs.size = none := by rw [upd_ne hTU.symm] at hUn0; exact hUn0
    have I2 : Inv X pins σ (upd (upd H s.heap.objs.size (.tup [x, y])) p1.objs.size (.tup [.int (i : Nat), .ref s.heap.objs.size])) { s with heap := h'', toks := tk + 1 } :=
      I1.turnedNew (ch := [e, z, TI, TO, i1, i2]) (fun c o hb q => k8 c o (fun q' => hb (by simp [q'])) q) hf1 (Nat.le_refl _) new2
    refine ⟨.ref p1.objs.size, _, I2, rfl, ⟨_, _, x, y, rfl, hTn, hUn, hTU, rfl, fun l hl => by rw [I.list_inj hl hqx]; exact hx, fun l hl => by rw [I.list_inj hl hqy]; exact hy⟩, ⟨⟨.ref s.heap.objs.size, ?_⟩, ?_, ?_, ?_, ?_, ?_⟩, fun c hcm => ?_⟩
    · rw [show ((i + 1 : Nat) : Int) = (i : Int) + 1 by omega]
      exact g''
    · obtain ⟨f0, f, hz', hf'⟩ := y1
      exact ⟨f0, f, k8 _ _ ez.symm hz', hf'⟩
    · exact k8 _ _ eI.symm (y7 _ _ D.TIz D.TITO D.TIi1 D.TIi2 hTI)
    · obtain ⟨a', b', q⟩ := y2
      exact ⟨a', b', k8 _ _ eO.symm q⟩
    · exact y3.at fun o q => k8 _ o e1.symm q
    · exact y4.at fun o q => k8 _ o e2.symm q
    · have hlt := cell c hcm
      rw [upd_ne (by rw [y6]; exact Nat.ne_of_lt (Nat.lt_succ_of_lt hlt))]
      exact (hf1 c hcm).1
  done := by
    intro X hP hw hK hc i pins s σ H E I hf st hg
    subst hP hw hK
    obtain ⟨⟨old, he⟩, hz, hTI, ⟨x0, y0, hTO⟩, h1, h2⟩ := st
    obtain ⟨xs, ys, hqx, hqy, hend⟩ := hg
    obtain ⟨its, rv, p, _⟩ := I.list hqx
    obtain ⟨its2, rv2, p2, _⟩ := I.list hqy
    have l1 := rv.length
    have hx : its.toArray[i]? = none := by simp; omega
    have hTy : s.TypeIs (.ref e) "enumerate" := ⟨_, he, rfl⟩
    unfold pyNext
    refine wpAny_bind (wpAny_attempt (wpAny_callSpecial?_slot (name := Str.ofString "__next__") hTy F.slot_enumerate_next (wpAny_call_entry F.slot_enumerate_next hTy F.entry_enumerate_next ?_ (F.args_enumerate_next_1 _))))
    show wpAny _ _ (field (.ref e) 2 >>= _) _ _ _
    refine wpAny_bind (wpAny_field he rfl (x := .ref z) rfl ?_)
    refine wpAny_bind (za_end (I.ok.hd hc) D hz hTI h1 h2 p.isList p2.isList hx fun h' er hk hx' => ?_)
    obtain ⟨o, ho, hco⟩ := hx'
    refine wpAny_bind (wpAny_isInstance (T := "StopIteration") (b := true) ⟨o, ho, hco⟩ isSubtype_stop ?_)
    exact wpAny_pure ⟨rfl, I.turnedL (t' := s.toks) (ch := [e, z, TI, TO, i1, i2]) (fun c o hb q => hk c o (fun q' => hb (by simp [q'])) (fun q' => hb (by simp [q'])) (fun q' => hb (by simp [q'])) q) hf⟩
  self := fun A i s Q E st h => let ⟨⟨_, he⟩, _⟩ := st; wpAny_pyIter_enum he h
def iEnumZ (K : PySem.W.Frag) (ta : TA) : TI := fun σ H R => ta σ H fun vs H1 => ∃ a b xs ys, vs = [.ref a, .ref b] ∧ SqL K H1 a xs ∧ SqL K H1 b ys ∧ R (ItzE K a b) H1
theorem pi_enumZ {X : Cx} {e e2 : Expr} {ta : TA} {p p1 pos pos2 tpos : Pos} {elts : List Expr} {kk : Nat} (hg2 : Gl X "enumerate") (hm2 : X.mg "enumerate" = none) (hg : Gl X "zip") (hm : X.mg "zip" = none) (ha : PA X [e, e2] ta)
    (hs : starEach [e, e2] X.env = (false, eval e X.env) :: starEach [e2] X.env := by rfl) (hpl : (backTo pos (starEach [e2] X.env)).any (·.1) = false := by rfl)
    (hs2 : starEach [.Call (.Name "zip" p) [e, e2] [] pos] X.env = (false, eval (.Call (.Name "zip" p) [e, e2] [] pos) X.env) :: starEach [] X.env := by rfl) :
    PI X (.Tuple elts kk tpos) (.Call (.Name "enumerate" p1) [.Call (.Name "zip" p) [e, e2] [] pos] [] pos2) (iEnumZ X.K ta) := by
  refine ⟨fun pins s σ H R I h => ?_⟩
  refine Call_ (ld_blt I hg2 hm2 boot_enumerate (PyProof.Rows.callWith_type1 ?_ hs2 rfl))
  rw [hs2]
  show wpAny _ _ (spliced ((false, eval (.Call (.Name "zip" p) [e, e2] [] pos) X.env) :: backTo pos2 (starEach [] X.env))) _ _ s
  refine Calls.spliced_cons ?_
  refine Call_ (ld_blt I hg hm PyProof.Rows.boot_zip (PyProof.Rows.callWith_type1 (thn (ha.run pos pins s σ H _ I h) fun us s1 ⟨vs, H1, I1, r1, q1⟩ => ?_) hs hpl))
  obtain ⟨a, b, xs, ys, rfl, hqx, hqy, q⟩ := q1
  cases r1 with
  | cons r rr =>
    cases rr with
    | cons r' rr =>
      cases rr
      cases r
      cases r'
      obtain ⟨its, rv, p1', _⟩ := I1.list hqx
      obtain ⟨its2, rv2, p2', _⟩ := I1.list hqy
      refine call_zip_2 p1'.isList p2'.isList fun h' hz hTI hTO h1 h2 hsz hk => Calls.spliced_nil ?_
      refine call_enumZ (s := { s1 with heap := h' }) hz fun h'' he hk2 => wpAny_pyIter_enum he ?_
      have he5 : h'.objs.size = s1.heap.objs.size + 5 := hsz
      have I2 : Inv X pins σ H1 { s1 with heap := h'' } := I1.kept (t' := s1.toks) fun c o q => hk2 c o (hk c o q)
      have fresh6 : ∀ c, c ∈ [h'.objs.size, s1.heap.objs.size + 4, s1.heap.objs.size + 2, s1.heap.objs.size + 3, s1.heap.objs.size, s1.heap.objs.size + 1] → FpOk X pins H1 c := fun c hcm => by
        have e' : c = h'.objs.size ∨ c = s1.heap.objs.size + 4 ∨ c = s1.heap.objs.size + 2 ∨ c = s1.heap.objs.size + 3 ∨ c = s1.heap.objs.size ∨ c = s1.heap.objs.size + 1 := by simpa using hcm
        have hle : s1.heap.objs.size ≤ c := by
          rcases e' with z | z | z | z | z | z
          · rw [z, he5]; exact Nat.le_add_right _ _
          · rw [z]; exact Nat.le_add_right _ _
          · rw [z]; exact Nat.le_add_right _ _
          · rw [z]; exact Nat.le_add_right _ _
          · rw [z]; exact Nat.le_refl _
          · rw [z]; exact Nat.le_add_right _ _
        exact I1.fpOk hle (I1.hok.fresh hle)
      have ne : ∀ k, k < 5 → h'.objs.size ≠ s1.heap.objs.size + k := fun k hk5 q => by rw [he5] at q; exact absurd (Nat.add_left_cancel q) (Nat.ne_of_gt hk5)
      exact ⟨h'.objs.size, [h'.objs.size, s1.heap.objs.size + 4, s1.heap.objs.size + 2, s1.heap.objs.size + 3, s1.heap.objs.size, s1.heap.objs.size + 1], _, _, H1, rfl, I2,
        turn_enumZ (PySem.W.ktu_apart s1.heap.objs.size a b p1'.lt p2'.lt) (ne 4 (by decide)) (ne 2 (by decide)) (ne 3 (by decide)) (ne 0 (by decide)) (ne 1 (by decide)),
        ⟨⟨.none, he⟩, ⟨.none, false, hk2 _ _ hz, .inl rfl⟩, hk2 _ _ hTI, ⟨_, _, hk2 _ _ hTO⟩, h1.at fun o q => hk2 _ o q, h2.at fun o q => hk2 _ o q⟩, fresh6, q⟩
def YPP (xs ys : List V) : Nat → Hp → V → Hp → Prop := fun i H v H' => ∃ T U x y, v = .ref U ∧ H T = none ∧ H U = none ∧ T ≠ U ∧ H' = upd (upd H T (.tup [x, y])) U (.tup [.int (i : Nat), .ref T]) ∧ xs[i]? = some x ∧ ys[i]? = some y
theorem walk_enumZ {K : PySem.W.Frag} {a b : Addr} {xs ys : List V} (hl : xs.length = ys.length) : Walk (ItzE K a b) xs.length (fun H => SqL K H a xs ∧ SqL K H b ys) (YPP xs ys) := by
  refine ⟨fun i _ hi q => ⟨xs, ys, xs[i], ys[i]'(by omega), q.1, q.2, by simp [hi], List.getElem?_eq_getElem _⟩, fun _ q => ⟨xs, ys, q.1, q.2, Nat.le_refl _⟩, fun i H v H' _ q y => ?_⟩
  obtain ⟨T, U, x, y', h1, h2, h3, h4, h5, h6, h7⟩ := y
  exact ⟨T, U, x, y', h1, h2, h3, h4, h5, h6 xs q.1, h7 ys q.2⟩
end LK

set_option Elab.async false
set_option linter.all false
set_option maxRecDepth 100000
set_option maxHeartbeats 4000000
/-! dict(zip(x, y)) of two tuples; dict(x) of a tuple of pairs that has no dict of its own; d.update(e) of a dict -/
namespace LK
open PySem PySem.Spec PyProof.Rows L2 SX
section
variable {prog : Program} {w : World} {A : Around} {E : Value → Shared → Prop} {s : Shared} {z TI TO i1 i2 : Addr} {fp1 fp2 : List Addr} {n1 n2 : Nat} {P1 P2 : Nat → Value → Prop} {St1 St2 : Nat → Heap → Prop} {i : Nat}
/-- the next pair while the one before is still known -/
theorem zipH_item {T : Addr} {f : Bool} {oT : Obj} {Q : Value → Shared → Prop} (S : ZipSep2 z TI TO i1 i2 fp1 fp2) (D1 : Draws prog w A i1 fp1 n1 P1 St1) (D2 : Draws prog w A i2 fp2 n2 P2 St2)
    (hz : IsZipHeld s.heap z TI TO T f) (hT : s.heap.get? T = some oT) (hTI : IsTupOf2 s.heap TI (.ref i1) (.ref i2)) (st1 : St1 i s.heap) (st2 : St2 i s.heap) (hlt1 : i < n1) (hlt2 : i < n2)
    (hQ : ∀ x1 x2 h' tk, P1 i x1 → P2 i x2 → IsZipHeld h' z TI TO T true → St1 (i + 1) h' → St2 (i + 1) h' → IsTupOf2 h' s.heap.objs.size x1 x2 → h'.objs.size = s.heap.objs.size + 1 →
      (∀ c o, c ≠ z → c ≠ i1 → c ≠ i2 → s.heap.get? c = some o → h'.get? c = some o) → Q (.ref s.heap.objs.size) { s with heap := h', toks := tk }) :
    wpAny (model prog w) A (Builtin.«zip.__next__» ⟨[.ref z], []⟩) (fun fin s' => ∃ v, fin = .done (.ret v) ∧ Q v s') E s := by
  obtain ⟨hp, g, d, tk0, os⟩ := s
  show wpAny _ _ (field (.ref z) 2 >>= _) _ _ _
  refine wpAny_bind (wpAny_field hz rfl (x := .bool false) rfl ?_)
  show wpAny _ _ (field (.ref z) 3 >>= _) _ _ _
  refine wpAny_bind (wpAny_field hz rfl (x := .ref TI) rfl ?_)
  refine wpAny_bind (wpAny_seqItems hTI rfl ?_)
  show wpAny _ _ (Builtin.SmallTypes.ownedTupleIsFree (.ref z) >>= _) _ _ _
  refine wpAny_bind (wpAny_tupleHeld_zip hz hT fun h₁ hz₁ hs₁ => ?_)
  replace hs₁ : Heap.SameBut z hp h₁ := hs₁
  simp only [Bool.false_eq_true, if_false]
  refine wpAny_bind ?_
  rw [← Array.forIn_toList]
  simp only [List.forIn_cons, List.forIn_nil]
  refine wpAny_bind (wpAny_bind (wpAny_holding ?_))
  show wpAny _ _ (Builtin.SmallTypes.nextOf (.ref i1) >>= _) _ _ ⟨h₁, g, d, tk0, os⟩
  refine wpAny_bind (D1.item i _ _ _ hlt1 (D1.over st1 hs₁ S.zf1) fun x1 p1 tk1 hx1 sn1 hp1 => wpAny_pure ?_)
  replace hp1 : Heap.SameBut i1 h₁ p1 := hp1
  refine wpAny_pure ?_
  refine wpAny_bind (wpAny_bind (wpAny_holding ?_))
  show wpAny _ _ (Builtin.SmallTypes.nextOf (.ref i2) >>= _) _ _ ⟨p1, g, d, tk1, os⟩
  refine wpAny_bind (D2.item i _ _ _ hlt2 (D2.over (D2.over st2 hs₁ S.zf2) hp1 S.sep1_2) fun x2 p2 tk2 hx2 sn2 hp2 => wpAny_pure ?_)
  replace hp2 : Heap.SameBut i2 p1 p2 := hp2
  refine wpAny_pure (wpAny_pure ?_)
  show wpAny _ _ (newTuple [x1, x2] >>= _) _ _ ⟨p2, g, d, tk2, os⟩
  refine wpAny_bind (wpAny_newTuple ?_)
  have hsz : p2.objs.size = hp.objs.size := by rw [hp2.1, hp1.1, hs₁.1]
  have hz2 : IsZipHeld p2 z TI TO T true := hp2.extBut _ _ S.zi2 (hp1.extBut _ _ S.zi1 hz₁)
  have hk : ∀ c o, c ≠ z → c ≠ i1 → c ≠ i2 → hp.get? c = some o → p2.get? c = some o := fun c o c1 c2 c3 e => hp2.extBut _ _ c3 (hp1.extBut _ _ c2 (hs₁.extBut _ _ c1 e))
  have j1 : St1 (i + 1) p2 := D1.over sn1 hp2 S.sep2_1
  have up : ∀ c o, p2.get? c = some o → (p2.push { cls := .type "tuple", data := .seq #[x1, x2] }).get? c = some o := fun c o e => Heap.get?_push_of_some _ e
  refine wpAny_pure ⟨_, rfl, ?_⟩
  show Q (.ref p2.objs.size) ⟨p2.push { cls := .type "tuple", data := .seq #[x1, x2] }, g, d, tk2, os⟩
  have hp4 : IsTupOf2 (p2.push { cls := .type "tuple", data := .seq #[x1, x2] }) p2.objs.size x1 x2 := Heap.get?_push_size _ rfl
  have hz4 : (p2.push { cls := .type "tuple", data := .seq #[x1, x2] }).objs.size = p2.objs.size + 1 := Heap.size_push ..
  rw [hsz] at hp4 hz4 ⊢
  exact hQ x1 x2 _ tk2 hx1 hx2 (up _ _ hz2) (D1.frame _ _ _ j1 fun b _ o e => up b o e) (D2.frame _ _ _ sn2 fun b _ o e => up b o e) hp4 hz4 fun c o c1 c2 c3 e => up c o (hk c o c1 c2 c3 e)
/-- no next pair, while the last one is still known -/
theorem zipH_end {T : Addr} {f : Bool} {oT : Obj} {Q : Fin → Shared → Prop} (S : ZipSep2 z TI TO i1 i2 fp1 fp2) (D1 : Draws prog w A i1 fp1 n1 P1 St1) (D2 : Draws prog w A i2 fp2 n2 P2 St2)
    (hz : IsZipHeld s.heap z TI TO T f) (hT : s.heap.get? T = some oT) (hTI : IsTupOf2 s.heap TI (.ref i1) (.ref i2)) (st1 : St1 i s.heap) (st2 : St2 i s.heap) (hle1 : i ≤ n1) (hle2 : i ≤ n2) (hend : i = n1 ∨ i = n2)
    (hE : ∀ h' tk e, (∀ c o, c ≠ z → c ≠ i1 → c ≠ i2 → s.heap.get? c = some o → h'.get? c = some o) → (∃ o, h'.get? e = some o ∧ o.cls = .type "StopIteration") → E (.ref e) { s with heap := h', toks := tk }) :
    wpAny (model prog w) A (Builtin.«zip.__next__» ⟨[.ref z], []⟩) Q E s := by
  obtain ⟨hp, g, d, tk0, os⟩ := s
  show wpAny _ _ (field (.ref z) 2 >>= _) _ _ _
  refine wpAny_bind (wpAny_field hz rfl (x := .bool false) rfl ?_)
  show wpAny _ _ (field (.ref z) 3 >>= _) _ _ _
  refine wpAny_bind (wpAny_field hz rfl (x := .ref TI) rfl ?_)
  refine wpAny_bind (wpAny_seqItems hTI rfl ?_)
  show wpAny _ _ (Builtin.SmallTypes.ownedTupleIsFree (.ref z) >>= _) _ _ _
  refine wpAny_bind (wpAny_tupleHeld_zip hz hT fun h₁ hz₁ hs₁ => ?_)
  replace hs₁ : Heap.SameBut z hp h₁ := hs₁
  simp only [Bool.false_eq_true, if_false]
  refine wpAny_bind ?_
  rw [← Array.forIn_toList]
  simp only [List.forIn_cons, List.forIn_nil]
  refine wpAny_bind (wpAny_bind (wpAny_holding ?_))
  show wpAny _ _ (Builtin.SmallTypes.nextOf (.ref i1) >>= _) _ _ ⟨h₁, g, d, tk0, os⟩
  by_cases hlt1 : i < n1
  · refine wpAny_bind (D1.item i _ _ _ hlt1 (D1.over st1 hs₁ S.zf1) fun x1 p1 tk1 hx1 sn1 hp1 => wpAny_pure ?_)
    replace hp1 : Heap.SameBut i1 h₁ p1 := hp1
    have hi2 : i = n2 := by omega
    refine wpAny_pure ?_
    refine wpAny_bind (wpAny_bind (wpAny_holding ?_))
    show wpAny _ _ (Builtin.SmallTypes.nextOf (.ref i2) >>= _) _ _ ⟨p1, g, d, tk1, os⟩
    refine wpAny_bind (D2.done ⟨p1, g, d, tk1, os⟩ _ _ (by rw [← hi2]; exact D2.over (D2.over st2 hs₁ S.zf2) hp1 S.sep1_2) fun q e hq he => ?_)
    exact hE q tk1 e (fun c o c1 c2 c3 x => hq _ _ c3 (hp1.extBut _ _ c2 (hs₁.extBut _ _ c1 x))) he
  · have hi1 : i = n1 := by omega
    refine wpAny_bind (D1.done ⟨h₁, g, d, tk0, os⟩ _ _ (by rw [← hi1]; exact D1.over st1 hs₁ S.zf1) fun q e hq he => ?_)
    exact hE q tk0 e (fun c o c1 c2 _ x => hq _ _ c2 (hs₁.extBut _ _ c1 x)) he
theorem zipH_pyNext_item {T : Addr} {f : Bool} {oT : Obj} {Q : Option Value → Shared → Prop} (S : ZipSep2 z TI TO i1 i2 fp1 fp2) (D1 : Draws prog w A.in1 i1 fp1 n1 P1 St1) (D2 : Draws prog w A.in1 i2 fp2 n2 P2 St2)
    (hz : IsZipHeld s.heap z TI TO T f) (hT : s.heap.get? T = some oT) (hTI : IsTupOf2 s.heap TI (.ref i1) (.ref i2)) (st1 : St1 i s.heap) (st2 : St2 i s.heap) (hlt1 : i < n1) (hlt2 : i < n2)
    (hQ : ∀ x1 x2 h' tk, P1 i x1 → P2 i x2 → IsZipHeld h' z TI TO T true → St1 (i + 1) h' → St2 (i + 1) h' → IsTupOf2 h' s.heap.objs.size x1 x2 → h'.objs.size = s.heap.objs.size + 1 →
      (∀ c o, c ≠ z → c ≠ i1 → c ≠ i2 → s.heap.get? c = some o → h'.get? c = some o) → Q (some (.ref s.heap.objs.size)) { s with heap := h', toks := tk }) :
    wpAny (model prog w) A (pyNext (.ref z)) Q E s := by
  have hTy : s.TypeIs (.ref z) "zip" := ⟨_, hz, rfl⟩
  unfold pyNext
  exact wpAny_bind (wpAny_attempt (wpAny_callSpecial?_slot (name := Str.ofString "__next__") hTy F.slot_zip_next
    (wpAny_call_entry F.slot_zip_next hTy F.entry_zip_next
      (zipH_item S D1 D2 hz hT hTI st1 st2 hlt1 hlt2 fun x1 x2 h' tk y1 y2 b1 b2 b3 b4 b5 b6 => wpAny_pure (hQ x1 x2 h' tk y1 y2 b1 b2 b3 b4 b5 b6)) (F.args_zip_next_1 _))))
theorem zipH_pyNext_end {T : Addr} {f : Bool} {oT : Obj} {Q : Option Value → Shared → Prop} (S : ZipSep2 z TI TO i1 i2 fp1 fp2) (D1 : Draws prog w A.in1 i1 fp1 n1 P1 St1) (D2 : Draws prog w A.in1 i2 fp2 n2 P2 St2)
    (hz : IsZipHeld s.heap z TI TO T f) (hT : s.heap.get? T = some oT) (hTI : IsTupOf2 s.heap TI (.ref i1) (.ref i2)) (st1 : St1 i s.heap) (st2 : St2 i s.heap) (hle1 : i ≤ n1) (hle2 : i ≤ n2) (hend : i = n1 ∨ i = n2)
    (hQ : ∀ h' tk, (∀ c o, c ≠ z → c ≠ i1 → c ≠ i2 → s.heap.get? c = some o → h'.get? c = some o) → Q none { s with heap := h', toks := tk }) : wpAny (model prog w) A (pyNext (.ref z)) Q E s := by
  have hTy : s.TypeIs (.ref z) "zip" := ⟨_, hz, rfl⟩
  unfold pyNext
  refine wpAny_bind (wpAny_attempt (wpAny_callSpecial?_slot (name := Str.ofString "__next__") hTy F.slot_zip_next
    (wpAny_call_entry F.slot_zip_next hTy F.entry_zip_next (zipH_end S D1 D2 hz hT hTI st1 st2 hle1 hle2 hend fun h' tk e hk he => ?_) (F.args_zip_next_1 _))))
  obtain ⟨o, ho, hc⟩ := he
  refine wpAny_bind (wpAny_isInstance (T := "StopIteration") (b := true) ⟨o, ho, hc⟩ isSubtype_stop ?_)
  exact wpAny_pure (hQ _ _ hk)
end
/-- zip(x, y) of two tuples, as what dict takes -/
theorem pairs_zipT {prog : Program} {w : World} (z TI TO i1 i2 l1 l2 : Addr) (D : ZipApart z TI TO i1 i2 l1 l2) (S : ZipSep2 z TI TO i1 i2 [i1, l1] [i2, l2]) (xs ys : Array Value) :
    PairArg prog w "zip" z [z, TI, TO, i1, i2, l1, l2] [z, TO, i1, i2] (min xs.size ys.size) (fun i k v => xs[i]? = some k ∧ ys[i]? = some v)
      (fun h => IsZip h z TI TO .none ∧ IsTupOf2 h TI (.ref i1) (.ref i2) ∧ (∃ a b, IsTupOf2 h TO a b) ∧ h.IsTupleIter i1 l1 0 ∧ h.IsTupleIter i2 l2 0 ∧ h.IsTuple l1 xs ∧ h.IsTuple l2 ys) where
  type := fun s ok => ⟨_, ok.1, rfl⟩
  notDict := by decide
  keep := fun h h' ok hk => by
    obtain ⟨hz, hTI, ⟨a, b, hTO⟩, h1, h2, hl1, hl2⟩ := ok
    exact ⟨hk _ _ hz, hk _ _ hTI, ⟨a, b, hk _ _ hTO⟩, h1.at fun o e => hk _ o e, h2.at fun o e => hk _ o e, hl1.at fun o e => hk _ o e, hl2.at fun o e => hk _ o e⟩
  there := fun h ok b hb => by
    obtain ⟨hz, hTI, ⟨a, c, hTO⟩, ⟨o1, h1, _⟩, ⟨o2, h2, _⟩, ⟨o3, hl1, _⟩, ⟨o4, hl2, _⟩⟩ := ok
    simp only [List.mem_cons, List.not_mem_nil, or_false] at hb
    rcases hb with rfl | rfl | rfl | rfl | rfl | rfl | rfl
    all_goals first | exact ⟨_, hz⟩ | exact ⟨_, hTI⟩ | exact ⟨_, hTO⟩ | exact ⟨_, h1⟩ | exact ⟨_, h2⟩ | exact ⟨_, hl1⟩ | exact ⟨_, hl2⟩
  sub := fun b hb => by simp at hb ⊢; rcases hb with rfl | rfl | rfl | rfl <;> simp
  noKeys := fun A s Q E hA ok h => getAttrOr_miss_zip ok.1 rfl rfl rfl zip_no_keys (by decide +kernel) hA h
  iter := fun A s d Q E hA ok hd hdf h => by
    obtain ⟨hz, hTI, ⟨a, b, hTO⟩, h1, h2, hl1, hl2⟩ := ok
    simp only [List.mem_cons, List.not_mem_nil, or_false, not_or] at hdf
    obtain ⟨dz, dTI, dTO, di1, di2, dl1, dl2⟩ := hdf
    have D1 := Draws.tuple (prog := prog) (w := w) (A := A.in1) hA i1 l1 D.l1i1 xs
    have D2 := Draws.tuple (prog := prog) (w := w) (A := A.in1) hA i2 l2 D.l2i2 ys
    refine wpAny_pyIter_zip hz (h z [z, TO, i1, i2] (fun i h => IsTupOf2 h TI (.ref i1) (.ref i2) ∧ (h.IsTupleIter i1 l1 i ∧ h.IsTuple l1 xs) ∧ (h.IsTupleIter i2 l2 i ∧ h.IsTuple l2 ys) ∧
      ((IsZip h z TI TO .none ∧ ∃ a b, IsTupOf2 h TO a b) ∨ ∃ T f oT, IsZipHeld h z TI TO T f ∧ h.get? T = some oT ∧ T ≠ z ∧ T ≠ i1 ∧ T ≠ i2 ∧ T ≠ d)) s.heap s.toks ?_
      ⟨hTI, ⟨h1, hl1⟩, ⟨h2, hl2⟩, .inl ⟨hz, a, b, hTO⟩⟩ (fun _ _ e => e) fun b hb => .inl hb)
    exact {
      off := fun hm => by
        simp only [List.mem_cons, List.not_mem_nil, or_false] at hm
        rcases hm with e | e | e | e
        · exact dz e
        · exact dTO e
        · exact di1 e
        · exact di2 e
      frame := fun i h₁ h₂ st hk => by
        obtain ⟨hTI, st1, st2, hz⟩ := st
        refine ⟨hk _ _ (Ne.symm dTI) hTI, ⟨st1.1.at fun o e => hk _ o (Ne.symm di1) e, st1.2.at fun o e => hk _ o (Ne.symm dl1) e⟩, ⟨st2.1.at fun o e => hk _ o (Ne.symm di2) e, st2.2.at fun o e => hk _ o (Ne.symm dl2) e⟩, ?_⟩
        rcases hz with ⟨hz, a, b, hTO⟩ | ⟨T, f, oT, hz, hT, r1, r2, r3, r4⟩
        · exact .inl ⟨hk _ _ (Ne.symm dz) hz, a, b, hk _ _ (Ne.symm dTO) hTO⟩
        · exact .inr ⟨T, f, oT, hk _ _ (Ne.symm dz) hz, hk _ _ r4 hT, r1, r2, r3, r4⟩
      item := fun i s₁ Q₁ E₁ hi st hds hQ => by
        obtain ⟨hTI, st1, st2, hz⟩ := st
        have hix : i < xs.size := Nat.lt_of_lt_of_le hi (Nat.min_le_left ..)
        have hiy : i < ys.size := Nat.lt_of_lt_of_le hi (Nat.min_le_right ..)
        have lt : ∀ {c o}, s₁.heap.get? c = some o → s₁.heap.objs.size ≠ c := fun e => Nat.ne_of_gt (Heap.lt_size e)
        have n1 : s₁.heap.objs.size ≠ i1 := let ⟨_, e, _⟩ := st1.1; lt e
        have n2 : s₁.heap.objs.size ≠ i2 := let ⟨_, e, _⟩ := st2.1; lt e
        rcases hz with ⟨hz, a, b, hTO⟩ | ⟨T, f, oT, hz, hT, r1, r2, r3, r4⟩
        · refine wpAny_pyNext_zipD2_item S D1 D2 hz hTI hTO st1 st2 hix hiy fun x1 x2 h' tk p1 p2 b1 b2 b3 b4 b5 b6 hk => ?_
          exact hQ s₁.heap.objs.size _ _ h' tk ⟨p1, p2⟩ (.inl ⟨_, b5, rfl, _, rfl⟩)
            ⟨hk _ _ D.TIz D.TITO D.TIi1 D.TIi2 hTI, b3, b4, .inr ⟨s₁.heap.objs.size, false, _, b1, b5, lt hz, n1, n2, Nat.ne_of_gt hds⟩⟩
            fun c o hc e => hk c o (fun x => hc (by simp [x])) (fun x => hc (by simp [x])) (fun x => hc (by simp [x])) (fun x => hc (by simp [x])) e
        · refine zipH_pyNext_item S D1 D2 hz hT hTI st1 st2 hix hiy fun x1 x2 h' tk p1 p2 b1 b3 b4 b5 b6 hk => ?_
          exact hQ s₁.heap.objs.size _ _ h' tk ⟨p1, p2⟩ (.inl ⟨_, b5, rfl, _, rfl⟩)
            ⟨hk _ _ D.TIz D.TIi1 D.TIi2 hTI, b3, b4, .inr ⟨T, true, oT, b1, hk _ _ r1 r2 r3 hT, r1, r2, r3, r4⟩⟩
            fun c o hc e => hk c o (fun x => hc (by simp [x])) (fun x => hc (by simp [x])) (fun x => hc (by simp [x])) e
      done := fun s₁ Q₁ E₁ st hQ => by
        obtain ⟨hTI, st1, st2, hz⟩ := st
        have e1 : min xs.size ys.size ≤ xs.size := Nat.min_le_left ..
        have e2 : min xs.size ys.size ≤ ys.size := Nat.min_le_right ..
        have e3 : min xs.size ys.size = xs.size ∨ min xs.size ys.size = ys.size := by omega
        rcases hz with ⟨hz, a, b, hTO⟩ | ⟨T, f, oT, hz, hT, r1, r2, r3, r4⟩
        · exact wpAny_pyNext_zipD2_end S D1 D2 hz hTI hTO st1 st2 e1 e2 e3 fun h' tk hk => hQ h' tk fun c o hc e => hk c o (fun x => hc (by simp [x])) (fun x => hc (by simp [x])) (fun x => hc (by simp [x])) (fun x => hc (by simp [x])) e
        · exact zipH_pyNext_end S D1 D2 hz hT hTI st1 st2 e1 e2 e3 fun h' tk hk => hQ h' tk fun c o hc e => hk c o (fun x => hc (by simp [x])) (fun x => hc (by simp [x])) (fun x => hc (by simp [x])) e }
theorem sep_T {z TI TO i1 i2 a b : Addr} (D : ZipApart z TI TO i1 i2 a b) : ZipSep2 z TI TO i1 i2 [i1, a] [i2, b] :=
  ⟨D.TIz, D.TOz, D.TITO, D.TIi1, by simp, by simp [D.i1z.symm, D.l1z.symm], by simp [D.TOi1, D.l1TO.symm], D.TIi2, by simp, by simp [D.i2z.symm, D.l2z.symm], by simp [D.TOi2, D.l2TO.symm], by simp [D.i12, D.l2i1.symm], by simp [D.i12.symm, D.l1i2.symm]⟩
/-! ### dict(zip(x, y)) -/
def tDictZ (K : PySem.W.Frag) (ta : TA) : TE := fun σ H Q => ta σ H fun vs H1 => ∃ (a b : Addr) (ks : List Key) (ys : List V), vs = [.ref a, .ref b] ∧ SqT K H1 a (ks.map kV) ∧ SqT K H1 b ys ∧ ∀ p, H1 p = none → Q (.ref p) (L2.upd H1 p (.dK (mergeK [] (ks.zip ys))))
theorem kvs_zip : ∀ {ys : List V} {us : List Value} {ks : List Key}, Vals ys us → KV (ks.zip ys) (ks.zip us)
  | _, _, [], _ => .nil
  | [], us, k :: ks, r => by cases r; exact .nil
  | y :: ys, us, k :: ks, r => by
    cases r with
    | cons h t => exact .cons ⟨rfl, h⟩ (kvs_zip t)
theorem pe_dictZip {X : Cx} {e e2 : Expr} {ta : TA} {p p1 pos pos2 : Pos} (calm : X.calm = true) (hg : Gl X "zip") (hm : X.mg "zip" = none) (hgd : Gl X "dict") (hmd : X.mg "dict" = none) (ha : PA X [e, e2] ta)
    (hs : starEach [e, e2] X.env = (false, eval e X.env) :: starEach [e2] X.env := by rfl) (hpl : (backTo pos (starEach [e2] X.env)).any (·.1) = false := by rfl)
    (hs2 : starEach [.Call (.Name "zip" p) [e, e2] [] pos] X.env = (false, eval (.Call (.Name "zip" p) [e, e2] [] pos) X.env) :: starEach [] X.env := by rfl) :
    PE X (.Call (.Name "dict" p1) [.Call (.Name "zip" p) [e, e2] [] pos] [] pos2) (tDictZ X.K ta) := by
  refine ⟨fun pins s σ H Q I h => ?_⟩
  refine wpAny_Call_Name_kw (ld_blt I hgd hmd PyProof.Rows.boot_dict ?_ (by decide) (by decide))
  refine PyProof.Rows.callWith_type1 ?_ hs2 rfl
  rw [hs2]
  show wpAny _ _ (spliced ((false, eval (.Call (.Name "zip" p) [e, e2] [] pos) X.env) :: backTo pos2 (starEach [] X.env))) _ _ s
  refine Calls.spliced_cons ?_
  refine wpAny_Call_Name_kw (ld_blt I hg hm PyProof.Rows.boot_zip (PyProof.Rows.callWith_type1 (thn (ha.run pos pins s σ H _ I h) fun us s1 ⟨vs, H1, I1, r1, q1⟩ => ?_) hs hpl) (by decide) (by decide))
  obtain ⟨a, b, ks, ys, rfl, hqa, hqb, q⟩ := q1
  obtain ⟨u1, u2, rfl, r1, r2⟩ := vals2 r1
  cases r1
  cases r2
  obtain ⟨ia, ra, pa, za⟩ := I1.tuple hqa
  obtain ⟨ib, rb, pb, zb⟩ := I1.tuple hqb
  obtain ⟨oa, hoa, _⟩ := id pa
  obtain ⟨ob, hob, _⟩ := id pb
  have la : a < s1.heap.objs.size := Heap.lt_size hoa
  have lb : b < s1.heap.objs.size := Heap.lt_size hob
  have D := PySem.W.ktu_apart s1.heap.objs.size a b la lb
  refine zip_begins2 (begins_tuple a ia.toArray) (begins_tuple b ib.toArray) pa pb fun h' hz hTI hTO h1 h2 hsz hk => Calls.spliced_nil ?_
  have ka := ra.length
  rw [List.length_map] at ka za
  have hlen : (ks.zip ib).length = min ia.toArray.size ib.toArray.size := by simp; omega
  refine PySem.call_dict_pairs (knd := mixKind X.prog X.w) (kvs := ks.zip ib) (pairs_zipT _ _ _ _ _ a b D (sep_T D) ia.toArray ib.toArray) (I1.ok.hd calm)
    ⟨hz, hTI, ⟨_, _, hTO⟩, ⟨_, h1, rfl, rfl⟩, ⟨_, h2, rfl, rfl⟩, pa.keeps hk, pb.keeps hk⟩ ⟨hlen, fun i key v ⟨ek, ev⟩ => ?_⟩ (by simp; omega) fun h3 tk hd3 hk3 => ?_
  · have ek : ia[i]? = some key := by simpa using ek
    have ev : ib[i]? = some v := by simpa using ev
    have hi : i < ks.length := by have := (List.getElem?_eq_some_iff.mp ek).1; omega
    obtain ⟨u, hu, ru⟩ := ra.get (i := i) (x := kV ks[i]) (by simp [hi])
    rw [ek] at hu
    obtain rfl := Option.some.inj hu
    exact ⟨ks[i], by rw [List.getElem?_zip_eq_some]; exact ⟨by simp [hi], ev⟩, kV_is ru⟩
  · have le : s1.heap.objs.size ≤ h'.objs.size := by omega
    have hmz : (h'.objs.size == sysModules) = false := beq_eq_false_iff_ne.mpr (Nat.ne_of_gt (Nat.lt_of_lt_of_le I1.big le))
    have rel : KV (ks.zip ys) (ks.zip ib) := kvs_zip rb
    have hml : (mergeK [] (ks.zip ys)).length ≤ sizeLine := by
      refine Nat.le_trans (length_mergeK _ []) ?_
      simp; omega
    have kk : ∀ c o, s1.heap.get? c = some o → h3.get? c = some o := fun c o e => hk3 c o (fun hc => by
      have := Heap.lt_size e
      simp only [List.mem_cons, List.not_mem_nil, or_false] at hc
      rcases hc with e | e | e | e
      · rw [e] at this; exact absurd this (Nat.not_lt.mpr (Nat.le_add_right _ _))
      · rw [e] at this; exact absurd this (Nat.not_lt.mpr (Nat.le_add_right _ _))
      · rw [e] at this; exact absurd this (Nat.lt_irrefl _)
      · rw [e] at this; exact absurd this (Nat.not_lt.mpr (Nat.le_add_right _ _))) (hk c o e)
    exact ⟨.ref h'.objs.size, _, I1.laid (t' := tk) kk le (show ObjOk X.prog X.w _ _ _ (.dK (mergeK [] (ks.zip ys))) from ⟨hml, hmz, merged [] (ks.zip ib), KV.merge rel .nil, hd3⟩), rfl, q _ (I1.hok.fresh le)⟩
/-! ### tuples that have no dict of their own; dict(x) of one of pairs -/
def FT (H : Hp) (a : Addr) (ys : List V) : Prop := ∃ o : Obj, H a = some (.frz o (.tup ys)) ∧ o.dict = none
theorem FT.sq {K : PySem.W.Frag} {H : Hp} {a : Addr} {ys : List V} (h : FT H a ys) : SqT K H a ys := let ⟨o, e, _⟩ := h; .inl (.inr ⟨o, e⟩)
theorem FT.same {H H' : Hp} {a : Addr} {ys : List V} (h : FT H a ys) (e : Same H H') : FT H' a ys := let ⟨o, e1, e2⟩ := h; ⟨o, e _ _ e1, e2⟩
theorem call_tupleF {X : Cx} : CallR X (.type "tuple") (fun xs H Q => ∃ p ys, xs = [.ref p] ∧ SqL X.K H p ys ∧ ∀ l (o : Obj), H l = none → o.dict = none → Q (.ref l) (L2.upd H l (.frz o (.tup ys)))) := by
  intro pins s σ H xs us Q I r h
  obtain ⟨p, ys, rfl, hq, q⟩ := h
  obtain ⟨u, rfl, rx⟩ := vals1 r
  cases rx
  obtain ⟨its, r', pl, hz⟩ := I.list hq
  have hlen := r'.length
  refine call_tuple_list pl.isList (fun h' kp => ?_) (by simp only [List.size_toArray] <;> omega)
  have I1 : Inv X pins σ H { s with heap := h' } := I.kept (t' := s.toks) kp
  have I2 : Inv X pins σ (L2.upd H h'.objs.size (.frz { cls := .type "tuple", data := .seq its.toArray } (.tup ys))) { s with heap := h'.push { cls := .type "tuple", data := .seq its.toArray } } :=
    I1.laid (t' := s.toks) (fun b o e => Heap.get?_push_of_some _ e) (Nat.le_refl _) (show ObjOk X.prog X.w _ _ _ (.frz { cls := .type "tuple", data := .seq its.toArray } (.tup ys)) from ⟨Heap.get?_push_size _ rfl, hz, its, r', IsTup.new _ _⟩)
  exact ⟨.ref h'.objs.size, _, I2, rfl, q _ _ (I1.hok.fresh (Nat.le_refl _)) rfl⟩
theorem pairs_at {X : Cx} {pins : List (Addr × Obj)} {σ : L2.St} {H : Hp} {s : Shared} (I : Inv X pins σ H s) : ∀ {ps : List Addr} {kvs : List (Key × V)}, Paired (fun p kv => SqT X.K H p [kV kv.1, kv.2]) ps kvs →
    ∃ (prs : List (Key × Value)) (ws : List (Value × Value)), KV kvs prs ∧ prs.length = ps.length ∧ ws.length = ps.length ∧ ∀ (j : Nat) (x : Value × Value), ws[j]? = some x → ∃ (b : Addr) (k : Key), ps[j]? = some b ∧ prs[j]? = some (k, x.2) ∧ IsTup s.heap b #[x.1, x.2] ∧ (mixKind X.prog X.w).is k x.1 = true
  | _, _, .nil => ⟨[], [], .nil, rfl, rfl, fun j q e => by simp at e⟩
  | _, _, .cons (a := p) (b := kv) h t => by
    obtain ⟨prs, ws, r, hl, hw, hp⟩ := pairs_at I t
    obtain ⟨its, rv, ht, _⟩ := I.tuple h
    obtain ⟨u, y, ei, ru, ry⟩ := vals2 rv
    subst ei
    refine ⟨(kv.1, y) :: prs, (u, y) :: ws, .cons ⟨rfl, ry⟩ r, by rw [List.length_cons, List.length_cons, hl], by rw [List.length_cons, List.length_cons, hw], fun j q e => ?_⟩
    cases j with
    | zero =>
      have e' : (u, y) = q := Option.some.inj e
      subst e'
      exact ⟨p, kv.1, rfl, rfl, ht, kV_is ru⟩
    | succ j =>
      obtain ⟨b, k, e1, e2, e3⟩ := hp j q (by simpa using e)
      exact ⟨b, k, by simpa using e1, by simpa using e2, e3⟩
theorem call_dictT {X : Cx} (calm : X.calm = true) : CallR X (.type "dict") (fun xs H Q => ∃ (a : Addr) (ps : List Addr) (kvs : List (Key × V)), xs = [.ref a] ∧ FT H a (ps.map V.ref) ∧ Paired (fun p kv => SqT X.K H p [kV kv.1, kv.2]) ps kvs ∧
    ∀ p, H p = none → Q (.ref p) (L2.upd H p (.dK (mergeK [] kvs)))) := by
  intro pins s σ H xs us Q I r q
  obtain ⟨a, ps, kvs, ex, ⟨o, eo, od⟩, hp, q⟩ := q
  subst ex
  obtain ⟨u, eu, rx⟩ := vals1 r
  subst eu
  cases rx
  obtain ⟨ha, hz, its, rv, pt⟩ := (show ObjOk X.prog X.w H s.heap a (.frz o (.tup (ps.map V.ref))) from I.hok a _ eo)
  obtain ⟨o', ho', hc, n, hdat⟩ := pt
  rw [ha] at ho'
  obtain rfl := Option.some.inj ho'
  obtain rfl := refs_at rv
  rw [List.length_map] at hz
  obtain ⟨prs, ws, rel, hl, hw, hpr⟩ := pairs_at I hp
  refine PySem.call_dict_pairs (knd := mixKind X.prog X.w) (kvs := prs) (PairArg.tuple a (ps.map Value.ref).toArray (fun j => ps.getD j 0) ws) (I.ok.hd calm) ⟨⟨o, n, ha, hc, od, hdat⟩, by simp [hw], fun j k v e => ?_⟩ ⟨by rw [hl, hw], fun i key v e => ?_⟩ (by rw [hw]; exact hz) fun h' tk hd' k => ?_
  · obtain ⟨b, k', e1, _, e3, _⟩ := hpr j (k, v) e
    have eg : ps.getD j 0 = b := by rw [List.getD_eq_getElem?_getD, e1]; rfl
    refine ⟨by simp [e1], .inl ?_⟩
    show s.heap.IsTuple (ps.getD j 0) #[k, v]
    rw [eg]
    exact e3
  · obtain ⟨b, k', _, e2, _, e4⟩ := hpr i (key, v) e
    exact ⟨k', e2, e4⟩
  · have hm : (s.heap.objs.size == sysModules) = false := beq_eq_false_iff_ne.mpr (Nat.ne_of_gt I.big)
    have hlen : (mergeK [] kvs).length ≤ sizeLine := by
      refine Nat.le_trans (length_mergeK kvs []) ?_
      rw [List.length_nil, Nat.zero_add, rel.length, hl]
      exact hz
    exact ⟨.ref s.heap.objs.size, L2.upd H s.heap.objs.size (.dK (mergeK [] kvs)), I.laid (t' := tk) (fun b o e => k b o (fun h => nomatch h) e) (Nat.le_refl _) (show ObjOk X.prog X.w _ _ _ (.dK (mergeK [] kvs)) from ⟨hlen, hm, merged [] prs, KV.merge rel .nil, hd'⟩), rfl, q _ (I.hok.fresh (Nat.le_refl _))⟩
/-! ### d.update(e) of a dict -/
def tDUpd (td ty : TE) : TE := fun σ H Q => td σ H fun x H1 => ∃ a, x = .ref a ∧ IsD H1 a ∧ ty σ H1 fun y H2 => ∃ (b : Addr) (kvs more : List (Key × V)), y = .ref b ∧ a ≠ b ∧ H2 a = some (.dK kvs) ∧ Rd H2 b (.dK more) ∧ kvs.length + more.length ≤ sizeLine ∧ Q .non (L2.upd H2 a (.dK (mergeK kvs more)))
theorem d_update {X : Cx} {pins : List (Addr × Obj)} {σ : L2.St} {H : Hp} {s : Shared} {a b : Addr} {kvs more : List (Key × V)} {A : Around} {E : Value → Shared → Prop} {Q : Value → Shared → Prop} (I : Inv X pins σ H s) (e : H a = some (.dK kvs)) (eb : Rd H b (.dK more)) (hab : a ≠ b) (hl : kvs.length + more.length ≤ sizeLine)
    (h : ∀ s', Inv X pins σ (L2.upd H a (.dK (mergeK kvs more))) s' → Q .none s') : wpAny (model X.prog X.w) A (call (.builtin "dict.update") [.ref a, .ref b]) Q E s := by
  obtain ⟨z, hd, vs, rel, dd⟩ := dk_of I.hok e
  obtain ⟨zb, hb, ws, relb, db⟩ := dk_rd I.hok eb
  refine call_meetsIn PySem.F.slot_dict_update dd.typeIs PySem.F.entry_dict_update (PySem.F.args_dict_update_2 _ _) (meets_dict_update (mixKind X.prog X.w) a b hab hb)
    ⟨vs, ws, dd, db, by rw [← rel.length, ← relb.length]; exact hl, fun h' dd' _ hs => h _ ?_⟩
  have he : ∃ q, h'.get? a = some q := let ⟨q, _, _, hq, _⟩ := dd'; ⟨q, hq⟩
  exact d_write (t' := s.toks) I (by rw [e]; exact True.intro) hs he (dk_new (Nat.le_trans (length_mergeK more kvs) hl) hd (KV.merge relb rel) dd')
theorem pe_dupd {X : Cx} {o e : Expr} {apos cpos : Pos} {td ty : TE} (ho : PE X o td) (he : PE X e ty) (m : M1 X o "update" apos e cpos) : PE X (.Call (.Attribute o "update" apos) [e] [] cpos) (tDUpd td ty) := by
  refine ⟨fun pins s σ H Q I h => ?_⟩
  refine wpAny_Call_method m.base m.few m.line PySem.F.plainAttrs_dict PySem.F.slot_dict_update PySem.F.type_dict_update (thn (ho.run pins s σ H _ I h) fun u s1 ⟨x, H1, I1, rx, a, ex, d, q1⟩ => ?_)
  subst ex
  obtain rfl : u = Value.ref a := rx
  obtain ⟨t1, t2, _⟩ := isD_at I1 d
  refine ⟨t1, t2, ?_⟩
  rw [m.trees]
  refine Calls.callWith_builtin rfl (Calls.evalArgs_plain (Calls.spliced_cons (thn (he.run pins s1 σ H1 _ I1 q1) fun iv s2 ⟨y, H2, I2, ry, b, kvs, more, ey, hab, ea, eb, hl, q2⟩ => Calls.spliced_nil ?_)))
  subst ey
  obtain rfl : iv = Value.ref b := ry
  exact d_update I2 ea eb hab hl fun s3 I3 => ⟨.non, _, I3, rfl, q2⟩
/-! ### dicts of texts, told by what each text is -/
theorem valV_merge (k : Key) : ∀ (more kvs : List (Key × V)), (more.map (·.1)).Nodup → valV (mergeK kvs more) k = (valV more k).or (valV kvs k)
  | [], kvs, _ => by rw [valV_nil]; rfl
  | p :: r, kvs, h => by
    rw [List.map_cons, List.nodup_cons] at h
    show valV (mergeK (putK kvs p.1 p.2) r) k = _
    rw [valV_merge k r _ h.2, valV_put]
    by_cases c : p.1 = k
    · rw [valV_pos c, if_pos c.symm]
      have : valV r k = none := by
        cases e : valV r k with
        | none => rfl
        | some v =>
          exfalso
          have hs := valV_any k r
          rw [e] at hs
          obtain ⟨x, hx, hk⟩ := List.any_eq_true.mp hs
          exact h.1 (by rw [c, ← of_decide_eq_true hk]; exact List.mem_map_of_mem hx)
      rw [this]
      rfl
    · rw [valV_neg c, if_neg (Ne.symm c)]
/-- the dict at a is, for each text, what f says -/
def KfAt (K : PySem.W.Frag) (H : Hp) (a : Addr) (n : Nat) (f : Str → Option PyData) : Prop := ∃ kvs : List (Key × V), H a = some (.dK kvs) ∧ kvs.length ≤ n ∧ ∀ z, match f z with | none => valV kvs (.inr z) = none | some d => ∃ v, valV kvs (.inr z) = some v ∧ Dt K H v d
end LK

set_option Elab.async false
set_option linter.all false
set_option maxRecDepth 100000
set_option maxHeartbeats 4000000
/-! list(zip(x, y)) of two tuples: each step makes a new pair, which the list then holds; the list and the pairs are tracked from step to step -/
namespace LK
open PySem PySem.Spec PyProof.Rows L2 SX
theorem nolen_zip : typeLookup (.type "zip") "__len__" = pure none := by rw [typeLookup_type, builtinLookup_eq_fast]; kernel_rfl
theorem nohint_zip : typeLookup (.type "zip") "__length_hint__" = pure none := by rw [typeLookup_type, builtinLookup_eq_fast]; kernel_rfl
theorem hint_zip {prog : Program} {w : World} {A : Around} {E : Value → Shared → Prop} {s : Shared} {z : Addr} {Q : Bool → Shared → Prop} (hT : s.TypeIs (.ref z) "zip") (hQ : Q true s) :
    wpAny (model prog w) A (Builtin.List.listLengthHint (.ref z)) Q E s := by
  unfold Builtin.List.listLengthHint
  refine wpAny_bind (wpAny_specialOf hT nolen_zip ?_)
  show wpAny _ _ (specialOf (Value.ref z) (Str.ofString "__length_hint__") >>= _) _ _ _
  refine wpAny_bind (wpAny_specialOf hT nohint_zip ?_)
  exact wpAny_pure hQ
/-- where a zip of the tuples at a and b stands behind its i-th pair -/
def ZipT (z TI TO i1 i2 a b S : Addr) (xs ys : Array Value) (i : Nat) (h : Heap) : Prop :=
  IsTupOf2 h TI (.ref i1) (.ref i2) ∧ (h.IsTupleIter i1 a i ∧ h.IsTuple a xs) ∧ (h.IsTupleIter i2 b i ∧ h.IsTuple b ys) ∧
    ((IsZip h z TI TO .none ∧ ∃ x y, IsTupOf2 h TO x y) ∨ ∃ (T : Addr) (f : Bool) (oT : Obj), IsZipHeld h z TI TO T f ∧ h.get? T = some oT ∧ T ≠ z ∧ T ≠ i1 ∧ T ≠ i2 ∧ T ≠ S ∧ ∃ oO, h.get? TO = some oO)
theorem ZipT.at {z TI TO i1 i2 a b S : Addr} {xs ys : Array Value} {i : Nat} {h₁ h₂ : Heap} (st : ZipT z TI TO i1 i2 a b S xs ys i h₁) (hz : z ≠ S) (hTI : TI ≠ S) (hTO : TO ≠ S) (h1 : i1 ≠ S) (h2 : i2 ≠ S) (ha : a ≠ S) (hb : b ≠ S)
    (hk : ∀ c o, c ≠ S → h₁.get? c = some o → h₂.get? c = some o) : ZipT z TI TO i1 i2 a b S xs ys i h₂ := by
  obtain ⟨t, st1, st2, q⟩ := st
  refine ⟨hk _ _ hTI t, ⟨st1.1.at fun o e => hk _ o h1 e, st1.2.at fun o e => hk _ o ha e⟩, ⟨st2.1.at fun o e => hk _ o h2 e, st2.2.at fun o e => hk _ o hb e⟩, ?_⟩
  rcases q with ⟨q, x, y, t2⟩ | ⟨T, f, oT, q, hT, r1, r2, r3, r4, oO, r5⟩
  · exact .inl ⟨hk _ _ hz q, x, y, hk _ _ hTO t2⟩
  · exact .inr ⟨T, f, oT, hk _ _ hz q, hk _ _ r4 hT, r1, r2, r3, r4, oO, hk _ _ hTO r5⟩
/-- the pairs made so far: new, one for each place -/
def PairsAt (H0 H : Hp) (ts xs ys : List V) : Prop := ∀ (j : Nat) (t : V), ts[j]? = some t → ∃ (T : Addr) (x y : V), t = V.ref T ∧ H0 T = none ∧ H T = some (.tup [x, y]) ∧ xs[j]? = some x ∧ ys[j]? = some y
theorem Vals.getU : ∀ {xs : List V} {us : List Value} {i : Nat} {u : Value}, Vals xs us → us[i]? = some u → ∃ x, xs[i]? = some x ∧ RelV x u
  | _, _, 0, _, .cons h _, e => ⟨_, rfl, Option.some.inj e ▸ h⟩
  | _, _, i + 1, _, .cons _ a, e => Vals.getU (i := i) a (by simpa using e)
section
variable {X : Cx} {pins : List (Addr × Obj)} {σ : L2.St} {A : Around} {R : Result → Shared → Prop} {z TI TO i1 i2 a b S : Addr} {xs ys : Array Value} {vx vy : List V} {H0 : Hp}
theorem loopZ (hh : A.handled = none) (D : ZipApart z TI TO i1 i2 a b) (Sp : ZipSep2 z TI TO i1 i2 [i1, a] [i2, b]) (sz : S ≠ z) (sTI : S ≠ TI) (sTO : S ≠ TO) (s1 : S ≠ i1) (s2 : S ≠ i2) (sa : S ≠ a) (sb : S ≠ b)
    (rx : Vals vx xs.toList) (ry : Vals vy ys.toList) (hn : min xs.size ys.size ≤ sizeLine) (res : Value) :
    ∀ (k i : Nat) (s : Shared) (H : Hp) (ts : List V), min xs.size ys.size - i = k → i ≤ min xs.size ys.size → Inv X pins σ H s → (∀ c ∈ [z, TI, TO, i1, i2], FpOk X pins H c) → ZipT z TI TO i1 i2 a b S xs ys i s.heap →
      H S = some (.lst ts) → H0 S = none → Same H0 H → ts.length = i → PairsAt H0 H ts vx vy →
      (∀ (s' : Shared) (H' : Hp) (ts' : List V), Inv X pins σ H' s' → Same H0 H' → H' S = some (.lst ts') → ts'.length = min xs.size ys.size → PairsAt H0 H' ts' vx vy → R (.ok (.ret res)) s') →
      codeAny (model X.prog X.w) A (.builtin "list.extend.loop" ⟨[.ref S, .ref z, res], []⟩) R s := by
  have D1 := Draws.tuple (prog := X.prog) (w := X.w) (A := A.in1.in1) hh i1 a D.l1i1 xs
  have D2 := Draws.tuple (prog := X.prog) (w := X.w) (A := A.in1.in1) hh i2 b D.l2i2 ys
  have e1 : min xs.size ys.size ≤ xs.size := Nat.min_le_left ..
  have e2 : min xs.size ys.size ≤ ys.size := Nat.min_le_right ..
  have e3 : min xs.size ys.size = xs.size ∨ min xs.size ys.size = ys.size := by omega
  intro k
  induction k with
  | zero =>
    intro i s H ts hk hi I hf st hS h0S same hl hp hR
    have hin : i = min xs.size ys.size := by omega
    subst hin
    refine codeAny_builtin PySem.F.entry_extend_loop ?_
    rw [Around.under_plainId PySem.F.plain_extend_loop _]
    show wpAny _ A.in1 (pyNext (.ref z) >>= _) _ _ s
    obtain ⟨hTI, st1, st2, q⟩ := st
    have fin : ∀ h' tk, (∀ c o, c ∉ [z, TI, TO, i1, i2] → s.heap.get? c = some o → h'.get? c = some o) → R (.ok (.ret res)) { s with heap := h', toks := tk } := fun h' tk hk' =>
      hR _ H ts (I.turnedL (t' := tk) hk' hf) same hS hl hp
    rcases q with ⟨q, x, y, hTO⟩ | ⟨T, f, oT, q, hT, _⟩
    · refine wpAny_bind (wpAny_pyNext_zipD2_end Sp D1 D2 q hTI hTO st1 st2 e1 e2 e3 fun h' tk hk' => ?_)
      exact wpAny_pure (fin h' tk fun c o hc e => hk' c o (fun x => hc (by simp [x])) (fun x => hc (by simp [x])) (fun x => hc (by simp [x])) (fun x => hc (by simp [x])) e)
    · refine wpAny_bind (zipH_pyNext_end Sp D1 D2 q hT hTI st1 st2 e1 e2 e3 fun h' tk hk' => ?_)
      exact wpAny_pure (fin h' tk fun c o hc e => hk' c o (fun x => hc (by simp [x])) (fun x => hc (by simp [x])) (fun x => hc (by simp [x])) e)
  | succ k ih =>
    intro i s H ts hk hi I hf st hS h0S same hl hp hR
    have hlt : i < min xs.size ys.size := by omega
    refine codeAny_builtin PySem.F.entry_extend_loop ?_
    rw [Around.under_plainId PySem.F.plain_extend_loop _]
    show wpAny _ A.in1 (pyNext (.ref z) >>= _) _ _ s
    have lt : ∀ {c o}, s.heap.get? c = some o → s.heap.objs.size ≠ c := fun e => Nat.ne_of_gt (Heap.lt_size e)
    obtain ⟨hTI, st1, st2, q⟩ := st
    have n1 : s.heap.objs.size ≠ i1 := let ⟨_, e, _⟩ := st1.1; lt e
    have n2 : s.heap.objs.size ≠ i2 := let ⟨_, e, _⟩ := st2.1; lt e
    have nz : s.heap.objs.size ≠ z := by
      rcases q with ⟨q, _⟩ | ⟨_, _, _, q, _⟩
      · exact lt q
      · exact lt q
    have nTO : s.heap.objs.size ≠ TO := by
      rcases q with ⟨_, _, _, q⟩ | ⟨_, _, _, _, _, _, _, _, _, _, q⟩
      · exact lt q
      · exact lt q
    obtain ⟨hz, its, c, rv, hSo⟩ := (show ObjOk X.prog X.w H s.heap S (.lst ts) from I.hok S _ hS)
    have nS : s.heap.objs.size ≠ S := lt hSo
    -- what stands to be done behind the step
    have step : ∀ (x1 x2 : Value) (h' : Heap) (tk : Nat), xs[i]? = some x1 → ys[i]? = some x2 → (∃ (T : Addr) (f : Bool) (oT : Obj), IsZipHeld h' z TI TO T f ∧ h'.get? T = some oT ∧ T ≠ z ∧ T ≠ i1 ∧ T ≠ i2 ∧ T ≠ S ∧ ∃ oO, h'.get? TO = some oO) → (h'.IsTupleIter i1 a (i + 1) ∧ h'.IsTuple a xs) → (h'.IsTupleIter i2 b (i + 1) ∧ h'.IsTuple b ys) →
        IsTupOf2 h' s.heap.objs.size x1 x2 → (∀ c o, c ∉ [z, TO, i1, i2] → s.heap.get? c = some o → h'.get? c = some o) →
        wpAny (model X.prog X.w) A.in1 (updateSeq S (·.push (.ref s.heap.objs.size)) >>= fun _ => again (.builtin "list.extend.loop" ⟨[.ref S, .ref z, res], []⟩))
          (fun fin s' => match fin with | .done f => R (.ok f) s' | .again c' => c'.quiet = true ∧ codeAny (model X.prog X.w) A c' R s') (fun e s' => R (.error e) s') { s with heap := h', toks := tk } := by
      intro x1 x2 h' tk hx1 hx2 hzh j1 j2 hpr hk'
      obtain ⟨y1, gx, r1⟩ := LK.Vals.getU (i := i) (u := x1) rx (by simpa using hx1)
      obtain ⟨y2, gy, r2⟩ := LK.Vals.getU (i := i) (u := x2) ry (by simpa using hx2)
      have hTn : H s.heap.objs.size = none := I.hok.fresh (Nat.le_refl _)
      have new1 : ObjOk X.prog X.w (upd H s.heap.objs.size (.tup [y1, y2])) h' s.heap.objs.size (.tup [y1, y2]) := ⟨by show 2 ≤ sizeLine; decide, [x1, x2], .cons r1 (.cons r2 .nil), ⟨_, hpr, rfl, _, rfl⟩⟩
      have I1 : Inv X pins σ (upd H s.heap.objs.size (.tup [y1, y2])) { s with heap := h', toks := tk } :=
        I.turnedNew (ch := [z, TI, TO, i1, i2]) (fun c o hb e => hk' c o (fun hm => hb (by simp at hm ⊢; rcases hm with r | r | r | r <;> simp [r])) e) hf (Nat.le_refl _) new1
      have hSo' : h'.get? S = some { cls := .type "list", dict := none, data := .seq its.toArray c, slots := #[] } := hk' S _ (by simp [sz, sTO, s1, s2]) hSo
      have hS1 : (upd H s.heap.objs.size (.tup [y1, y2])) S = some (.lst ts) := by rw [upd_ne nS.symm]; exact hS
      have lits : its.length = i := by rw [← rv.length]; exact hl
      refine wpAny_bind ?_
      refine wpAny_updateSeq (s := { s with heap := h', toks := tk }) hSo' rfl (wpAny_pure ⟨plainId_quiet PySem.F.plain_extend_loop _, ?_⟩) (by simp only [List.size_toArray]; omega) (by show (its.toArray.push _).size ≤ sizeLine + 1; rw [Array.size_push, List.size_toArray]; omega)
      have oth : ∀ c o, c ≠ S → h'.get? c = some o → (h'.update S (Obj.mapSeq (·.push (.ref s.heap.objs.size)))).get? c = some o := fun c o hc e => (Heap.get?_update_other _ _ (Ne.symm hc)).trans e
      have gS := Heap.get?_update_self (Obj.mapSeq (·.push (.ref s.heap.objs.size))) hSo' rfl
      have new2 : ObjOk X.prog X.w (upd (upd H s.heap.objs.size (.tup [y1, y2])) S (.lst (ts ++ [.ref s.heap.objs.size]))) (h'.update S (Obj.mapSeq (·.push (.ref s.heap.objs.size)))) S (.lst (ts ++ [.ref s.heap.objs.size])) := by
        have ea : its.toArray.push (Value.ref s.heap.objs.size) = (its ++ [Value.ref s.heap.objs.size]).toArray := by simp
        have rvn : Vals (ts ++ [V.ref s.heap.objs.size]) (its ++ [Value.ref s.heap.objs.size]) := rv.append (.cons (show L2.RelV (V.ref s.heap.objs.size) (Value.ref s.heap.objs.size) from rfl) .nil)
        exact ⟨by simp; omega, its ++ [Value.ref s.heap.objs.size], _, rvn, by rw [← ea]; exact gS⟩
      have I2 := I1.write (x := S) (e := S) (o := .lst (ts ++ [.ref s.heap.objs.size])) (t' := tk) (by rw [hS1]; exact True.intro) (.inl rfl) oth ⟨_, gS⟩ new2
      refine ih (i + 1) _ _ (ts ++ [.ref s.heap.objs.size]) (by omega) hlt I2 (fun c hcm => ?_) ?_ upd_same h0S ?_ (by simp [hl]) ?_ hR
      · have hc := hf c hcm
        have cT : c ≠ s.heap.objs.size := by
          simp only [List.mem_cons, List.not_mem_nil, or_false] at hcm
          rcases hcm with r | r | r | r | r
          · rw [r]; exact nz.symm
          · rw [r]; exact (lt hTI).symm
          · rw [r]; exact nTO.symm
          · rw [r]; exact n1.symm
          · rw [r]; exact n2.symm
        have cS : c ≠ S := by
          simp only [List.mem_cons, List.not_mem_nil, or_false] at hcm
          rcases hcm with r | r | r | r | r <;> rw [r]
          · exact sz.symm
          · exact sTI.symm
          · exact sTO.symm
          · exact s1.symm
          · exact s2.symm
        exact ⟨by rw [upd_ne cS, upd_ne cT]; exact hc.1, hc.2⟩
      · exact ZipT.at (h₁ := h') ⟨hk' _ _ (by simp [D.TIz, D.TITO, D.TIi1, D.TIi2]) hTI, j1, j2, .inr hzh⟩ sz.symm sTI.symm sTO.symm s1.symm s2.symm sa.symm sb.symm oth
      · intro p o e
        have pS : p ≠ S := fun r => by rw [r, h0S] at e; cases e
        have eH := same p o e
        have pT : p ≠ s.heap.objs.size := fun r => by rw [r, hTn] at eH; cases eH
        rw [upd_ne pS, upd_ne pT]; exact eH
      · intro j t ej
        by_cases hj : j < ts.length
        · rw [List.getElem?_append_left hj] at ej
          obtain ⟨T, x, y, et, h0, hT, ex, ey⟩ := hp j t ej
          refine ⟨T, x, y, et, h0, ?_, ex, ey⟩
          have pS : T ≠ S := fun r => by rw [r, hS] at hT; cases hT
          have pT : T ≠ s.heap.objs.size := fun r => by rw [r, hTn] at hT; cases hT
          rw [upd_ne pS, upd_ne pT]; exact hT
        · rw [List.getElem?_append_right (by omega)] at ej
          have hj0 : j = ts.length := by
            rcases Nat.eq_or_lt_of_le (Nat.le_of_not_lt hj) with r | r
            · exact r.symm
            · rw [List.getElem?_eq_none (by simp; omega)] at ej; cases ej
          subst hj0
          simp at ej
          refine ⟨s.heap.objs.size, y1, y2, ej.symm, ?_, by rw [upd_ne nS]; exact upd_same, by rw [hl]; exact gx, by rw [hl]; exact gy⟩
          cases e : H0 s.heap.objs.size with
          | none => rfl
          | some o => have := same _ _ e; rw [hTn] at this; cases this
    have hix : i < xs.size := Nat.lt_of_lt_of_le hlt e1
    have hiy : i < ys.size := Nat.lt_of_lt_of_le hlt e2
    rcases q with ⟨q, x, y, hTO⟩ | ⟨T, f, oT, q, hT, r1, r2, r3, r4, oO, r5⟩
    · refine wpAny_bind (wpAny_pyNext_zipD2_item Sp D1 D2 q hTI hTO st1 st2 hix hiy fun x1 x2 h' tk p1 p2 b1 b2 b3 b4 b5 b6 hk' => ?_)
      exact step x1 x2 h' tk p1 p2 ⟨s.heap.objs.size, false, _, b1, b5, nz, n1, n2, nS, _, b2⟩ b3 b4 b5 fun c o hc e => hk' c o (fun x => hc (by simp [x])) (fun x => hc (by simp [x])) (fun x => hc (by simp [x])) (fun x => hc (by simp [x])) e
    · refine wpAny_bind (zipH_pyNext_item Sp D1 D2 q hT hTI st1 st2 hix hiy fun x1 x2 h' tk p1 p2 b1 b3 b4 b5 b6 hk' => ?_)
      exact step x1 x2 h' tk p1 p2 ⟨T, true, oT, b1, hk' _ _ r1 r2 r3 hT, r1, r2, r3, r4, oO, hk' _ _ Sp.TOz D.TOi1 D.TOi2 r5⟩ b3 b4 b5 fun c o hc e => hk' c o (fun x => hc (by simp [x])) (fun x => hc (by simp [x])) (fun x => hc (by simp [x])) e
theorem extendZ {s : Shared} {H : Hp} (hh : A.handled = none) (D : ZipApart z TI TO i1 i2 a b) (Sp : ZipSep2 z TI TO i1 i2 [i1, a] [i2, b]) (sz : S ≠ z) (sTI : S ≠ TI) (sTO : S ≠ TO) (s1 : S ≠ i1) (s2 : S ≠ i2) (sa : S ≠ a) (sb : S ≠ b)
    (rx : Vals vx xs.toList) (ry : Vals vy ys.toList) (hn : min xs.size ys.size ≤ sizeLine) (res : Value) (I : Inv X pins σ H s) (hf : ∀ c ∈ [z, TI, TO, i1, i2], FpOk X pins H c) (st : ZipT z TI TO i1 i2 a b S xs ys 0 s.heap) (hz : IsZip s.heap z TI TO .none)
    (hS : H S = some (.lst [])) (h0S : H0 S = none) (same : Same H0 H)
    (hR : ∀ (s' : Shared) (H' : Hp) (ts' : List V), Inv X pins σ H' s' → Same H0 H' → H' S = some (.lst ts') → ts'.length = min xs.size ys.size → PairsAt H0 H' ts' vx vy → R (.ok (.ret res)) s') :
    wpAny (model X.prog X.w) A.in1 (Builtin.List.listExtendWith (.ref S) (.ref z) res)
      (fun fin s' => match fin with | .done f => R (.ok f) s' | .again c' => c'.quiet = true ∧ codeAny (model X.prog X.w) A c' R s') (fun e s' => R (.error e) s') s := by
  have hT : s.TypeIs (.ref z) "zip" := ⟨_, hz, rfl⟩
  have h1 : Builtin.List.listSameRef (.ref S) (.ref z) = false := by simp [Builtin.List.listSameRef, sz]
  obtain ⟨hl, its, c, rv, hSo⟩ := (show ObjOk X.prog X.w H s.heap S (.lst []) from I.hok S _ hS)
  obtain rfl : its = [] := by cases rv; rfl
  unfold Builtin.List.listExtendWith
  refine wpAny_bind (wpAny_typeOf hT ?_)
  rw [if_neg (by rw [h1]; decide)]
  refine wpAny_bind (wpAny_pyIter_zip hz ?_)
  refine wpAny_bind (wpAny_holding (hint_zip hT ?_))
  refine wpAny_ite_split (fun _ => ?_) (fun h => absurd (by rfl) h)
  refine wpAny_bind (wpAny_rule ?_)
  refine wpAny_bind ?_
  show wpAny _ _ (updateSeq S (·.push .none) >>= fun _ => updateSeq S (·.pop)) _ _ _
  refine wpAny_bind (wpAny_updateSeq hSo rfl ?_)
  have hS₂ := Heap.get?_update_self (Obj.mapSeq (·.push Value.none)) hSo rfl
  refine wpAny_updateSeq (hz := by seq_fits) hS₂ rfl ?_
  have hS₃ := Heap.get?_update_self (Obj.mapSeq (·.pop)) hS₂ rfl
  have oth : ∀ c o, c ≠ S → s.heap.get? c = some o → ((s.heap.update S (Obj.mapSeq (·.push Value.none))).update S (Obj.mapSeq (·.pop))).get? c = some o := fun c o hc e => (Heap.get?_update_other _ _ (Ne.symm hc)).trans ((Heap.get?_update_other _ _ (Ne.symm hc)).trans e)
  have I2 := I.write (x := S) (e := S) (o := .lst []) (t' := s.toks) (by rw [hS]; exact True.intro) (.inl rfl) oth ⟨_, hS₃⟩ (show ObjOk X.prog X.w _ _ S (.lst []) from ⟨hl, [], _, .nil, hS₃⟩)
  refine wpAny_pure ⟨plainId_quiet PySem.F.plain_extend_loop _, loopZ hh D Sp sz sTI sTO s1 s2 sa sb rx ry hn res _ 0 _ _ [] rfl (Nat.zero_le _) I2 (fun c hcm => ?_) (st.at sz.symm sTI.symm sTO.symm s1.symm s2.symm sa.symm sb.symm oth) upd_same h0S (fun p o e => ?_) rfl (fun j t e => by simp at e) hR⟩
  · have hc := hf c hcm
    have cS : c ≠ S := by
      simp only [List.mem_cons, List.not_mem_nil, or_false] at hcm
      rcases hcm with r | r | r | r | r <;> rw [r]
      · exact sz.symm
      · exact sTI.symm
      · exact sTO.symm
      · exact s1.symm
      · exact s2.symm
    exact ⟨by rw [upd_ne cS]; exact hc.1, hc.2⟩
  · have pS : p ≠ S := fun r => by rw [r, h0S] at e; cases e
    rw [upd_ne pS]; exact same p o e
end
theorem call_listZ {X : Cx} {pins : List (Addr × Obj)} {σ : L2.St} {A : Around} {E : Value → Shared → Prop} {z TI TO i1 i2 a b : Addr} {xs ys : Array Value} {vx vy : List V} {s : Shared} {H : Hp} {Q : Value → Shared → Prop} (hh : A.handled = none) (D : ZipApart z TI TO i1 i2 a b) (Sp : ZipSep2 z TI TO i1 i2 [i1, a] [i2, b])
    (rx : Vals vx xs.toList) (ry : Vals vy ys.toList) (hn : min xs.size ys.size ≤ sizeLine) (I : Inv X pins σ H s) (hf : ∀ c ∈ [z, TI, TO, i1, i2], FpOk X pins H c) (hz : IsZip s.heap z TI TO .none) (hTI : IsTupOf2 s.heap TI (.ref i1) (.ref i2)) (hTO : ∃ x y, IsTupOf2 s.heap TO x y)
    (h1 : s.heap.IsTupleIter i1 a 0) (h2 : s.heap.IsTupleIter i2 b 0) (ha : s.heap.IsTuple a xs) (hb : s.heap.IsTuple b ys)
    (hQ : ∀ (s' : Shared) (q : Addr) (H' : Hp) (ts' : List V), Inv X pins σ H' s' → Same H H' → H q = none → H' q = some (.lst ts') → ts'.length = min xs.size ys.size → PairsAt H H' ts' vx vy → Q (.ref q) s') :
    wpAny (model X.prog X.w) A (call (.type "list") [.ref z]) Q E s := by
  refine callType_codes (Q₁ := fun obj s₁ => obj = .ref s.heap.objs.size ∧ s₁ = { s with heap := s.heap.push { cls := .type "list", data := .seq #[] } }) PySem.F.called_list (PySem.F.typeCall_list_1 _) PySem.F.entry_list_init
    (code_list_new _ ⟨rfl, rfl⟩) fun obj s₁ h₁ => ?_
  obtain ⟨rfl, rfl⟩ := h₁
  have hS : (s.heap.push { cls := .type "list", data := .seq #[] }).get? s.heap.objs.size = some { cls := .type "list", data := .seq #[] } := Heap.get?_push_size _ rfl
  refine ⟨⟨_, hS, rfl⟩, PySem.F.args_list_init_2 _ _, ?_⟩
  show wpAny _ _ (do let old ← Builtin.List.listItems (.ref s.heap.objs.size); Builtin.List.listUpdate (.ref s.heap.objs.size) (fun _ => #[]); letGo old.toList.reverse; Builtin.List.listExtendWith (.ref s.heap.objs.size) (.ref z) .none) _ _ _
  refine wpAny_bind ?_
  unfold Builtin.List.listItems
  refine wpAny_bind (wpAny_seqItems hS rfl (wpAny_pure ?_))
  show wpAny _ _ (updateSeq s.heap.objs.size (fun _ => #[]) >>= fun _ => letGo (#[] : Array Value).toList.reverse >>= fun _ => Builtin.List.listExtendWith (.ref s.heap.objs.size) (.ref z) .none) _ _ _
  refine wpAny_bind (wpAny_updateSeq hS rfl ?_)
  have hS₂ := Heap.get?_update_self (Obj.mapSeq (fun _ => (#[] : Array Value))) hS rfl
  have lt : ∀ {c o}, s.heap.get? c = some o → s.heap.objs.size ≠ c := fun e => Nat.ne_of_gt (Heap.lt_size e)
  have oth : ∀ b o, s.heap.get? b = some o → ((s.heap.push { cls := .type "list", data := .seq #[] }).update s.heap.objs.size (Obj.mapSeq (fun _ => (#[] : Array Value)))).get? b = some o :=
    fun b o e => (Heap.get?_update_other _ _ (lt e)).trans (Heap.get?_push_of_some _ e)
  have hn0 : H s.heap.objs.size = none := I.hok.fresh (Nat.le_refl _)
  have I2 : Inv X pins σ (upd H s.heap.objs.size (.lst [])) { s with heap := (s.heap.push { cls := .type "list", data := .seq #[] }).update s.heap.objs.size (Obj.mapSeq (fun _ => (#[] : Array Value))) } :=
    I.laid (t' := s.toks) oth (Nat.le_refl _) (show ObjOk X.prog X.w _ _ _ (.lst []) from ⟨Nat.zero_le _, [], _, .nil, hS₂⟩)
  refine wpAny_bind (wpAny_letGo ?_)
  obtain ⟨x0, y0, hTO⟩ := hTO
  have si1 : s.heap.objs.size ≠ i1 := let ⟨_, e, _⟩ := h1; lt e
  have si2 : s.heap.objs.size ≠ i2 := let ⟨_, e, _⟩ := h2; lt e
  have sa : s.heap.objs.size ≠ a := let ⟨_, e, _⟩ := ha; lt e
  have sb : s.heap.objs.size ≠ b := let ⟨_, e, _⟩ := hb; lt e
  refine extendZ (A := A.in1) (H0 := H) hh D Sp (lt hz) (lt hTI) (lt hTO) si1 si2 sa sb rx ry hn .none I2 (fun c hcm => ?_) ⟨oth _ _ hTI, ⟨h1.at fun o e => oth _ o e, ha.at fun o e => oth _ o e⟩, ⟨h2.at fun o e => oth _ o e, hb.at fun o e => oth _ o e⟩, .inl ⟨oth _ _ hz, x0, y0, oth _ _ hTO⟩⟩ (oth _ _ hz) upd_same hn0 (Same.new hn0) fun s' H' ts' I' e1 e2 e3 e4 => ?_
  · have hc := hf c hcm
    have cS : c ≠ s.heap.objs.size := by
      simp only [List.mem_cons, List.not_mem_nil, or_false] at hcm
      rcases hcm with r | r | r | r | r <;> rw [r]
      · exact (lt hz).symm
      · exact (lt hTI).symm
      · exact (lt hTO).symm
      · exact si1.symm
      · exact si2.symm
    exact ⟨by rw [upd_ne cS]; exact hc.1, hc.2⟩
  · exact ⟨rfl, hQ s' _ H' ts' I' e1 hn0 e2 e3 e4⟩
def tListZ (K : PySem.W.Frag) (ta : TA) : TE := fun σ H Q => ta σ H fun vs H1 => ∃ (a b : Addr) (xs ys : List V), vs = [.ref a, .ref b] ∧ SqT K H1 a xs ∧ SqT K H1 b ys ∧
  ∀ (q : Addr) (H' : Hp) (ts : List V), Same H1 H' → H1 q = none → H' q = some (.lst ts) → ts.length = min xs.length ys.length → PairsAt H1 H' ts xs ys → Q (.ref q) H'
theorem pe_listZ {X : Cx} {e e2 : Expr} {ta : TA} {p p1 pos pos2 : Pos} (calm : X.calm = true) (hg : Gl X "zip") (hm : X.mg "zip" = none) (hgl : Gl X "list") (hml : X.mg "list" = none) (ha : PA X [e, e2] ta)
    (hs : starEach [e, e2] X.env = (false, eval e X.env) :: starEach [e2] X.env := by rfl) (hpl : (backTo pos (starEach [e2] X.env)).any (·.1) = false := by rfl)
    (hs2 : starEach [.Call (.Name "zip" p) [e, e2] [] pos] X.env = (false, eval (.Call (.Name "zip" p) [e, e2] [] pos) X.env) :: starEach [] X.env := by rfl) :
    PE X (.Call (.Name "list" p1) [.Call (.Name "zip" p) [e, e2] [] pos] [] pos2) (tListZ X.K ta) := by
  refine ⟨fun pins s σ H Q I h => ?_⟩
  refine wpAny_Call_Name_kw (ld_blt I hgl hml PyProof.Rows.boot_list ?_ (by decide) (by decide))
  refine PyProof.Rows.callWith_type1 ?_ hs2 rfl
  rw [hs2]
  show wpAny _ _ (spliced ((false, eval (.Call (.Name "zip" p) [e, e2] [] pos) X.env) :: backTo pos2 (starEach [] X.env))) _ _ s
  refine Calls.spliced_cons ?_
  refine wpAny_Call_Name_kw (ld_blt I hg hm PyProof.Rows.boot_zip (PyProof.Rows.callWith_type1 (thn (ha.run pos pins s σ H _ I h) fun us s1 ⟨vs, H1, I1, r1, q1⟩ => ?_) hs hpl) (by decide) (by decide))
  obtain ⟨a, b, xs, ys, rfl, hqa, hqb, q⟩ := q1
  obtain ⟨u1, u2, rfl, r1, r2⟩ := vals2 r1
  cases r1
  cases r2
  obtain ⟨ia, ra, pa, za⟩ := I1.tuple hqa
  obtain ⟨ib, rb, pb, zb⟩ := I1.tuple hqb
  obtain ⟨oa, hoa, _⟩ := id pa
  obtain ⟨ob, hob, _⟩ := id pb
  have D := PySem.W.ktu_apart s1.heap.objs.size a b (Heap.lt_size hoa) (Heap.lt_size hob)
  refine zip_begins2 (begins_tuple a ia.toArray) (begins_tuple b ib.toArray) pa pb fun h' hz hTI hTO h1 h2 hsz hk => Calls.spliced_nil ?_
  have la := ra.length
  have lb := rb.length
  have I2 : Inv X pins σ H1 { s1 with heap := h' } := I1.kept (t' := s1.toks) hk
  refine call_listZ (s := { s1 with heap := h' }) (xs := ia.toArray) (ys := ib.toArray) (I1.ok.hd calm) D (sep_T D) ra rb (by simp only [List.size_toArray]; omega) I2 (fun c hcm => ?_) hz hTI ⟨_, _, hTO⟩ ⟨_, h1, rfl, rfl⟩ ⟨_, h2, rfl, rfl⟩ (pa.keeps hk) (pb.keeps hk) fun s' p H' ts I' e1 e2 e3 e4 e5 => ?_
  · have hle : s1.heap.objs.size ≤ c := by
      simp only [List.mem_cons, List.not_mem_nil, or_false] at hcm
      rcases hcm with z | z | z | z | z <;> rw [z] <;> first | exact Nat.le_add_right _ _ | exact Nat.le_refl _
    exact I1.fpOk hle (I1.hok.fresh hle)
  · exact ⟨.ref p, H', I', rfl, q p H' ts e1 e2 e3 (by rw [e4]; simp only [List.size_toArray]; omega) e5⟩
/-- a while by an invariant that carries its measure -/
theorem while_upN {c : TT} {tb : TS} {D : Ends} {σ : L2.St} {H : Hp} (W : Nat → L2.St → Hp → Prop) (h0 : ∃ m, W m σ H)
    (hs : ∀ m σ H, W m σ H → c σ H fun b H1 => if b = true then tb { D with nx := fun σ' H' => ∃ m', m' < m ∧ W m' σ' H', ct := fun σ' H' => ∃ m', m' < m ∧ W m' σ' H', bk := D.nx } σ H1 else D.nx σ H1) : tWhile (tUp c) tb D σ H := by
  refine ⟨W, h0, fun m σ H w => ⟨_, hs m σ H w, fun b H1 h => ?_⟩⟩
  cases b with
  | false => exact h
  | true => exact ⟨_, fun σ' H' q => q, h⟩
end LK


set_option Elab.async false
set_option linter.all false
set_option maxRecDepth 100000
set_option maxHeartbeats 4000000
set_option exponentiation.threshold 3000
namespace K82
open PySem PySem.Spec PyProof.Rows LK NdefX SupX SX
open L2 hiding spCell
def top (i : Nat) : Stmt := PySem.Challenge.pw_pyhold_k82_hides_numbers.main.body.getD i (.Pass ⟨0, 0, 0, 0⟩)
structure Txt (K : PySem.W.Frag) (mg : Str → Option Value) : Prop where
  c_FIRST_OBJECTS : GInt mg "FIRST_OBJECTS" 17
  c_BASE : GInt mg "BASE" 128
  c_MARK : GInt mg "MARK" 1
  c_MOST_NUMBERS : GInt mg "MOST_NUMBERS" 1000000
  c_CHARACTERS : GStr mg "CHARACTERS" chStr
  b_len : mg "len" = none
  b_int : mg "int" = none
  b_range : mg "range" = none
  b_list : mg "list" = none
  b_tuple : mg "tuple" = none
  b_isinstance : mg "isinstance" = none
  b_bool : mg "bool" = none
  b_str : mg "str" = none
  b_abs : mg "abs" = none
  b_zip : mg "zip" = none
  b_enumerate : mg "enumerate" = none
  b_reversed : mg "reversed" = none
  b_min : mg "min" = none
def addN (f : List Int) : List Int → List Int
  | [] => f
  | k :: r => addN (if k ∈ f then f else f ++ [k]) r
theorem addN_app (f a b : List Int) : addN f (a ++ b) = addN (addN f a) b := by
  induction a generalizing f with
  | nil => rfl
  | cons k r ih => simp only [List.cons_append, addN]; exact ih _
/-- what is added stands behind, comes from the row, and all of the row is there -/
theorem addN_pref (f rs : List Int) : ∃ more, addN f rs = f ++ more ∧ ∀ x ∈ more, x ∈ rs := by
  induction rs generalizing f with
  | nil => exact ⟨[], by simp [addN], by simp⟩
  | cons k r ih =>
    obtain ⟨m, e, h⟩ := ih (if k ∈ f then f else f ++ [k])
    by_cases c : k ∈ f
    · rw [if_pos c] at e
      exact ⟨m, by rw [addN, if_pos c, e], fun x hx => List.mem_cons_of_mem _ (h x hx)⟩
    · rw [if_neg c] at e
      refine ⟨k :: m, by rw [addN, if_neg c, e]; simp, fun x hx => ?_⟩
      rcases List.mem_cons.mp hx with rfl | hx
      · exact List.mem_cons_self
      · exact List.mem_cons_of_mem _ (by
          have := h x
          exact h x hx)
theorem addN_nodup {f : List Int} (rs : List Int) (h : f.Nodup) : (addN f rs).Nodup := by
  induction rs generalizing f with
  | nil => exact h
  | cons k r ih =>
    rw [addN]
    by_cases c : k ∈ f
    · rw [if_pos c]; exact ih h
    · rw [if_neg c]
      refine ih (List.nodup_append.mpr ⟨h, by simp, fun a ha b hb => ?_⟩)
      rw [List.mem_singleton.mp hb]
      exact fun e => c (e ▸ ha)
theorem addN_sub {f x} (rs : List Int) (h : x ∈ f) : x ∈ addN f rs := by
  obtain ⟨m, e, _⟩ := addN_pref f rs
  rw [e]; exact List.mem_append_left _ h
theorem addN_all (f rs : List Int) : ∀ x ∈ rs, x ∈ addN f rs := by
  induction rs generalizing f with
  | nil => simp
  | cons k r ih =>
    intro x hx
    rw [addN]
    rcases List.mem_cons.mp hx with rfl | hx
    · refine addN_sub r ?_
      by_cases c : x ∈ f
      · rw [if_pos c]; exact c
      · rw [if_neg c]; simp
    · exact ih _ x hx
theorem addN_mem {f rs : List Int} {x : Int} (h : x ∈ addN f rs) : x ∈ f ∨ x ∈ rs := by
  obtain ⟨m, e, hm⟩ := addN_pref f rs
  rw [e] at h
  rcases List.mem_append.mp h with h | h
  · exact .inl h
  · exact .inr (hm x h)
theorem addN_len (f rs : List Int) : (addN f rs).length ≤ f.length + rs.length := by
  induction rs generalizing f with
  | nil => exact Nat.le_refl _
  | cons k r ih =>
    rw [addN]
    have := ih (if k ∈ f then f else f ++ [k])
    have h2 : (if k ∈ f then f else f ++ [k]).length ≤ f.length + 1 := by split <;> simp
    rw [List.length_cons]; omega
/-- numbers below m, none twice: at most m -/
theorem nodup_len : ∀ (m : Nat) (l : List Int), l.Nodup → (∀ x ∈ l, 0 ≤ x ∧ x < (m : Int)) → l.length ≤ m
  | 0, l, _, h => by
    cases l with
    | nil => exact Nat.le_refl _
    | cons x r => have := h x (by simp); omega
  | m + 1, l, hn, h => by
    have h1 := nodup_len m (l.erase (m : Int)) (hn.erase _) (fun x hx => by
      obtain ⟨h2, h3⟩ := (List.Nodup.mem_erase_iff hn).mp hx
      have := h x h3
      omega)
    have : l.length ≤ (l.erase (m : Int)).length + 1 := by
      rw [List.length_erase]
      split <;> omega
    omega
def S0 (roots : List Int) : List Int := addN ((List.range 17).map fun (i : Nat) => (i : Int)) roots
def St (R : Int → List Int) (roots : List Int) : Nat → List Int
  | 0 => S0 roots
  | t + 1 => match (St R roots t)[t]? with
    | some k => addN (St R roots t) (R k)
    | none => St R roots t
section
variable {R : Int → List Int} {roots : List Int}
theorem St_lt {t : Nat} {k : Int} (h : (St R roots t)[t]? = some k) : St R roots (t + 1) = addN (St R roots t) (R k) := by
  rw [St, h]
theorem St_pref (t : Nat) : ∃ more, St R roots (t + 1) = St R roots t ++ more := by
  rw [St]
  split
  · obtain ⟨m, e, _⟩ := addN_pref (St R roots t) (R _)
    exact ⟨m, e⟩
  · exact ⟨[], by simp⟩
theorem St_le {s t : Nat} (h : s ≤ t) : ∃ more, St R roots t = St R roots s ++ more := by
  induction t with
  | zero => obtain rfl : s = 0 := by omega
            exact ⟨[], by simp⟩
  | succ t ih =>
    by_cases e : s = t + 1
    · subst e; exact ⟨[], by simp⟩
    · obtain ⟨m, e1⟩ := ih (by omega)
      obtain ⟨m2, e2⟩ := St_pref (R := R) (roots := roots) t
      exact ⟨m ++ m2, by rw [e2, e1, List.append_assoc]⟩
theorem St_at {s t i : Nat} {k : Int} (h : s ≤ t) (e : (St R roots s)[i]? = some k) : (St R roots t)[i]? = some k := by
  obtain ⟨m, e1⟩ := St_le (R := R) (roots := roots) h
  rw [e1, List.getElem?_append_left (List.getElem?_eq_some_iff.mp e).1]; exact e
theorem range17_nodup : ((List.range 17).map fun (i : Nat) => (i : Int)).Nodup := by decide
theorem St_nodup : ∀ t, (St R roots t).Nodup
  | 0 => addN_nodup _ range17_nodup
  | t + 1 => by
    rw [St]
    split
    · exact addN_nodup _ (St_nodup t)
    · exact St_nodup t
theorem St_lt_m {m : Nat} (hm : 17 ≤ m) (hR : ∀ k x, x ∈ R k → 0 ≤ x ∧ x < (m : Int)) (hr : ∀ x ∈ roots, 0 ≤ x ∧ x < (m : Int)) : ∀ t, ∀ x ∈ St R roots t, 0 ≤ x ∧ x < (m : Int)
  | 0, x, hx => by
    rcases addN_mem hx with h | h
    · obtain ⟨i, hi, rfl⟩ := List.mem_map.mp h
      have := List.mem_range.mp hi
      omega
    · exact hr x h
  | t + 1, x, hx => by
    rw [St] at hx
    split at hx
    · rcases addN_mem hx with h | h
      · exact St_lt_m hm hR hr t x h
      · exact hR _ x h
    · exact St_lt_m hm hR hr t x hx
theorem St_first (t : Nat) : ∃ more, St R roots t = ((List.range 17).map fun (i : Nat) => (i : Int)) ++ more := by
  obtain ⟨m, e⟩ := St_le (R := R) (roots := roots) (Nat.zero_le t)
  obtain ⟨m2, e2, _⟩ := addN_pref ((List.range 17).map fun (i : Nat) => (i : Int)) roots
  exact ⟨m2 ++ m, by rw [e]; show addN _ roots ++ m = _; rw [e2, List.append_assoc]⟩
theorem St_len17 (t : Nat) : 17 ≤ (St R roots t).length := by
  obtain ⟨m, e⟩ := St_first (R := R) (roots := roots) t
  rw [e]; simp
/-- where an element comes from -/
theorem St_from : ∀ (t i : Nat) (k : Int), 17 ≤ i → (St R roots t)[i]? = some k → k ∈ roots ∨ ∃ j x, j < i ∧ j < t ∧ (St R roots t)[j]? = some x ∧ k ∈ R x
  | 0, i, k, hi, e => by
    obtain ⟨m, e1, h1⟩ := addN_pref ((List.range 17).map fun (i : Nat) => (i : Int)) roots
    rw [show St R roots 0 = _ from e1, List.getElem?_append_right (by simpa using hi)] at e
    exact .inl (h1 k (List.mem_of_getElem? e))
  | t + 1, i, k, hi, e => by
    by_cases c : i < (St R roots t).length
    · have e0 : (St R roots t)[i]? = some k := by
        obtain ⟨m, e1⟩ := St_pref (R := R) (roots := roots) t
        rw [e1, List.getElem?_append_left c] at e
        exact e
      rcases St_from t i k hi e0 with h | ⟨j, x, h1, h2, h3, h4⟩
      · exact .inl h
      · exact .inr ⟨j, x, h1, by omega, St_at (Nat.le_succ t) h3, h4⟩
    · cases h : (St R roots t)[t]? with
      | none =>
        rw [St, h] at e
        exact absurd (List.getElem?_eq_some_iff.mp e).1 c
      | some x =>
        have e' := e
        rw [St_lt h] at e
        obtain ⟨m, e1, h1⟩ := addN_pref (St R roots t) (R x)
        rw [e1, List.getElem?_append_right (by omega)] at e
        have := (List.getElem?_eq_some_iff.mp h).1
        exact .inr ⟨t, x, by omega, by omega, St_at (Nat.le_succ t) h, h1 k (List.mem_of_getElem? e)⟩
/-- what was worked through is there -/
theorem St_done : ∀ (t j : Nat) (x : Int), j < t → (St R roots t)[j]? = some x → j < (St R roots j).length → ∀ k ∈ R x, k ∈ St R roots t
  | t, j, x, hj, e, hl, k, hk => by
    have e0 : (St R roots j)[j]? = some x := by
      have h := List.getElem?_eq_getElem hl
      have := St_at (t := t) (Nat.le_of_lt hj) h
      rw [e] at this
      rw [h, this]
    have h1 : k ∈ St R roots (j + 1) := by
      rw [St_lt e0]; exact addN_all _ _ k hk
    obtain ⟨m, e1⟩ := St_le (R := R) (roots := roots) (s := j + 1) (t := t) hj
    rw [e1]; exact List.mem_append_left _ h1
theorem St_roots (t : Nat) : ∀ k ∈ roots, k ∈ St R roots t := fun k hk => by
  obtain ⟨m, e1⟩ := St_le (R := R) (roots := roots) (Nat.zero_le t)
  rw [e1]; exact List.mem_append_left _ (addN_all _ _ k hk)
/-- the end: the first place that is behind the row -/
structure StEnd (R : Int → List Int) (roots : List Int) (t : Nat) : Prop where
  fin : (St R roots t).length ≤ t
  go : ∀ j < t, j < (St R roots j).length
theorem StEnd.uniq {s t : Nat} (a : StEnd R roots s) (b : StEnd R roots t) : s = t := by
  rcases Nat.lt_trichotomy s t with h | h | h
  · exact absurd (b.go s h) (by have := a.fin; omega)
  · exact h
  · exact absurd (a.go t h) (by have := b.fin; omega)
theorem StEnd.closed {t : Nat} (a : StEnd R roots t) : (∀ k ∈ roots, k ∈ St R roots t) ∧ ∀ (j : Nat) (x : Int), (St R roots t)[j]? = some x → ∀ k ∈ R x, k ∈ St R roots t := by
  refine ⟨St_roots t, fun j x e k hk => ?_⟩
  have hj : j < t := by have := (List.getElem?_eq_some_iff.mp e).1; have := a.fin; omega
  exact St_done t j x hj e (a.go j hj) k hk
end

abbrev s_law_cell : Stmt := top 52
abbrev N_law_cell : List Str := ["script", "k"]
abbrev P_law_cell : List Str := ["script", "k"]
theorem sc_law_cell : FnScope N_law_cell P_law_cell (defScope s_law_cell) := ⟨rfl, rfl, rfl, by decide +kernel, rfl, by decide +kernel, by decide +kernel⟩
abbrev s_law_digits : Stmt := top 56
abbrev N_law_digits : List Str := ["script", "first", "last", "digits", "k", "cell", "turn", "seed"]
abbrev P_law_digits : List Str := ["script", "first", "last"]
theorem sc_law_digits : FnScope N_law_digits P_law_digits (defScope s_law_digits) := ⟨rfl, rfl, rfl, by decide +kernel, rfl, by decide +kernel, by decide +kernel⟩
abbrev s_law_draw : Stmt := top 57
abbrev N_law_draw : List Str := ["box", "many", "at"]
abbrev P_law_draw : List Str := ["box", "many"]
theorem sc_law_draw : FnScope N_law_draw P_law_draw (defScope s_law_draw) := ⟨rfl, rfl, rfl, by decide +kernel, rfl, by decide +kernel, by decide +kernel⟩
section
variable {P : Program} {w : World} {K : PySem.W.Frag} {mg : Str → Option Value} {base : Heap}
theorem ok_draw {f : Addr} {fd : FuncData} (F : Fun K "_law_draw" "_law_draw" s_law_draw f fd) (T : Txt K mg) : FnG P w K mg base CX0 1 f fd P_law_draw (spDraw K) := by
  refine okG0 F sc_law_draw (fun vs H Q E h => ?_) fun cdv A outer s H vs Q E hr hg h => ?_
  · obtain ⟨p, dl, m, rfl, _⟩ := h
    rfl
  · obtain ⟨p, dl, m, rfl, B, hm, k⟩ := h
    obtain ⟨ds, n, hp, hn, hd, hl, hds⟩ := id B
    refine ⟨_, (pss_cons (ps_set (i := 2) sc_law_draw.nd rfl (Or.inl rfl) (pe_ix ix_list (pv 0) pe_int (fun _ _ => rfl)))
  (pss_cons (ps_asg (pe_op op_add (pv 2) pe_int) (pg_sub (pv 0) pe_int set_list))
  (pss_cons (ps_if (pt_cmpR op_lt (pv 2) (pe_callB call_len (by rfl) T.b_len PySem.boot_len (pa_cons (pe_ix ix_list (pv 0) pe_int (fun _ _ => rfl)) pa_nil)) (nomark _))
   (pss_one (ps_ret (pe_op op_mod (pe_callTy call_int1 (by rfl) T.b_int (by decide +kernel) (pa_cons (pe_ix ix_list (pe_ix ix_list (pv 0) pe_int (fun _ _ => rfl)) (pv 2) (fun _ _ => rfl)) pa_nil)) (pv 1))))
   pss_nil)
  (pss_one (ps_ret (pe_op op_mod (pe_callTy call_int1 (by rfl) T.b_int (by decide +kernel) (pa_cons (pe_op op_add (pe_op op_mul (pv 2) pe_int) pe_int) pa_nil)) (pv 1))))))), ?_⟩
    -- at = box[1]; box[1] = at + 1
    refine ⟨_, rfl, p, _, _, _, rfl, rfl, SqL.of hp, rfl, ?_⟩
    refine ⟨_, rfl, _, _, rfl, rfl, _, rfl, p, _, _, _, rfl, rfl, hp, rfl, ?_⟩
    have npd : dl ≠ p := by
      intro e
      subst e
      rw [hp] at hd
      have e := HO.lst.inj (Option.some.inj hd)
      cases ds with
      | nil => cases e
      | cons d ds => cases (List.cons.inj e).1
    have B' : BoxAt (upd H p (.lst [.ref dl, .int (n + 1)])) p dl := ⟨ds, n + 1, upd_same, by omega, by rw [upd_ne npd]; exact hd, hl, hds⟩
    have kp : Keep p H (upd H p (.lst [.ref dl, .int (n + 1)])) := fun b o e hb => by rw [upd_ne hb]; exact e
    have hd' : upd H p (.lst [.ref dl, .int (n + 1)]) dl = some (.lst (ds.map V.int)) := by rw [upd_ne npd]; exact hd
    -- if at < len(box[0])
    refine ⟨_, rfl, _, rfl, p, _, _, _, rfl, rfl, SqL.of upd_same, rfl, _, _, rfl, .inl ⟨_, SqL.of hd', rfl⟩, ?_⟩
    refine ⟨_, _, rfl, rfl, _, rfl, ?_⟩
    refine ite2 (fun c => ?_) fun c => ?_
    · have c1 : n < (ds.length : Int) := by simpa using c
      have c2 : n.toNat < ds.length := by omega
      have mem := hds _ (List.getElem_mem c2)
      refine ⟨_, rfl, p, _, _, _, rfl, rfl, SqL.of upd_same, rfl, _, rfl, dl, _, _, .int ds[n.toNat], rfl, rfl, SqL.of hd', ?_, .inl ⟨_, rfl, ?_⟩⟩
      · have e : n = ((n.toNat : Nat) : Int) := by omega
        exact at_of e (by simp [c2])
      · refine ⟨_, rfl, _, _, rfl, rfl, hm, ?_⟩
        exact k _ _ (Int.emod_nonneg _ (by omega)) (Int.emod_lt_of_pos _ hm) B' kp
    · refine ⟨_, rfl, _, _, rfl, rfl, .inr ⟨by decide, by decide⟩, _, _, rfl, rfl, .inl ⟨_, rfl, _, rfl, _, _, rfl, rfl, hm, ?_⟩⟩
      exact k _ _ (Int.emod_nonneg _ (by omega)) (Int.emod_lt_of_pos _ hm) B' kp
theorem ok_cell {f : Addr} {fd : FuncData} (F : Fun K "_law_cell" "_law_cell" s_law_cell f fd) (T : Txt K mg) : FnG P w K mg base CX0 1 f fd P_law_cell (spCell K) := by
  refine okG0 F sc_law_cell (fun vs H Q E h => ?_) fun cdv A outer s H vs Q E hr hg h => ?_
  · obtain ⟨a, ns, i, rfl, _⟩ := h
    rfl
  · obtain ⟨a, ns, i, rfl, hs, hi, k⟩ := h
    refine ⟨_, (pss_cons (ps_if (pt_cmpR op_lt (pv 1) (pe_callB call_len (by rfl) T.b_len PySem.boot_len (pa_cons (pv 0) pa_nil)) (nomark _))
   (pss_one (ps_ret (pe_ix ix_list (pv 0) (pv 1) (fun _ _ => rfl))))
   pss_nil)
  (pss_one (ps_ret pe_int))), ?_⟩
    refine ⟨_, rfl, _, rfl, _, _, rfl, .inl ⟨_, hs, rfl⟩, _, _, rfl, rfl, _, rfl, ?_⟩
    refine ite3 (fun c => ?_) fun _ => k 0
    have c1 : i < (ns.length : Int) := by simpa using c
    have c2 : i.toNat < ns.length := by omega
    exact ⟨_, rfl, _, rfl, a, _, _, .int ns[i.toNat], rfl, rfl, hs, at_of (show i = ((i.toNat : Nat) : Int) by omega) (by simp [c2]), k _⟩
theorem ok_digits {f : Addr} {fd : FuncData} (F : Fun K "_law_digits" "_law_digits" s_law_digits f fd) (T : Txt K mg) (U_law_cell : Use P w K mg base CX0 "_law_cell" 1 P_law_cell (spCell K)) : FnG P w K mg base CX0 2 f fd P_law_digits (spDigits K) := by
  refine okG0 F sc_law_digits (fun vs H Q E h => ?_) fun cdv A outer s H vs Q E hr hg h => ?_
  · obtain ⟨a, ns, lo, hi, rfl, _⟩ := h
    rfl
  · obtain ⟨a, ns, lo, hi, rfl, hs, hlo, hhi, k⟩ := h
    refine ⟨_, (pss_cons (ps_set (i := 3) sc_law_digits.nd rfl (Or.inl rfl) (pe_lst pa_nil))
  (pss_cons (ps_for PassesOwn.never rfl (pi_range2 (by rfl) T.b_range (pa_cons (pv 1) (pa_cons (pv 2) pa_nil))) (pg_name (i := 4) sc_law_digits.nd rfl (Or.inl rfl))
   (pss_cons (ps_set (i := 5) sc_law_digits.nd rfl (Or.inl rfl) (pe_use U_law_cell (hr.mono (by decide)) hg rfl (pa_cons (pv 0) (pa_cons (pv 4) pa_nil))))
  (C8.pss_cut (ps_if (pt_cmpR op_lt (pv 5) pe_int (nomark _))
   (pss_one (ps_set (i := 5) sc_law_digits.nd rfl (Or.inl rfl) (pe_op op_sub pe_int (pe_op op_mul pe_int (pv 5)))))
   pss_nil)
  (pss_one (ps_if (pt_cmpR op_ge (pv 5) (pe_op op_pow pe_int pe_int) (nomark _))
   (pss_one (ps_for PassesOwn.never rfl (pi_range1 (by rfl) T.b_range (pa_cons pe_int pa_nil)) (pg_name (i := 6) sc_law_digits.nd rfl (Or.inl rfl))
   (pss_one (ps_if (pt_cmpR op_gt (pv 5) pe_int (nomark _))
   (pss_cons (ps_expr (pe_bm PySem.F.plainAttrs_list PySem.F.slot_list_append PySem.F.type_list_append mt_append (pv 3) (pa_cons (pe_op op_mod (pe_callTy call_int1 (by rfl) T.b_int (by decide +kernel) (pa_cons (pv 5) pa_nil)) pe_int) pa_nil)))
  (pss_one (ps_set (i := 5) sc_law_digits.nd rfl (Or.inl rfl) (pe_op op_fdiv (pv 5) pe_int))))
   pss_nil))))
   (pss_cons (ps_set (i := 7) sc_law_digits.nd rfl (Or.inl rfl) (pe_op op_mod (pe_callTy call_int1 (by rfl) T.b_int (by decide +kernel) (pa_cons (pe_op op_add (pe_op op_add (pe_op op_mul (pv 5) pe_int) (pe_op op_mul (pv 4) pe_int)) pe_int) pa_nil)) pe_int))
  (pss_one (ps_for PassesOwn.never rfl (pi_range1 (by rfl) T.b_range (pa_cons pe_int pa_nil)) (pg_name (i := 6) sc_law_digits.nd rfl (Or.inl rfl))
   (pss_cons (ps_set (i := 7) sc_law_digits.nd rfl (Or.inl rfl) (pe_op op_mod (pe_callTy call_int1 (by rfl) T.b_int (by decide +kernel) (pa_cons (pe_op op_add (pe_op op_add (pe_op op_mul (pv 7) pe_int) (pe_op op_mul pe_int (pv 6))) pe_int) pa_nil)) pe_int))
  (pss_one (ps_expr (pe_bm PySem.F.plainAttrs_list PySem.F.slot_list_append PySem.F.type_list_append mt_append (pv 3) (pa_cons (pe_op op_mod (pe_callTy call_int1 (by rfl) T.b_int (by decide +kernel) (pa_cons (pe_op op_fdiv (pv 7) pe_int) pa_nil)) pe_int) pa_nil)))))))))))))
  (pss_one (ps_ret (pv 3))))), ?_⟩
    refine ⟨by decide, fun dl nd => ?_⟩
    have sz : (4000 : Nat) < sizeLine := by decide
    -- for k in range(first, last)
    refine ⟨_, rfl, _, rfl, _, _, rfl, ⟨by omega, by omega, by omega, by omega⟩, ?_⟩
    refine for_range (lo := (lo : Int)) (n := ((hi : Int) - (lo : Int)).toNat) (fun i σ H1 => ∃ x5 x6 x7 x4, σ = [some (.ref a), some (.int lo), some (.int hi), some (.ref dl), x4, x5, x6, x7] ∧ DigAt H H1 dl (60 * i)) ?_ ?_ ?_
    · exact ⟨none, none, none, none, rfl, [], upd_same, by simp, by simp, Same.new nd⟩
    · rintro i σ H1 hi' ⟨x5, x6, x7, x4, rfl, D⟩
      have S1 : Same H H1 := let ⟨_, _, _, _, z⟩ := D; z
      -- cell = _law_cell(script, k)
      refine ⟨_, rfl, _, rfl, a, ns, _, rfl, S1.seq hs, by omega, fun cell => ?_⟩
      -- if cell < 0: cell = 1 - 2 * cell
      refine ⟨fun σ H2 => ∃ c : Int, σ = [some (.ref a), some (.int lo), some (.int hi), some (.ref dl), some (.int ((lo : Int) + i)), some (.int c), x6, x7] ∧ H2 = H1, ?_, ?_⟩
      · refine ⟨_, rfl, _, _, rfl, rfl, _, rfl, ?_⟩
        refine ite3 (fun _ => ?_) fun _ => ⟨cell, rfl, rfl⟩
        exact ⟨_, rfl, _, _, rfl, rfl, .inl ⟨by decide, by decide⟩, _, _, rfl, rfl, _, rfl, rfl⟩
      · rintro _ _ ⟨c, rfl, rfl⟩
        -- if cell >= 10 ** 18
        refine ⟨_, rfl, _, _, rfl, rfl, ⟨by decide, by decide, by decide⟩, _, _, rfl, rfl, _, rfl, ?_⟩
        refine ite3 (fun hc => ?_) fun hc => ?_
        · refine ⟨_, rfl, by decide, by decide, ?_⟩
          refine for_range (lo := 0) (n := 60) (fun j σ H1 => ∃ (c : Int) (y6 : Option V), σ = [some (.ref a), some (.int lo), some (.int hi), some (.ref dl), some (.int ((lo : Int) + i)), some (.int c), y6, x7] ∧ DigAt H H1 dl (60 * i + j)) ⟨c, x6, rfl, D⟩ ?_ ?_
          · rintro j σ H2 hj ⟨c, y6, rfl, D2⟩
            obtain ⟨ds, hd, hl, _⟩ := id D2
            refine ⟨_, rfl, _, _, rfl, rfl, _, rfl, ?_⟩
            refine ite3 (fun hp => ?_) fun _ => ⟨c, _, rfl, D2.mono (by omega)⟩
            have hp : 0 < c := by simpa using hp
            refine ⟨_, rfl, .inl ⟨rfl, _, SqL.of hd⟩, _, rfl, .inl ⟨_, rfl, _, _, rfl, rfl, (by show (0 : Int) < 1000; decide), dl, _, _, rfl, rfl, hd, (by simp; omega), ?_⟩⟩
            refine ⟨_, rfl, _, _, rfl, rfl, ⟨by decide, by decide⟩, ?_⟩
            exact ⟨_, _, rfl, D2.add hd nd (Int.emod_nonneg _ (by decide)) (Int.emod_lt_of_pos _ (by decide))⟩
          · rintro σ H2 ⟨c, y6, rfl, D2⟩
            exact ⟨_, _, _, _, rfl, D2.mono (by omega)⟩
        · refine ⟨_, rfl, _, _, rfl, rfl, .inr ⟨by decide, by decide⟩, _, rfl, _, _, rfl, rfl, .inr ⟨by decide, by decide⟩, _, _, rfl, rfl, _, _, rfl, rfl, .inl ⟨_, rfl, _, _, rfl, rfl, (by show (0 : Int) < 2147483647; decide), ?_⟩⟩
          refine ⟨_, rfl, by decide, by decide, ?_⟩
          refine for_range (lo := 0) (n := 12) (fun j σ H1 => ∃ (sd : Int) (y6 : Option V), σ = [some (.ref a), some (.int lo), some (.int hi), some (.ref dl), some (.int ((lo : Int) + i)), some (.int c), y6, some (.int sd)] ∧ DigAt H H1 dl (60 * i + j)) ⟨_, x6, rfl, D⟩ ?_ ?_
          · rintro j σ H2 hj ⟨sd, y6, rfl, D2⟩
            obtain ⟨ds, hd, hl, _⟩ := id D2
            refine ⟨_, rfl, _, _, rfl, rfl, .inr ⟨by decide, by decide⟩, _, rfl, _, _, rfl, rfl, .inl ⟨by decide, by decide⟩, _, _, rfl, rfl, _, _, rfl, rfl, .inl ⟨_, rfl, _, _, rfl, rfl, (by show (0 : Int) < 2147483647; decide), ?_⟩⟩
            refine ⟨_, rfl, .inl ⟨rfl, _, SqL.of hd⟩, _, rfl, _, _, rfl, rfl, ⟨by decide, by decide⟩, .inl ⟨_, rfl, _, _, rfl, rfl, (by show (0 : Int) < 1000; decide), dl, _, _, rfl, rfl, hd, (by simp; omega), ?_⟩⟩
            exact ⟨_, _, rfl, D2.add hd nd (Int.emod_nonneg _ (by decide)) (Int.emod_lt_of_pos _ (by decide))⟩
          · rintro σ H2 ⟨sd, y6, rfl, D2⟩
            exact ⟨_, _, _, _, rfl, D2.mono (by omega)⟩
    · rintro σ H1 ⟨x5, x6, x7, x4, rfl, D⟩
      exact ⟨_, rfl, k dl H1 nd (D.mono (by omega))⟩
end

abbrev s_write_count : Stmt := top 9
abbrev N_write_count : List Str := ["n", "numbers"]
abbrev P_write_count : List Str := ["n"]
theorem sc_write_count : FnScope N_write_count P_write_count (defScope s_write_count) := ⟨rfl, rfl, rfl, by decide +kernel, rfl, by decide +kernel, by decide +kernel⟩
section
variable {P : Program} {w : World} {K : PySem.W.Frag} {mg : Str → Option Value} {base : Heap}
/-- the digits of a count -/
def cnt (n : Nat) : List Nat := if h : n < 128 then [n] else (128 + n % 128) :: cnt (n / 128)
termination_by n
decreasing_by omega
theorem cnt_lt {n : Nat} (h : n < 128) : cnt n = [n] := by rw [cnt, dif_pos h]
theorem cnt_ge {n : Nat} (h : ¬ n < 128) : cnt n = (128 + n % 128) :: cnt (n / 128) := by rw [cnt, dif_neg h]
theorem cnt_ne (n : Nat) : cnt n ≠ [] := by
  by_cases h : n < 128
  · rw [cnt_lt h]; exact List.cons_ne_nil _ _
  · rw [cnt_ge h]; exact List.cons_ne_nil _ _
theorem cnt_len : ∀ (k n : Nat), n < 128 ^ (k + 1) → (cnt n).length ≤ k + 1
  | 0, n, h => by rw [cnt_lt (by simpa using h)]; simp
  | k + 1, n, h => by
    by_cases h1 : n < 128
    · rw [cnt_lt h1]; simp
    · rw [cnt_ge h1, List.length_cons]
      have : n / 128 < 128 ^ (k + 1) := Nat.div_lt_of_lt_mul (by rw [Nat.mul_comm, ← Nat.pow_succ]; exact h)
      have := cnt_len k _ this
      omega
theorem cnt_byte : ∀ (k n : Nat), n < 128 ^ (k + 1) → ∀ d ∈ cnt n, d < 256
  | 0, n, h, d, hd => by
    have : n < 128 := by simpa using h
    rw [cnt_lt this, List.mem_singleton] at hd; omega
  | k + 1, n, h, d, hd => by
    by_cases h1 : n < 128
    · rw [cnt_lt h1, List.mem_singleton] at hd; omega
    · rw [cnt_ge h1] at hd
      rcases List.mem_cons.mp hd with rfl | hd
      · have := Nat.mod_lt n (show 0 < 128 by decide); omega
      · exact cnt_byte k _ (Nat.div_lt_of_lt_mul (by rw [Nat.mul_comm, ← Nat.pow_succ]; exact h)) d hd
/-- a list of numbers as values -/
def nV (ns : List Nat) : List V := ns.map fun (d : Nat) => V.int (d : Int)
theorem nV_app (a b : List Nat) : nV (a ++ b) = nV a ++ nV b := List.map_append ..
theorem nV_len (a : List Nat) : (nV a).length = a.length := List.length_map ..
theorem nV_get {a : List Nat} {i : Nat} {d : Nat} (h : a[i]? = some d) : (nV a)[i]? = some (.int (d : Int)) := by unfold nV; rw [List.getElem?_map, h]; rfl
def spCount (K : PySem.W.Frag) : Sp := fun vs H Q _ => ∃ n : Nat, vs = [.int (n : Int)] ∧ n < 128 ^ 60 ∧ ∀ l H', H l = none → Same H H' → H' l = some (.lst (nV (cnt n))) → Q (.ref l) H'
theorem ok_wcount {f : Addr} {fd : FuncData} (F : Fun K "write_count" "write_count" s_write_count f fd) (T : Txt K mg) : FnG P w K mg base CX0 1 f fd P_write_count (spCount K) := by
  refine okG0 F sc_write_count (fun vs H Q E h => ?_) fun cdv A outer s H vs Q E hr hg h => ?_
  · obtain ⟨n, rfl, _⟩ := h
    rfl
  · obtain ⟨n, rfl, hn, k⟩ := h
    refine ⟨_, (pss_cons (ps_set (i := 1) sc_write_count.nd rfl (Or.inl rfl) (pe_lst pa_nil))
  (pss_cons (ps_while PassesOwn.never (pt_up (pt_cmpR op_ge (pv 0) (pe_globI T.c_BASE (by rfl)) (nomark _)))
   (pss_cons (ps_expr (pe_bm PySem.F.plainAttrs_list PySem.F.slot_list_append PySem.F.type_list_append mt_append (pv 1) (pa_cons (pe_op op_add (pe_op op_mod (pv 0) (pe_globI T.c_BASE (by rfl))) (pe_globI T.c_BASE (by rfl))) pa_nil)))
  (pss_one (ps_aug (i := 0) sc_write_count.nd rfl (Or.inl rfl) (pe_globI T.c_BASE (by rfl)) ip_fdiv))))
  (pss_cons (ps_expr (pe_bm PySem.F.plainAttrs_list PySem.F.slot_list_append PySem.F.type_list_append mt_append (pv 1) (pa_cons (pv 0) pa_nil)))
  (pss_one (ps_ret (pv 1)))))), ?_⟩
    refine ⟨sz_0, fun l hl => ?_⟩
    have hlen := cnt_len 59 n hn
    refine while_up (fun σ H1 => ∃ (m : Nat) (acc : List Nat), σ = [some (.int (m : Int)), some (.ref l)] ∧ H1 l = some (.lst (nV acc)) ∧ acc ++ cnt m = cnt n ∧ Same H H1)
      (fun (σ : L2.St) (_ : Hp) => match σ[0]? with | some (some (V.int j)) => j.toNat | _ => 0) ⟨n, [], rfl, upd_same, rfl, Same.new hl⟩ ?_
    rintro σ H1 ⟨m, acc, rfl, e1, ha, S1⟩
    have hal : acc.length + 1 ≤ 60 := by
      have h1 : (acc ++ cnt m).length ≤ 60 := by rw [ha]; exact hlen
      have h2 : 0 < (cnt m).length := List.length_pos_iff.mpr (cnt_ne m)
      rw [List.length_append] at h1; omega
    refine ⟨_, rfl, _, _, rfl, rfl, _, rfl, ?_⟩
    refine ite3 (fun c => ?_) fun c => ?_
    · have c := of_decide_eq_true c
      have c1 : ¬ m < 128 := by omega
      refine ⟨_, rfl, .inl ⟨rfl, _, SqL.of e1⟩, _, rfl, _, _, rfl, rfl, (by show (0 : Int) < 128; decide), _, _, rfl, rfl, l, _, _, rfl, rfl, e1, by rw [nV_len]; exact Nat.lt_of_le_of_lt (show acc.length ≤ 60 by omega) (by decide), ?_⟩
      refine ⟨_, rfl, _, _, rfl, rfl, ⟨by decide, by decide⟩, ⟨m / 128, acc ++ [128 + m % 128], ?_, ?_, ?_, ?_⟩, ?_⟩
      · show [some (V.int ((m : Int) / 128)), some (V.ref l)] = _
        rw [show (m : Int) / 128 = ((m / 128 : Nat) : Int) by omega]
      · rw [upd_same, nV_app]
        show some (HO.lst (nV acc ++ [V.int ((m : Int) % 128 + 128)])) = some (HO.lst (nV acc ++ [V.int ((128 + m % 128 : Nat) : Int)]))
        rw [show (m : Int) % 128 + 128 = ((128 + m % 128 : Nat) : Int) by omega]
      · rw [List.append_assoc, ← ha, cnt_ge c1]; rfl
      · exact fun b o e => by rw [upd_ne (ne_of_none e hl)]; exact S1 _ _ e
      · show ((m : Int) / 128).toNat < ((m : Int)).toNat
        omega
    · have c := of_decide_eq_false c
      have c1 : m < 128 := by omega
      refine ⟨_, rfl, .inl ⟨rfl, _, SqL.of e1⟩, _, rfl, l, _, _, rfl, rfl, e1, by rw [nV_len]; exact Nat.lt_of_le_of_lt (show acc.length ≤ 60 by omega) (by decide), ?_⟩
      refine ⟨_, rfl, k l _ hl (fun b o e => by rw [upd_ne (ne_of_none e hl)]; exact S1 _ _ e) ?_⟩
      rw [upd_same, ← ha, cnt_lt c1, nV_app]; rfl
end

abbrev s_write_integer : Stmt := top 10
abbrev N_write_integer : List Str := ["i"]
abbrev P_write_integer : List Str := ["i"]
theorem sc_write_integer : FnScope N_write_integer P_write_integer (defScope s_write_integer) := ⟨rfl, rfl, rfl, by decide +kernel, rfl, by decide +kernel, by decide +kernel⟩
abbrev s_write_string : Stmt := top 11
abbrev N_write_string : List Str := ["text", "character"]
abbrev P_write_string : List Str := ["text"]
theorem sc_write_string : FnScope N_write_string P_write_string (defScope s_write_string) := ⟨rfl, rfl, rfl, by decide +kernel, rfl, by decide +kernel, by decide +kernel⟩
abbrev s_write_value : Stmt := top 12
abbrev N_write_value : List Str := ["value", "kind", "numbers", "i"]
abbrev P_write_value : List Str := ["value"]
theorem sc_write_value : FnScope N_write_value P_write_value (defScope s_write_value) := ⟨rfl, rfl, rfl, by decide +kernel, rfl, by decide +kernel, by decide +kernel⟩
section
variable {P : Program} {w : World} {K : PySem.W.Frag} {mg : Str → Option Value} {base : Heap}
def zig (i : Int) : Nat := if 0 ≤ i then (2 * i).toNat else (-2 * i - 1).toNat
theorem zig_pos {i : Int} (h : 0 ≤ i) : 2 * i = ((zig i : Nat) : Int) := by unfold zig; rw [if_pos h]; omega
theorem zig_neg {i : Int} (h : ¬ 0 ≤ i) : -2 * i - 1 = ((zig i : Nat) : Int) := by unfold zig; rw [if_neg h]; omega
theorem zig_inj {i j : Int} (h : zig i = zig j) : i = j := by unfold zig at h; split at h <;> split at h <;> omega
theorem zig_lt {i : Int} {k : Nat} (h : i.natAbs ≤ 2 ^ k) : zig i ≤ 2 ^ (k + 1) := by
  unfold zig; rw [Nat.pow_succ]; split <;> omega
theorem big (i : Int) (h : i.natAbs ≤ 2 ^ 258) : zig i < 128 ^ 60 := Nat.lt_of_le_of_lt (zig_lt h) (by decide +kernel)
def spWInt (K : PySem.W.Frag) : Sp := fun vs H Q _ => ∃ i : Int, vs = [.int i] ∧ i.natAbs ≤ 2 ^ 258 ∧ ∀ l H', H l = none → Same H H' → H' l = some (.lst (nV (cnt (zig i)))) → Q (.ref l) H'
theorem ok_wint {f : Addr} {fd : FuncData} (F : Fun K "write_integer" "write_integer" s_write_integer f fd) (T : Txt K mg) (U_write_count : Use P w K mg base CX0 "write_count" 1 P_write_count (spCount K)) : FnG P w K mg base CX0 2 f fd P_write_integer (spWInt K) := by
  refine okG0 F sc_write_integer (fun vs H Q E h => ?_) fun cdv A outer s H vs Q E hr hg h => ?_
  · obtain ⟨i, rfl, _⟩ := h
    rfl
  · obtain ⟨i, rfl, hi, k⟩ := h
    refine ⟨_, (pss_cons (ps_if (pt_cmpR op_ge (pv 0) pe_int (nomark _))
   (pss_one (ps_ret (pe_use U_write_count (hr.mono (by decide)) hg rfl (pa_cons (pe_op op_mul pe_int (pv 0)) pa_nil))))
   pss_nil)
  (pss_one (ps_ret (pe_use U_write_count (hr.mono (by decide)) hg rfl (pa_cons (pe_op op_sub (pe_op op_mul (pe_un un_neg pe_int) (pv 0)) pe_int) pa_nil))))), ?_⟩
    refine ⟨_, rfl, _, _, rfl, rfl, _, rfl, ?_⟩
    refine ite3 (fun c => ?_) fun c => ?_
    · have c := of_decide_eq_true c
      exact ⟨_, rfl, _, _, rfl, rfl, .inl ⟨by decide, by decide⟩, zig i, congrArg (fun z => [V.int z]) (zig_pos c), big i hi, k⟩
    · have c := of_decide_eq_false c
      exact ⟨_, rfl, _, rfl, _, _, rfl, rfl, .inl ⟨by decide, by decide⟩, _, _, rfl, rfl, zig i, congrArg (fun z => [V.int z]) (zig_neg c), big i hi, k⟩
def strN (js : List Nat) : List Nat := cnt js.length ++ js
def spWStr (K : PySem.W.Frag) : Sp := fun vs H Q _ => ∃ js : List Nat, vs = [.str (tx js)] ∧ js.length ≤ 100000 ∧ (∀ j ∈ js, j < 95) ∧ ∀ l H', H l = none → Same H H' → H' l = some (.lst (nV (strN js))) → Q (.ref l) H'
theorem ok_wstr {f : Addr} {fd : FuncData} (F : Fun K "write_string" "write_string" s_write_string f fd) (T : Txt K mg) (U_write_count : Use P w K mg base CX0 "write_count" 1 P_write_count (spCount K)) : FnG P w K mg base CX0 2 f fd P_write_string (spWStr K) := by
  refine okG0 F sc_write_string (fun vs H Q E h => ?_) fun cdv A outer s H vs Q E hr hg h => ?_
  · obtain ⟨js, rfl, _⟩ := h
    rfl
  · obtain ⟨js, rfl, hl, hj, k⟩ := h
    refine ⟨_, (pss_one (ps_ret (pe_op op_cat (pe_use U_write_count (hr.mono (by decide)) hg rfl (pa_cons (pe_callB call_len (by rfl) T.b_len PySem.boot_len (pa_cons (pv 0) pa_nil)) pa_nil)) (pe_lc (own := [("character", 1)]) (g := (gName 1)) rfl sc_write_string.nd (pi_str (pv 0)) (blkOk_by (N := N_write_string) (sc := defScope s_write_string) (by decide +kernel)) (fun _ _ _ _ _ => (pg_name (i := 1) sc_write_string.nd rfl (Or.inl rfl))) (fun _ _ _ _ _ => pts_nil) (fun _ _ _ _ _ => (pe_bmK (K := K) rfl PySem.F.plainAttrs_str PySem.F.slot_str_index PySem.F.type_str_index mt_sindex (pe_globS T.c_CHARACTERS (by rfl)) (pa_cons (pv 1) pa_nil))))))), ?_⟩
    have hln : (tx js).length ≤ sizeLine := by rw [tx_len]; exact Nat.le_trans hl (by decide)
    refine ⟨_, rfl, _, (tx js).length, rfl, ⟨hln, rfl⟩, js.length, by rw [tx_len], Nat.lt_of_le_of_lt hl (by decide +kernel), fun l1 H1 nl1 S1 e1 => ?_⟩
    refine ⟨_, rfl, tx js, rfl, fun D hD => ?_⟩
    have nD : l1 ≠ D := fun e => (by subst e; rw [hD] at e1; cases e1)
    have hsz : (tx js).cps.size = js.length := by rw [← tx_len js]; rfl
    refine lc_it walk_str (fun i H' => H' D = some (.lst (nV (js.take i))) ∧ Same H1 H') ⟨upd_same, Same.new hD⟩ (fun _ _ _ _ => trivial) ?_ ?_
    · rintro i x H5 H6 hi ⟨e5, S5⟩ ⟨rfl, c, hc, rfl⟩
      have hi2 : i < js.length := by rw [← hsz]; exact hi
      have hjs : js[i]? = some js[i] := List.getElem?_eq_getElem hi2
      have hj95 := hj _ (List.getElem_mem hi2)
      generalize js[i] = j at hjs hj95
      have hcc : c = ch j := by
        have : (js.map ch).toArray[i]? = some c := hc
        rw [List.getElem?_toArray, List.getElem?_map, hjs] at this
        exact (Option.some.inj this).symm
      subst hcc
      obtain ⟨rest, ho⟩ := occ_at hj95
      refine ⟨rfl, tYes_of ?_⟩
      refine ⟨rfl, _, rfl, chStr, _, j, rest, rfl, rfl, ho, _, e5, ?_, ?_, fun b o e => by rw [upd_ne (ne_of_none e hD)]; exact S5 _ _ e⟩
      · rw [nV_len, List.length_take]; exact Nat.lt_of_le_of_lt (Nat.le_trans (Nat.min_le_right _ _) hl) (by decide)
      · rw [upd_same, List.take_succ, hjs, nV_app]; rfl
    · rintro H5 ⟨e5, S5⟩
      rw [hsz, List.take_length] at e5
      refine ⟨l1, D, _, _, rfl, rfl, S5 _ _ e1, e5, ?_, fun l hl2 => ?_⟩
      · rw [nV_len, nV_len]
        have := cnt_len 59 js.length (Nat.lt_of_le_of_lt hl (by decide +kernel))
        exact Nat.le_trans (show _ ≤ 100060 by omega) (by decide)
      · exact k l _ (Same.free (S1.trans S5) hl2) ((S1.trans S5).trans (Same.new hl2)) (by rw [upd_same, strN, nV_app])
/-- values as they are written -/
inductive Val where
  | none | bool (b : Bool) | int (i : Int) | text (js : List Nat) | span (a b : Int) | built (js : List Nat) | host (js : List Nat) | ref (n : Nat)
def valD : Val → PyData
  | .none => .tuple [.str "none"]
  | .bool b => .tuple [.str "bool", .bool b]
  | .int i => .tuple [.str "int", .int i]
  | .text js => .tuple [.str "text", .str (tx js)]
  | .span a b => .tuple [.str "span", .int a, .int b]
  | .built js => .tuple [.str "built", .str (tx js)]
  | .host js => .tuple [.str "host", .str (tx js)]
  | .ref n => .tuple [.str "ref", .int (n : Int)]
def enc : Val → List Nat
  | .none => [0]
  | .bool b => [if b then 2 else 1]
  | .int i => 3 :: cnt (zig i)
  | .text js => 4 :: strN js
  | .span a b => 5 :: (cnt (zig a) ++ cnt (zig b))
  | .built js => 6 :: strN js
  | .host js => 7 :: strN js
  | .ref n => 8 :: cnt n
def vnum : List (Str × V) := [("none", V.int 0), ("int", V.int 3), ("text", V.int 4), ("span", V.int 5), ("built", V.int 6), ("host", V.int 7), ("ref", V.int 8)]
structure TxOk (js : List Nat) : Prop where
  len : js.length ≤ 100000
  lt : ∀ j ∈ js, j < 95
def ValOk : Val → Prop
  | .int i => i.natAbs ≤ 2 ^ 258
  | .text js => TxOk js
  | .span a b => a.natAbs ≤ 2 ^ 258 ∧ b.natAbs ≤ 2 ^ 258
  | .built js => TxOk js
  | .host js => TxOk js
  | .ref n => n ≤ 2 ^ 100
  | _ => True
def spWVal (K : PySem.W.Frag) : Sp := fun vs H Q _ => ∃ (v : V) (x : Val), vs = [v] ∧ Dt K H v (valD x) ∧ ValOk x ∧ ∀ l H', H l = none → Same H H' → H' l = some (.lst (nV (enc x))) → Q (.ref l) H'
theorem ok_wvalue {f : Addr} {fd : FuncData} (F : Fun K "write_value" "write_value" s_write_value f fd) (T : Txt K mg) (U_VALUE_NUMBERS : UseD P w K mg "VALUE_NUMBERS" (valKV vnum)) (U_write_string : Use P w K mg base CX0 "write_string" 2 P_write_string (spWStr K)) (U_write_count : Use P w K mg base CX0 "write_count" 1 P_write_count (spCount K)) (U_write_integer : Use P w K mg base CX0 "write_integer" 2 P_write_integer (spWInt K)) :
    FnG P w K mg base CX0 3 f fd P_write_value (spWVal K) := by
  obtain ⟨aD_VALUE_NUMBERS, gD_VALUE_NUMBERS, kD⟩ := U_VALUE_NUMBERS.ex
  refine okG0 F sc_write_value (fun vs H Q E h => ?_) fun cdv A outer s H vs Q E hr hg h => ?_
  · obtain ⟨v, x, rfl, _⟩ := h
    rfl
  · obtain ⟨v, x, rfl, dv, ok, k⟩ := h
    refine ⟨_, (pss_cons (ps_set (i := 1) sc_write_value.nd rfl (Or.inl rfl) (pe_ix ix_tup (pv 0) pe_int (fun _ _ => rfl)))
  (pss_cons (ps_if (PW.pt (pw_and (pt_cmpR op_eq (pv 1) pe_str (nomark _)) (pw_and1 (pt_truth (pe_ix ix_tup (pv 0) pe_int (fun _ _ => rfl)) (by intro _; rfl)))))
   (pss_one (ps_ret (pe_lst (pa_cons pe_int pa_nil))))
   pss_nil)
  (pss_cons (ps_if (pt_cmpR op_eq (pv 1) pe_str (nomark _))
   (pss_one (ps_ret (pe_lst (pa_cons pe_int pa_nil))))
   pss_nil)
  (pss_cons (ps_set (i := 2) sc_write_value.nd rfl (Or.inl rfl) (pe_lst (pa_cons (pe_dgetK (pe_glob (v := .ref aD_VALUE_NUMBERS) (by rfl) gD_VALUE_NUMBERS rfl) (pv 1) (fun _ _ => rfl)) pa_nil)))
  (pss_cons (ps_if (pt_cmpR op_in_seq (pv 1) (pe_tup (pa_cons pe_str (pa_cons pe_str (pa_cons pe_str pa_nil)))) (by rfl))
   (pss_one (ps_expr (pe_bm PySem.F.plainAttrs_list PySem.F.slot_list_extend PySem.F.type_list_extend mt_extend (pv 2) (pa_cons (pe_use U_write_string (hr.mono (by decide)) hg rfl (pa_cons (pe_ix ix_tup (pv 0) pe_int (fun _ _ => rfl)) pa_nil)) pa_nil))))
   (pss_one (ps_if (pt_cmpR op_eq (pv 1) pe_str (nomark _))
   (pss_one (ps_expr (pe_bm PySem.F.plainAttrs_list PySem.F.slot_list_extend PySem.F.type_list_extend mt_extend (pv 2) (pa_cons (pe_use U_write_count (hr.mono (by decide)) hg rfl (pa_cons (pe_ix ix_tup (pv 0) pe_int (fun _ _ => rfl)) pa_nil)) pa_nil))))
   (pss_one (ps_for PassesOwn.never rfl (pi_tup (pe_slice sl_tupA (pv 0) (po_some pe_int) po_none)) (pg_name (i := 3) sc_write_value.nd rfl (Or.inl rfl))
   (pss_one (ps_expr (pe_bm PySem.F.plainAttrs_list PySem.F.slot_list_extend PySem.F.type_list_extend mt_extend (pv 2) (pa_cons (pe_use U_write_integer (hr.mono (by decide)) hg rfl (pa_cons (pv 3) pa_nil)) pa_nil)))))))))
  (pss_one (ps_ret (pv 2)))))))), ?_⟩
    -- the list that is filled with one more list
    have ext : ∀ {H1 : Hp} {nl l : Addr} {a b : List Nat} {R : Hp → Prop}, H1 nl = some (.lst (nV a)) → H1 l = some (.lst (nV b)) → a.length + b.length ≤ 200200 → (∀ H2, H2 nl = some (.lst (nV (a ++ b))) → (∀ q o, H1 q = some o → q ≠ nl → H2 q = some o) → R H2) →
        rExtend (.ref nl) [.ref l] H1 (fun _ H2 => R H2) := fun e1 e2 hl kk => ⟨_, _, _, _, rfl, rfl, e1, e2, by rw [nV_len, nV_len]; exact Nat.le_trans hl (by decide), kk _ (by rw [upd_same, nV_app]) fun q o e hq => by rw [upd_ne hq]; exact e⟩
    have c60 : ∀ n, n < 128 ^ 60 → (cnt n).length ≤ 60 := fun n h => cnt_len 59 n h
    have s60 : ∀ js, TxOk js → (strN js).length ≤ 100060 := fun js h => by
      have := c60 js.length (Nat.lt_of_le_of_lt h.len (by decide +kernel))
      have := h.len
      rw [strN, List.length_append]; omega
    have dct : ∀ (z : Str) (n : Nat), valV (valKV vnum) (Sum.inr z) = some (V.int (n : Int)) → z ≠ "bool" → (decide (V.str z = V.str "bool")) = false := fun z n _ h => decide_eq_false fun e => h (V.str.inj e)
    have grp : (∃ b, x = .bool b) ∨ (∃ (z : Str) (num : Nat) (js : List Nat), valD x = .tuple [.str z, .str (tx js)] ∧ enc x = num :: strN js ∧ TxOk js ∧ z ≠ "bool" ∧ valV (valKV vnum) (Sum.inr z) = some (V.int (num : Int)) ∧ inV (.str z) [.str "text", .str "built", .str "host"] = true) ∨
        (∃ (z : Str) (num : Nat) (is : List Int), valD x = .tuple (.str z :: is.map PyData.int) ∧ enc x = num :: is.flatMap (fun i => cnt (zig i)) ∧ (∀ i ∈ is, i.natAbs ≤ 2 ^ 258) ∧ is.length ≤ 2 ∧ z ≠ "bool" ∧ z ≠ "ref" ∧ valV (valKV vnum) (Sum.inr z) = some (V.int (num : Int)) ∧ inV (.str z) [.str "text", .str "built", .str "host"] = false) ∨ (∃ n, x = .ref n) := by
      cases x with
      | none => exact .inr (.inr (.inl ⟨"none", 0, [], rfl, rfl, by simp, by simp, by decide +kernel, by decide +kernel, by decide +kernel, by decide +kernel⟩))
      | bool b => exact .inl ⟨b, rfl⟩
      | int i => exact .inr (.inr (.inl ⟨"int", 3, [i], rfl, by simp [enc], (by intro j hj; rw [List.mem_singleton.mp hj]; exact ok), by simp, by decide +kernel, by decide +kernel, by decide +kernel, by decide +kernel⟩))
      | text js => exact .inr (.inl ⟨"text", 4, js, rfl, rfl, ok, by decide +kernel, by decide +kernel, by decide +kernel⟩)
      | span a b => exact .inr (.inr (.inl ⟨"span", 5, [a, b], rfl, by simp [enc], (by
        intro j hj
        rcases List.mem_cons.mp hj with rfl | hj
        · exact ok.1
        · rw [List.mem_singleton.mp hj]; exact ok.2), by simp, by decide +kernel, by decide +kernel, by decide +kernel, by decide +kernel⟩))
      | built js => exact .inr (.inl ⟨"built", 6, js, rfl, rfl, ok, by decide +kernel, by decide +kernel, by decide +kernel⟩)
      | host js => exact .inr (.inl ⟨"host", 7, js, rfl, rfl, ok, by decide +kernel, by decide +kernel, by decide +kernel⟩)
      | ref n => exact .inr (.inr (.inr ⟨n, rfl⟩))
    rcases grp with ⟨b, rfl⟩ | ⟨z, num, js, hv, he, hj, hb, hd, hi⟩ | ⟨z, num, is, hv, he, hj, hl, hb, hrf, hd, hi⟩ | ⟨n, rfl⟩
    · obtain ⟨q, y, rfl, hq, dy⟩ := Dt.pair (z := "bool") dv
      cases dy.bool_inv
      refine ⟨_, rfl, q, _, _, _, rfl, rfl, hq, at0, ?_⟩
      refine ⟨_, rfl, rfl, _, rfl, iteTb (by decide +kernel) ?_⟩
      cases b with
      | true =>
        refine ⟨_, rfl, q, _, _, _, rfl, rfl, hq, at1, true, rfl, iteTb rfl ?_⟩
        exact ⟨sz_1, fun l hl => k l _ hl (Same.new hl) upd_same⟩
      | false =>
        refine ⟨_, rfl, q, _, _, _, rfl, rfl, hq, at1, false, rfl, iteFb rfl ?_⟩
        refine ⟨_, rfl, rfl, _, rfl, iteTb (by decide +kernel) ?_⟩
        exact ⟨sz_1, fun l hl => k l _ hl (Same.new hl) upd_same⟩
    · rw [hv] at dv
      rw [he] at k
      obtain ⟨q, y, rfl, hq, dy⟩ := Dt.pair dv
      cases dy.str_inv
      refine ⟨_, rfl, q, _, _, _, rfl, rfl, hq, at0, ?_⟩
      refine ⟨_, rfl, rfl, _, rfl, iteFb (dct z num hd hb) (iteFb rfl ?_)⟩
      refine ⟨_, rfl, rfl, _, rfl, iteFb (dct z num hd hb) ?_⟩
      refine ⟨_, rfl, aD_VALUE_NUMBERS, _, Sum.inr z, _, rfl, kD, rfl, hd, sz_1, fun nl hnl => ?_⟩
      have S1 := Same.new (o := .lst (nV [num])) hnl
      have e1 := upd_same (H := H) (a := nl) (o := HO.lst (nV [num]))
      have hq1 := SqT.mono hq S1
      refine ⟨_, rfl, sz_3, fun t ht => ⟨t, _, rfl, .inr (SqT.of upd_same), rfl, rfl, _, rfl, iteTb hi ?_⟩⟩
      have S2 := Same.new (o := .tup [.str "text", .str "built", .str "host"]) ht
      refine ⟨_, rfl, .inl ⟨rfl, _, SqL.of (S2 _ _ e1)⟩, _, rfl, q, _, _, _, rfl, rfl, SqT.mono hq1 S2, at1, js, rfl, hj.len, hj.lt, fun l H3 nlH S3 e3 => ?_⟩
      refine ext (S3 _ _ (S2 _ _ e1)) e3 (by have := s60 js hj; simp; omega) fun H4 e4 kp => ?_
      refine ⟨_, rfl, k nl H4 hnl (fun b o e => kp _ _ (S3 _ _ (S2 _ _ (S1 _ _ e))) (ne_of_none e hnl)) e4⟩
    · rw [hv] at dv
      rw [he] at k
      obtain ⟨q, ws, rfl, hq, aw⟩ := dv.head
      have ew : ws = is.map V.int := dtAll_int aw
      subst ew
      refine ⟨_, rfl, q, _, _, _, rfl, rfl, hq, at0, ?_⟩
      refine ⟨_, rfl, rfl, _, rfl, iteFb (dct z num hd hb) (iteFb rfl ?_)⟩
      refine ⟨_, rfl, rfl, _, rfl, iteFb (dct z num hd hb) ?_⟩
      refine ⟨_, rfl, aD_VALUE_NUMBERS, _, Sum.inr z, _, rfl, kD, rfl, hd, sz_1, fun nl hnl => ?_⟩
      have S1 := Same.new (o := .lst (nV [num])) hnl
      have e1 := upd_same (H := H) (a := nl) (o := HO.lst (nV [num]))
      have hq1 := SqT.mono hq S1
      refine ⟨_, rfl, sz_3, fun t ht => ⟨t, _, rfl, .inr (SqT.of upd_same), rfl, rfl, _, rfl, iteFb hi ?_⟩⟩
      have S2 := Same.new (o := .tup [.str "text", .str "built", .str "host"]) ht
      refine ⟨_, rfl, rfl, _, rfl, iteFb (decide_eq_false fun e => hrf (V.str.inj e)) ?_⟩
      refine ⟨_, rfl, _, rfl, q, _, rfl, SqT.mono hq1 S2, fun hw => ?_, fun _ p hp => ?_⟩
      · exfalso
        have h1 := hw.1
        rw [show (some (1 : Int)) = some ((1 : Nat) : Int) from rfl, HT.sIx_nat] at h1
        simp at h1
      · rw [cut_one] at *
        have S3 := Same.new (o := .tup (is.map V.int)) hp
        refine ⟨p, rfl, ⟨_, SqT.of upd_same⟩, ?_⟩
        refine for_tup (xs := is.map V.int) (fun i σ H5 => ∃ x3, σ = [some (.ref q), some (.str z), some (.ref nl), x3] ∧ H5 p = some (.tup (is.map V.int)) ∧ H5 nl = some (.lst (nV (num :: (is.take i).flatMap (fun i => cnt (zig i))))) ∧ Same H H5)
          ⟨none, rfl, upd_same, S3 _ _ (S2 _ _ e1), (S1.trans S2).trans S3⟩ ?_ ?_ ?_
        · rintro i σ H5 _ ⟨x3, rfl, e5, _, _⟩
          exact SqT.of e5
        · rintro i y σ H5 hy ⟨x3, rfl, e5, e6, S5⟩
          rw [List.getElem?_map] at hy
          obtain ⟨m, hm, rfl⟩ := Option.map_eq_some_iff.mp hy
          have hmb := hj m (List.mem_of_getElem? hm)
          have hi2 : i < 2 := by have := (List.getElem?_eq_some_iff.mp hm).1; omega
          have hpn : p ≠ nl := (ne_of e6 e5 (by intro z; cases z)).symm
          have hlen : (num :: (is.take i).flatMap (fun i => cnt (zig i))).length ≤ 61 := by
            match i, hi2 with
            | 0, _ => simp
            | 1, _ =>
              cases is with
              | nil => simp
              | cons a r =>
                have := c60 (zig a) (big a (hj a (by simp)))
                simp; omega
          refine ⟨_, rfl, .inl ⟨rfl, _, SqL.of e6⟩, _, rfl, m, rfl, hmb, fun l H6 _ S6 e7 => ?_⟩
          refine ext (S6 _ _ e6) e7 (by have := c60 (zig m) (big m hmb); omega) fun H7 e8 kp => ⟨some (.int m), rfl, kp _ _ (S6 _ _ e5) hpn, ?_, fun b o e => kp _ _ (S6 _ _ (S5 _ _ e)) (ne_of_none e hnl)⟩
          rw [e8, List.take_succ, hm, List.flatMap_append]; simp
        · rintro σ H5 ⟨x3, rfl, e5, e6, S5⟩
          rw [show (is.map V.int).length = is.length by simp, List.take_length] at e6
          exact ⟨_, rfl, k nl H5 hnl S5 e6⟩
    · obtain ⟨q, y, rfl, hq, dy⟩ := Dt.pair (z := "ref") dv
      cases dy.int_inv
      have ok : n ≤ 2 ^ 100 := ok
      refine ⟨_, rfl, q, _, _, _, rfl, rfl, hq, at0, ?_⟩
      refine ⟨_, rfl, rfl, _, rfl, iteFb (by decide +kernel) (iteFb rfl ?_)⟩
      refine ⟨_, rfl, rfl, _, rfl, iteFb (by decide +kernel) ?_⟩
      refine ⟨_, rfl, aD_VALUE_NUMBERS, _, Sum.inr "ref", V.int 8, rfl, kD, rfl, by decide +kernel, sz_1, fun nl hnl => ?_⟩
      have S1 := Same.new (o := .lst (nV [8])) hnl
      have e1 := upd_same (H := H) (a := nl) (o := HO.lst (nV [8]))
      have hq1 := SqT.mono hq S1
      refine ⟨_, rfl, sz_3, fun t ht => ⟨t, _, rfl, .inr (SqT.of upd_same), rfl, rfl, _, rfl, iteFb (by decide +kernel) ?_⟩⟩
      have S2 := Same.new (o := .tup [.str "text", .str "built", .str "host"]) ht
      refine ⟨_, rfl, rfl, _, rfl, iteTb (by decide +kernel) ?_⟩
      have hn60 : n < 128 ^ 60 := Nat.lt_of_le_of_lt ok (by decide +kernel)
      refine ⟨_, rfl, .inl ⟨rfl, _, SqL.of (S2 _ _ e1)⟩, _, rfl, q, _, _, _, rfl, rfl, SqT.mono hq1 S2, at1, n, rfl, hn60, fun l H3 nlH S3 e3 => ?_⟩
      refine ext (S3 _ _ (S2 _ _ e1)) e3 (by have := c60 n hn60; simp; omega) fun H4 e4 kp => ?_
      refine ⟨_, rfl, k nl H4 hnl (fun b o e => kp _ _ (S3 _ _ (S2 _ _ (S1 _ _ e))) (ne_of_none e hnl)) e4⟩
end

abbrev s_write_tree : Stmt := top 13
abbrev N_write_tree : List Str := ["tree", "numbers", "waiting", "part"]
abbrev P_write_tree : List Str := ["tree"]
theorem sc_write_tree : FnScope N_write_tree P_write_tree (defScope s_write_tree) := ⟨rfl, rfl, rfl, by decide +kernel, rfl, by decide +kernel, by decide +kernel⟩
section
variable {P : Program} {w : World} {K : PySem.W.Frag} {mg : Str → Option Value} {base : Heap}
mutual
/-- the numbers of a tree -/
inductive TrN : PyData → List Nat → Prop
  | str (js : List Nat) : js.length ≤ 100000 → (∀ j ∈ js, j < 95) → TrN (.str (tx js)) (1 :: strN js)
  | int (i : Int) : i.natAbs ≤ 2 ^ 258 → TrN (.int i) (2 :: cnt (zig i))
  | bool (b : Bool) : TrN (.bool b) [3 + if b = true then 1 else 0]
  | tup (ds : List PyData) (ns : List Nat) : ds.length ≤ 1000 → TrNs ds ns → TrN (.tuple ds) (0 :: (cnt ds.length ++ ns))
inductive TrNs : List PyData → List Nat → Prop
  | nil : TrNs [] []
  | cons {d : PyData} {ds : List PyData} {a b : List Nat} : TrN d a → TrNs ds b → TrNs (d :: ds) (a ++ b)
end
theorem TrNs.app : ∀ {ds es : List PyData} {a b : List Nat}, TrNs ds a → TrNs es b → TrNs (ds ++ es) (a ++ b)
  | [], _, _, _, .nil, h => h
  | _ :: _, _, _, _, .cons (a := x) (b := y) h t, g => by
    rw [List.cons_append, List.append_assoc]
    exact .cons h (TrNs.app t g)
theorem none_same0 {H H' : Hp} {l : Addr} (S : Same H H') (h : H' l = none) : H l = none := by
  cases e : H l with
  | none => rfl
  | some o => rw [S _ _ e] at h; cases h
theorem dtAll_snoc {H : Hp} : ∀ {ds : List PyData} {vs : List V} {d : PyData}, DtAll K H vs (ds ++ [d]) → ∃ ws y, vs = ws ++ [y] ∧ DtAll K H ws ds ∧ Dt K H y d
  | [], vs, d, h => by
    obtain ⟨v, ws, rfl, dv, hw⟩ := DtAll.cons_inv h
    obtain rfl := hw.nil_inv
    exact ⟨[], v, rfl, .nil, dv⟩
  | e :: ds, vs, d, h => by
    obtain ⟨v, ws, rfl, dv, hw⟩ := DtAll.cons_inv h
    obtain ⟨us, y, rfl, hu, dy⟩ := dtAll_snoc hw
    exact ⟨v :: us, y, rfl, .cons dv hu, dy⟩
theorem dtAll_rev {H : Hp} : ∀ {ds : List PyData} {vs : List V}, DtAll K H vs ds → DtAll K H vs.reverse ds.reverse
  | [], vs, h => by rw [h.nil_inv]; exact .nil
  | d :: ds, vs, h => by
    obtain ⟨v, ws, rfl, dv, hw⟩ := DtAll.cons_inv h
    rw [List.reverse_cons, List.reverse_cons]
    exact DtAll.app (dtAll_rev hw) (.cons dv .nil)
theorem TrN.pos : ∀ {d : PyData} {a : List Nat}, TrN d a → 1 ≤ a.length
  | _, _, .str _ _ _ => by simp
  | _, _, .int _ _ => by simp
  | _, _, .bool _ => by simp
  | _, _, .tup _ _ _ _ => by simp
theorem TrNs.len : ∀ {ds : List PyData} {b : List Nat}, TrNs ds b → ds.length ≤ b.length
  | [], _, .nil => Nat.le_refl _
  | _ :: _, _, .cons h t => by
    have h1 := h.pos
    have h2 := TrNs.len t
    rw [List.length_cons, List.length_append]
    omega
def muT (nl : Addr) (ns : List Nat) (H : Hp) : Nat := match H nl with | some (.lst xs) => ns.length + 1 - xs.length | _ => 0
theorem mu_lt {H1 H5 : Hp} {nl : Addr} {ns a b : List Nat} (e1 : H1 nl = some (.lst (nV a))) (e5 : H5 nl = some (.lst (nV b))) (hab : a.length < b.length) (hb : b.length ≤ ns.length) : muT nl ns H5 < muT nl ns H1 := by
  unfold muT
  rw [e1, e5]
  show ns.length + 1 - (nV b).length < ns.length + 1 - (nV a).length
  rw [nV_len, nV_len]
  omega
def spWTree (K : PySem.W.Frag) : Sp := fun vs H Q _ => ∃ (v : V) (d : PyData) (ns : List Nat), vs = [v] ∧ Dt K H v d ∧ TrN d ns ∧ ns.length ≤ 100000 ∧ ∀ l H', H l = none → Same H H' → H' l = some (.lst (nV ns)) → Q (.ref l) H'
theorem ok_wtree {f : Addr} {fd : FuncData} (F : Fun K "write_tree" "write_tree" s_write_tree f fd) (T : Txt K mg) (U_write_count : Use P w K mg base CX0 "write_count" 1 P_write_count (spCount K)) (U_write_string : Use P w K mg base CX0 "write_string" 2 P_write_string (spWStr K)) (U_write_integer : Use P w K mg base CX0 "write_integer" 2 P_write_integer (spWInt K)) :
    FnG P w K mg base CX0 3 f fd P_write_tree (spWTree K) := by
  refine okG0 F sc_write_tree (fun vs H Q E h => ?_) fun cdv A outer s H vs Q E hr hg h => ?_
  · obtain ⟨v, d, ns, rfl, _⟩ := h
    rfl
  · obtain ⟨v, d, ns, rfl, dv, hd, hl, k⟩ := h
    refine ⟨_, (pss_cons (ps_set (i := 1) sc_write_tree.nd rfl (Or.inl rfl) (pe_lst pa_nil))
  (pss_cons (ps_set (i := 2) sc_write_tree.nd rfl (Or.inl rfl) (pe_lst (pa_cons (pv 0) pa_nil)))
  (pss_cons (ps_while PassesOwn.never (pt_up (pt_truth (pv 2) (by intro _; rfl)))
   (pss_cons (ps_set (i := 3) sc_write_tree.nd rfl (Or.inl rfl) (pe_bm0 PySem.F.plainAttrs_list PySem.F.slot_list_pop PySem.F.type_list_pop mt_pop (pv 2)))
  (pss_one (ps_if (pt_val (pe_callB call_isi (by rfl) T.b_isinstance (by decide +kernel) (pa_cons (pv 3) (pa_cons (pe_bltn (v := .ty "tuple") (by rfl) T.b_tuple (by decide +kernel) rfl) pa_nil))))
   (pss_cons (ps_expr (pe_bm PySem.F.plainAttrs_list PySem.F.slot_list_append PySem.F.type_list_append mt_append (pv 1) (pa_cons pe_int pa_nil)))
  (pss_cons (ps_expr (pe_bm PySem.F.plainAttrs_list PySem.F.slot_list_extend PySem.F.type_list_extend mt_extend (pv 1) (pa_cons (pe_use U_write_count (hr.mono (by decide)) hg rfl (pa_cons (pe_callB call_len (by rfl) T.b_len PySem.boot_len (pa_cons (pv 3) pa_nil)) pa_nil)) pa_nil)))
  (pss_one (ps_expr (pe_bm PySem.F.plainAttrs_list PySem.F.slot_list_extend PySem.F.type_list_extend mt_extend (pv 2) (pa_cons (pe_listRevT rfl (by rfl) T.b_list (by rfl) T.b_reversed (pv 3)) pa_nil))))))
   (pss_one (ps_if (pt_val (pe_callB call_isi (by rfl) T.b_isinstance (by decide +kernel) (pa_cons (pv 3) (pa_cons (pe_bltn (v := .ty "str") (by rfl) T.b_str (by decide +kernel) rfl) pa_nil))))
   (pss_cons (ps_expr (pe_bm PySem.F.plainAttrs_list PySem.F.slot_list_append PySem.F.type_list_append mt_append (pv 1) (pa_cons pe_int pa_nil)))
  (pss_one (ps_expr (pe_bm PySem.F.plainAttrs_list PySem.F.slot_list_extend PySem.F.type_list_extend mt_extend (pv 1) (pa_cons (pe_use U_write_string (hr.mono (by decide)) hg rfl (pa_cons (pv 3) pa_nil)) pa_nil)))))
   (pss_one (ps_if (pt_val (pe_callB call_isi (by rfl) T.b_isinstance (by decide +kernel) (pa_cons (pv 3) (pa_cons (pe_bltn (v := .ty "bool") (by rfl) T.b_bool (by decide +kernel) rfl) pa_nil))))
   (pss_one (ps_expr (pe_bm PySem.F.plainAttrs_list PySem.F.slot_list_append PySem.F.type_list_append mt_append (pv 1) (pa_cons (pe_op op_add pe_int (pe_callTy call_int1 (by rfl) T.b_int (by decide +kernel) (pa_cons (pv 3) pa_nil))) pa_nil))))
   (pss_cons (ps_expr (pe_bm PySem.F.plainAttrs_list PySem.F.slot_list_append PySem.F.type_list_append mt_append (pv 1) (pa_cons pe_int pa_nil)))
  (pss_one (ps_expr (pe_bm PySem.F.plainAttrs_list PySem.F.slot_list_extend PySem.F.type_list_extend mt_extend (pv 1) (pa_cons (pe_use U_write_integer (hr.mono (by decide)) hg rfl (pa_cons (pv 3) pa_nil)) pa_nil)))))))))))))
  (pss_one (ps_ret (pv 1)))))), ?_⟩
    refine ⟨sz_0, fun nl hnl => ?_⟩
    refine ⟨_, rfl, sz_1, fun wl hwl => ?_⟩
    have S0 : Same H (upd (upd H nl (.lst [])) wl (.lst [v])) := (Same.new hnl).trans (Same.new hwl)
    have en0 := Same.new (o := .lst [v]) hwl _ _ (show (upd H nl (.lst [])) nl = some (.lst []) from upd_same)
    have ew0 : (upd (upd H nl (.lst [])) wl (.lst [v])) wl = some (.lst [v]) := upd_same
    have nw : wl ≠ nl := fun e => by subst e; rw [upd_same] at hwl; cases hwl
    have hwl0 : H wl = none := none_same0 (Same.new hnl) hwl
    generalize upd (upd H nl (.lst [])) wl (.lst [v]) = H0 at S0 en0 ew0 ⊢
    refine while_up (fun σ H1 => ∃ (x3 : Option V) (don rest : List Nat) (st : List V) (rs : List PyData), σ = [some v, some (.ref nl), some (.ref wl), x3] ∧ Same H H1 ∧ H1 nl = some (.lst (nV don)) ∧ H1 wl = some (.lst st) ∧ DtAll K H1 st rs.reverse ∧ TrNs rs rest ∧ don ++ rest = ns)
      (fun _ H1 => muT nl ns H1)
      ⟨none, [], ns, [v], [d], rfl, S0, en0, ew0, .cons (dv.mono S0) .nil, by have := TrNs.cons hd .nil; rw [List.append_nil] at this; exact this, rfl⟩ ?_
    rintro σ H1 ⟨x3, don, rest, st, rs, rfl, S1, en, ew, ast, hrs, hcat⟩
    refine ⟨_, rfl, !st.isEmpty, .inl ⟨st, SqL.of ew, rfl⟩, ?_⟩
    cases hrs with
    | nil =>
      obtain rfl := DtAll.nil_inv ast
      refine iteFb rfl ?_
      rw [List.append_nil] at hcat
      subst hcat
      exact ⟨_, rfl, k _ _ hnl S1 en⟩
    | @cons d1 ds1 a b h1 hr1 =>
      obtain ⟨st1, y, rfl, as1, dy⟩ : ∃ st1 y, st = st1 ++ [y] ∧ DtAll K H1 st1 ds1.reverse ∧ Dt K H1 y d1 := by
        rw [List.reverse_cons] at ast
        exact dtAll_snoc ast
      refine iteTb (by simp) ?_
      refine ⟨_, rfl, .inl ⟨rfl, _, SqL.of ew⟩, wl, _, y, rfl, rfl, ew, by simp, ?_⟩
      rw [List.dropLast_concat]
      have kt1 : KeepT K H1 (upd H1 wl (.lst st1)) := KeepT.upd ew
      have e2 : (upd H1 wl (.lst st1)) nl = some (.lst (nV don)) := by rw [upd_ne (Ne.symm nw)]; exact en
      have w2 : (upd H1 wl (.lst st1)) wl = some (.lst st1) := upd_same
      have S2 : Same H (upd H1 wl (.lst st1)) := fun b o hb => by rw [upd_ne (ne_of_none hb hwl0)]; exact S1 b o hb
      have as2 := as1.keepT kt1
      have dy2 := dy.keepT kt1
      generalize upd H1 wl (.lst st1) = H2 at e2 w2 S2 as2 dy2 ⊢
      clear kt1 ast as1 dy
      have dl := congrArg List.length hcat
      simp only [List.length_append] at dl
      have ldon : (nV don).length = don.length := nV_len _
      have sl : ∀ n : Nat, n ≤ 200000 → n ≤ sizeLine := fun n h => Nat.le_trans h (by decide)
      have sl2 : ∀ n : Nat, n ≤ 200000 → n < sizeLine := fun n h => Nat.lt_of_le_of_lt h (by decide)
      cases h1 with
      | str js hj1 hj2 =>
        cases dy2.str_inv
        refine ⟨_, rfl, _, _, _, _, false, rfl, .ty _, .base (.str _), kit_ty (by decide +kernel), _, rfl, iteFb rfl ?_⟩
        refine ⟨_, rfl, _, _, _, _, true, rfl, .ty _, .base (.str _), if_pos (beq_self_eq_true _), _, rfl, iteTb rfl ?_⟩
        refine ⟨_, rfl, .inl ⟨rfl, _, SqL.of e2⟩, nl, _, _, rfl, rfl, e2, sl2 _ (by omega), ?_⟩
        have e3 : (upd H2 nl (.lst (nV don ++ [.int 1]))) nl = some (.lst (nV don ++ [.int 1])) := upd_same
        have w3 : (upd H2 nl (.lst (nV don ++ [.int 1]))) wl = some (.lst st1) := by rw [upd_ne nw]; exact w2
        have S3 : Same H (upd H2 nl (.lst (nV don ++ [.int 1]))) := fun b o hb => by rw [upd_ne (ne_of_none hb hnl)]; exact S2 b o hb
        have as3 := as2.keepT (KeepT.upd (o := .lst (nV don ++ [.int 1])) e2)
        generalize upd H2 nl (.lst (nV don ++ [.int 1])) = H3 at e3 w3 S3 as3 ⊢
        refine ⟨_, rfl, .inl ⟨rfl, _, SqL.of e3⟩, _, rfl, js, rfl, hj1, hj2, fun l H4 hl4 S4 el => ⟨nl, l, _, _, rfl, rfl, S4 _ _ e3, el, sl _ (by simp only [List.length_append, List.length_singleton, nV_len, List.length_cons, List.length_nil] at dl ⊢; omega), ?_⟩⟩
        have ed : nV don ++ [.int 1] ++ nV (strN js) = nV (don ++ 1 :: strN js) := by rw [nV_app, List.append_assoc]; rfl
        rw [ed]
        refine ⟨⟨_, don ++ 1 :: strN js, b, st1, ds1, rfl, fun c o hb => by rw [upd_ne (ne_of_none hb hnl)]; exact S4 _ _ (S3 c o hb), upd_same, by rw [upd_ne nw]; exact S4 _ _ w3, (as3.mono S4).keepT (KeepT.upd (S4 _ _ e3)), hr1, by rw [List.append_assoc]; exact hcat⟩, mu_lt en upd_same (by simp) (by simp at dl ⊢; omega)⟩
      | int i hi =>
        cases dy2.int_inv
        refine ⟨_, rfl, _, _, _, _, false, rfl, .ty _, .base (.int _), kit_ty (by decide +kernel), _, rfl, iteFb rfl ?_⟩
        refine ⟨_, rfl, _, _, _, _, false, rfl, .ty _, .base (.int _), kit_ty (by decide +kernel), _, rfl, iteFb rfl ?_⟩
        refine ⟨_, rfl, _, _, _, _, false, rfl, .ty _, .base (.int _), kit_ty (by decide +kernel), _, rfl, iteFb rfl ?_⟩
        refine ⟨_, rfl, .inl ⟨rfl, _, SqL.of e2⟩, nl, _, _, rfl, rfl, e2, sl2 _ (by omega), ?_⟩
        have e3 : (upd H2 nl (.lst (nV don ++ [.int 2]))) nl = some (.lst (nV don ++ [.int 2])) := upd_same
        have w3 : (upd H2 nl (.lst (nV don ++ [.int 2]))) wl = some (.lst st1) := by rw [upd_ne nw]; exact w2
        have S3 : Same H (upd H2 nl (.lst (nV don ++ [.int 2]))) := fun b o hb => by rw [upd_ne (ne_of_none hb hnl)]; exact S2 b o hb
        have as3 := as2.keepT (KeepT.upd (o := .lst (nV don ++ [.int 2])) e2)
        generalize upd H2 nl (.lst (nV don ++ [.int 2])) = H3 at e3 w3 S3 as3 ⊢
        refine ⟨_, rfl, .inl ⟨rfl, _, SqL.of e3⟩, _, rfl, i, rfl, hi, fun l H4 hl4 S4 el => ⟨nl, l, _, _, rfl, rfl, S4 _ _ e3, el, sl _ (by simp only [List.length_append, List.length_singleton, nV_len, List.length_cons, List.length_nil] at dl ⊢; omega), ?_⟩⟩
        have ed : nV don ++ [.int 2] ++ nV (cnt (zig i)) = nV (don ++ 2 :: cnt (zig i)) := by rw [nV_app, List.append_assoc]; rfl
        rw [ed]
        refine ⟨⟨_, don ++ 2 :: cnt (zig i), b, st1, ds1, rfl, fun c o hb => by rw [upd_ne (ne_of_none hb hnl)]; exact S4 _ _ (S3 c o hb), upd_same, by rw [upd_ne nw]; exact S4 _ _ w3, (as3.mono S4).keepT (KeepT.upd (S4 _ _ e3)), hr1, by rw [List.append_assoc]; exact hcat⟩, mu_lt en upd_same (by simp) (by simp at dl ⊢; omega)⟩
      | bool q =>
        cases dy2.bool_inv
        refine ⟨_, rfl, _, _, _, _, false, rfl, .ty _, .base (.bl _), kit_ty (by decide +kernel), _, rfl, iteFb rfl ?_⟩
        refine ⟨_, rfl, _, _, _, _, false, rfl, .ty _, .base (.bl _), kit_ty (by decide +kernel), _, rfl, iteFb rfl ?_⟩
        refine ⟨_, rfl, _, _, _, _, true, rfl, .ty _, .base (.bl _), if_pos (beq_self_eq_true _), _, rfl, iteTb rfl ?_⟩
        refine ⟨_, rfl, .inl ⟨rfl, _, SqL.of e2⟩, _, rfl, .inr ⟨q, rfl, _, _, rfl, rfl, nl, _, _, rfl, rfl, e2, sl2 _ (by omega), ?_⟩⟩
        have ed : nV don ++ [.int (3 + if q = true then (1 : Int) else 0)] = nV (don ++ [3 + if q = true then 1 else 0]) := by
          rw [nV_app]
          cases q <;> rfl
        rw [ed]
        exact ⟨⟨_, don ++ [3 + if q = true then 1 else 0], b, st1, ds1, rfl, fun c o hb => by rw [upd_ne (ne_of_none hb hnl)]; exact S2 c o hb, upd_same, by rw [upd_ne nw]; exact w2, as2.keepT (KeepT.upd e2), hr1, by rw [List.append_assoc]; exact hcat⟩, mu_lt en upd_same (by simp) (by simp at dl ⊢; omega)⟩
      | tup es ms hes hms =>
        obtain ⟨q, xs, rfl, hq, ax⟩ := dy2.tuple_inv
        have lx := ax.length
        refine ⟨_, rfl, _, _, _, _, true, rfl, .ty _, SqT.tyX hq, if_pos (beq_self_eq_true _), _, rfl, iteTb rfl ?_⟩
        refine ⟨_, rfl, .inl ⟨rfl, _, SqL.of e2⟩, nl, _, _, rfl, rfl, e2, sl2 _ (by omega), ?_⟩
        have e3 : (upd H2 nl (.lst (nV don ++ [.int 0]))) nl = some (.lst (nV don ++ [.int 0])) := upd_same
        have w3 : (upd H2 nl (.lst (nV don ++ [.int 0]))) wl = some (.lst st1) := by rw [upd_ne nw]; exact w2
        have S3 : Same H (upd H2 nl (.lst (nV don ++ [.int 0]))) := fun b o hb => by rw [upd_ne (ne_of_none hb hnl)]; exact S2 b o hb
        have as3 := as2.keepT (KeepT.upd (o := .lst (nV don ++ [.int 0])) e2)
        have hq3 := KeepT.upd (o := .lst (nV don ++ [.int 0])) e2 _ _ hq
        have ax3 := ax.keepT (KeepT.upd (o := .lst (nV don ++ [.int 0])) e2)
        generalize upd H2 nl (.lst (nV don ++ [.int 0])) = H3 at e3 w3 S3 as3 hq3 ax3 ⊢
        refine ⟨_, rfl, .inl ⟨rfl, _, SqL.of e3⟩, _, rfl, _, _, rfl, .inr ⟨_, hq3, rfl⟩, xs.length, rfl, ?_, fun l H4 hl4 S4 el => ⟨nl, l, _, _, rfl, rfl, S4 _ _ e3, el, sl _ ?_, ?_⟩⟩
        · exact Nat.lt_of_le_of_lt (show xs.length ≤ 1000 by omega) (by decide +kernel)
        · rw [lx]
          simp only [List.length_append, List.length_singleton, nV_len, List.length_cons, List.length_nil] at dl ⊢
          omega
        have ed : nV don ++ [.int 0] ++ nV (cnt xs.length) = nV (don ++ 0 :: cnt es.length) := by rw [nV_app, List.append_assoc, lx]; rfl
        rw [ed]
        have e5 : (upd H4 nl (.lst (nV (don ++ 0 :: cnt es.length)))) nl = some (.lst (nV (don ++ 0 :: cnt es.length))) := upd_same
        have w5 : (upd H4 nl (.lst (nV (don ++ 0 :: cnt es.length)))) wl = some (.lst st1) := by rw [upd_ne nw]; exact S4 _ _ w3
        have S5 : Same H (upd H4 nl (.lst (nV (don ++ 0 :: cnt es.length)))) := fun b o hb => by rw [upd_ne (ne_of_none hb hnl)]; exact S4 _ _ (S3 b o hb)
        have as5 := (as3.mono S4).keepT (KeepT.upd (o := .lst (nV (don ++ 0 :: cnt es.length))) (S4 _ _ e3))
        have ax5 := (ax3.mono S4).keepT (KeepT.upd (o := .lst (nV (don ++ 0 :: cnt es.length))) (S4 _ _ e3))
        have hq5 := KeepT.upd (o := .lst (nV (don ++ 0 :: cnt es.length))) (S4 _ _ e3) _ _ (Same.tupl S4 hq3)
        generalize upd H4 nl (.lst (nV (don ++ 0 :: cnt es.length))) = H5 at e5 w5 S5 as5 ax5 hq5 ⊢
        refine ⟨_, rfl, .inl ⟨rfl, _, SqL.of w5⟩, _, rfl, q, xs, rfl, hq5, fun r hr5 => ?_⟩
        have T := Same.new (o := .lst xs.reverse) hr5
        have ls := as5.length
        have lb := hr1.len
        rw [List.length_reverse] at ls
        refine ⟨wl, r, _, _, rfl, rfl, T _ _ w5, upd_same, sl _ (by rw [List.length_reverse]; simp only [List.length_append, List.length_cons] at dl; omega), ?_⟩
        refine ⟨⟨_, don ++ 0 :: cnt es.length, ms ++ b, st1 ++ xs.reverse, es ++ ds1, rfl, fun c o hb => by rw [upd_ne (ne_of_none hb hwl0)]; exact T _ _ (S5 c o hb), by rw [upd_ne (Ne.symm nw)]; exact T _ _ e5, upd_same, ?_, TrNs.app hms hr1, by rw [← hcat]; simp⟩, mu_lt en (by rw [upd_ne (Ne.symm nw)]; exact T _ _ e5) (by simp) (by simp at dl ⊢; omega)⟩
        rw [List.reverse_append]
        exact (DtAll.app (as5.mono T) ((dtAll_rev ax5).mono T)).keepT (KeepT.upd (T _ _ w5))
end

abbrev s_law_signs : Stmt := top 58
abbrev N_law_signs : List Str := ["signs"]
abbrev P_law_signs : List Str := []
theorem sc_law_signs : FnScope N_law_signs P_law_signs (defScope s_law_signs) := ⟨rfl, rfl, rfl, by decide +kernel, rfl, by decide +kernel, by decide +kernel⟩
abbrev s_law_text : Stmt := top 59
abbrev N_law_text : List Str := ["box", "up", "signs", "size", "k"]
abbrev P_law_text : List Str := ["box", "up"]
theorem sc_law_text : FnScope N_law_text P_law_text (defScope s_law_text) := ⟨rfl, rfl, rfl, by decide +kernel, rfl, by decide +kernel, by decide +kernel⟩
abbrev s_law_name : Stmt := top 60
abbrev N_law_name : List Str := ["box", "letters", "size", "k"]
abbrev P_law_name : List Str := ["box"]
theorem sc_law_name : FnScope N_law_name P_law_name (defScope s_law_name) := ⟨rfl, rfl, rfl, by decide +kernel, rfl, by decide +kernel, by decide +kernel⟩
abbrev s_law_number : Stmt := top 61
abbrev N_law_number : List Str := ["box", "bound", "kind", "number", "k"]
abbrev P_law_number : List Str := ["box"]
theorem sc_law_number : FnScope N_law_number P_law_number (defScope s_law_number) := ⟨rfl, rfl, rfl, by decide +kernel, rfl, by decide +kernel, by decide +kernel⟩
abbrev s_law_value : Stmt := top 62
abbrev N_law_value : List Str := ["box", "many", "kind", "low"]
abbrev P_law_value : List Str := ["box", "many"]
theorem sc_law_value : FnScope N_law_value P_law_value (defScope s_law_value) := ⟨rfl, rfl, rfl, by decide +kernel, rfl, by decide +kernel, by decide +kernel⟩
section
variable {P : Program} {w : World} {K : PySem.W.Frag} {mg : Str → Option Value} {base : Heap}
def spSigns (K : PySem.W.Frag) : Sp := fun vs H Q _ => vs = [] ∧ Q (.str chStr) H
theorem ok_signs {f : Addr} {fd : FuncData} (F : Fun K "_law_signs" "_law_signs" s_law_signs f fd) (T : Txt K mg) : FnG P w K mg base CX0 1 f fd P_law_signs (spSigns K) := by
  refine okG0 F sc_law_signs (fun vs H Q E h => ?_) fun cdv A outer s H vs Q E hr hg h => ?_
  · obtain ⟨rfl, _⟩ := h
    rfl
  · obtain ⟨rfl, k⟩ := h
    refine ⟨_, (pss_cons (ps_set (i := 0) sc_law_signs.nd rfl (Or.inl rfl) pe_str)
  (pss_one (ps_ret (pe_op op_add_str (pv 0) pe_str)))), ?_⟩
    refine ⟨_, rfl, _, _, rfl, rfl, by decide +kernel, ?_⟩
    exact k
theorem chars_of : ∀ {cs : List Nat}, (∀ c ∈ cs, ∃ j < 95, ch j = c) → ∃ js : List Nat, cs = js.map ch ∧ js.length = cs.length ∧ ∀ j ∈ js, j < 95
  | [], _ => ⟨[], rfl, rfl, by simp⟩
  | c :: r, h => by
    obtain ⟨j, hj, e⟩ := h c (by simp)
    obtain ⟨js, e1, e2, e3⟩ := chars_of (cs := r) fun d hd => h d (List.mem_cons_of_mem _ hd)
    exact ⟨j :: js, by rw [List.map_cons, e, e1], by simp [e2], fun x hx => by
      rcases List.mem_cons.mp hx with rfl | hx
      · exact hj
      · exact e3 x hx⟩
def chV (cs : List Nat) : List V := (cs.map fun c => (⟨#[c]⟩ : Str)).map V.str
theorem chV_app (a b : List Nat) : chV (a ++ b) = chV a ++ chV b := by unfold chV; rw [List.map_append, List.map_append]
theorem chV_len (a : List Nat) : (chV a).length = a.length := by unfold chV; simp
theorem one_len : ∀ cs : List Nat, ((cs.map fun c => (⟨#[c]⟩ : Str)).map (·.length)).sum = cs.length
  | [] => rfl
  | c :: r => by rw [List.map_cons, List.map_cons, List.sum_cons, one_len r]; simp [Str.length]; omega
def spText (K : PySem.W.Frag) : Sp := fun vs H Q _ => ∃ (p dl : Addr) (up : Nat), vs = [.ref p, .int (up : Int)] ∧ BoxAt H p dl ∧ up ≤ 1000 ∧ ∀ (js : List Nat) H', js.length ≤ up → (∀ j ∈ js, j < 95) → BoxAt H' p dl → Keep p H H' → Q (.str (tx js)) H'
theorem ok_text {f : Addr} {fd : FuncData} (F : Fun K "_law_text" "_law_text" s_law_text f fd) (T : Txt K mg) (U_law_signs : Use P w K mg base CX0 "_law_signs" 1 P_law_signs (spSigns K)) (U_law_draw : Use P w K mg base CX0 "_law_draw" 1 P_law_draw (spDraw K)) : FnG P w K mg base CX0 2 f fd P_law_text (spText K) := by
  refine okG0 F sc_law_text (fun vs H Q E h => ?_) fun cdv A outer s H vs Q E hr hg h => ?_
  · obtain ⟨p, dl, up, rfl, _⟩ := h
    rfl
  · obtain ⟨p, dl, up, rfl, B, hup, k⟩ := h
    refine ⟨_, (pss_cons (ps_set (i := 2) sc_law_text.nd rfl (Or.inr rfl) (pe_use0 U_law_signs (hr.mono (by decide)) hg rfl))
  (pss_cons (ps_set (i := 3) sc_law_text.nd rfl (Or.inl rfl) (pe_use U_law_draw (hr.mono (by decide)) hg rfl (pa_cons (pv 0) (pa_cons (pe_op op_add (pv 1) pe_int) pa_nil))))
  (pss_one (ps_ret (pe_bm PySem.F.plainAttrs_str PySem.F.slot_str_join PySem.F.type_str_join mt_join pe_str (pa_cons (pe_lc (own := [("k", 4)]) (g := (gName 4)) rfl sc_law_text.nd (pi_range1 (by rfl) T.b_range (pa_cons (pv 3) pa_nil)) (blkOk_by (N := N_law_text) (sc := defScope s_law_text) (by decide +kernel)) (fun _ _ _ _ _ => (pg_name (i := 4) sc_law_text.nd rfl (Or.inl rfl))) (fun _ _ _ _ _ => pts_nil) (fun _ _ _ _ _ => (pe_ix ix_str (pv 2) (pe_use U_law_draw (hr.mono (by decide)) hg rfl (pa_cons (pv 0) (pa_cons pe_int pa_nil))) (fun _ _ => rfl)))) pa_nil)))))), ?_⟩
    refine ⟨rfl, ?_⟩
    refine ⟨_, rfl, _, rfl, _, _, rfl, rfl, p, dl, (up : Int) + 1, rfl, B, by omega, fun r H1 r0 r1 B1 K1 => ?_⟩
    obtain ⟨n, rfl⟩ := Int.eq_ofNat_of_zero_le r0
    refine ⟨rfl, _, rfl, n, rfl, by omega, by omega, fun D hD => ?_⟩
    rw [Int.toNat_natCast]
    obtain ⟨hDp, hDd⟩ := B1.ne_new hD
    refine lc_it (walk_range (lo := 0) (n := n)) (fun i H' => ∃ cs : List Nat, H' D = some (.lst (chV cs)) ∧ cs.length = i ∧ (∀ c ∈ cs, ∃ j < 95, ch j = c) ∧ BoxAt H' p dl ∧ Keep p H1 H') ⟨[], upd_same, rfl, by simp, B1.same (Same.new hD), Same.keep (Same.new hD)⟩ (fun _ _ _ _ => trivial) ?_ ?_
    · rintro i x H5 H6 hi ⟨cs, e5, hl5, hc5, B5, K5⟩ ⟨rfl, rfl⟩
      refine ⟨rfl, tYes_of ?_⟩
      refine ⟨_, rfl, _, rfl, p, dl, 95, rfl, B5, by decide, fun r H7 q0 q1 B7 K7 => ?_⟩
      obtain ⟨j, rfl⟩ := Int.eq_ofNat_of_zero_le q0
      have e7 := K7 _ _ e5 hDp
      refine ⟨chStr, (j : Int), ch j, rfl, rfl, by decide +kernel, atI_nat (ch_at (by omega)), chV cs, e7, ?_, cs ++ [ch j], ?_, by simp [hl5], fun c hc => ?_, B7.upd hDp hDd, fun b o e hb => ?_⟩
      · rw [chV_len]; exact Nat.lt_of_le_of_lt (show cs.length ≤ 1000 by omega) (by decide)
      · rw [upd_same, chV_app]; rfl
      · rcases List.mem_append.mp hc with hc | hc
        · exact hc5 c hc
        · exact ⟨j, by omega, (List.mem_singleton.mp hc).symm⟩
      · rw [upd_ne (ne_of_none e hD)]; exact K7 _ _ (K5 _ _ e hb) hb
    · rintro H5 ⟨cs, e5, hl5, hc5, B5, K5⟩
      obtain ⟨js, rfl, h1, h2⟩ := chars_of hc5
      rw [List.length_map] at hl5
      refine ⟨_, D, _, rfl, rfl, .inl (SqL.of e5), ?_, ?_⟩
      · rw [one_len, List.length_map, List.length_map, show ("" : Str).length = 0 by decide +kernel]; omega
      · rw [join_chars]
        exact k js H5 (by omega) h2 B5 (K1.trans K5)
def nmC : List Nat := ("abcdefghijklmnopqrstuvwxyz_" : Str).cps.toList
def spName (K : PySem.W.Frag) : Sp := fun vs H Q _ => ∃ (p dl : Addr), vs = [.ref p] ∧ BoxAt H p dl ∧ ∀ (js : List Nat) H', js.length ≤ 5 → (∀ j ∈ js, j < 95) → BoxAt H' p dl → Keep p H H' → Q (.str (tx js)) H'
theorem ok_name {f : Addr} {fd : FuncData} (F : Fun K "_law_name" "_law_name" s_law_name f fd) (T : Txt K mg) (U_law_draw : Use P w K mg base CX0 "_law_draw" 1 P_law_draw (spDraw K)) : FnG P w K mg base CX0 2 f fd P_law_name (spName K) := by
  refine okG0 F sc_law_name (fun vs H Q E h => ?_) fun cdv A outer s H vs Q E hr hg h => ?_
  · obtain ⟨p, dl, rfl, _⟩ := h
    rfl
  · obtain ⟨p, dl, rfl, B, k⟩ := h
    refine ⟨_, (pss_cons (ps_set (i := 1) sc_law_name.nd rfl (Or.inr rfl) pe_str)
  (pss_cons (ps_set (i := 2) sc_law_name.nd rfl (Or.inl rfl) (pe_op op_add pe_int (pe_use U_law_draw (hr.mono (by decide)) hg rfl (pa_cons (pv 0) (pa_cons pe_int pa_nil)))))
  (pss_one (ps_ret (pe_bm PySem.F.plainAttrs_str PySem.F.slot_str_join PySem.F.type_str_join mt_join pe_str (pa_cons (pe_lc (own := [("k", 3)]) (g := (gName 3)) rfl sc_law_name.nd (pi_range1 (by rfl) T.b_range (pa_cons (pv 2) pa_nil)) (blkOk_by (N := N_law_name) (sc := defScope s_law_name) (by decide +kernel)) (fun _ _ _ _ _ => (pg_name (i := 3) sc_law_name.nd rfl (Or.inl rfl))) (fun _ _ _ _ _ => pts_nil) (fun _ _ _ _ _ => (pe_ix ix_str (pv 1) (pe_use U_law_draw (hr.mono (by decide)) hg rfl (pa_cons (pv 0) (pa_cons pe_int pa_nil))) (fun _ _ => rfl)))) pa_nil)))))), ?_⟩
    have hS : ("abcdefghijklmnopqrstuvwxyz_" : Str) = S nmC := by decide +kernel
    have hL : nmC.length = 27 := by decide +kernel
    have hl0 : ("abcdefghijklmnopqrstuvwxyz_" : Str).length ≤ sizeLine := by decide +kernel
    have hin : ∀ c ∈ nmC, ∃ j < 95, ch j = c := by decide +kernel
    refine ⟨_, rfl, p, dl, 5, rfl, B, by decide, fun r H1 r0 r1 B1 K1 => ⟨_, _, rfl, rfl, ?_⟩⟩
    obtain ⟨n, hn⟩ : ∃ n : Nat, 1 + r = (n : Int) := ⟨(1 + r).toNat, by omega⟩
    refine ⟨rfl, _, rfl, n, congrArg (fun z => [V.int z]) hn, by omega, by omega, fun D hD => ?_⟩
    rw [Int.toNat_natCast]
    obtain ⟨hDp, hDd⟩ := B1.ne_new hD
    refine lc_it (walk_range (lo := 0) (n := n)) (fun i H' => ∃ cs : List Nat, H' D = some (.lst (chV cs)) ∧ cs.length = i ∧ (∀ c ∈ cs, ∃ j < 95, ch j = c) ∧ BoxAt H' p dl ∧ Keep p H1 H') ⟨[], upd_same, rfl, by simp, B1.same (Same.new hD), Same.keep (Same.new hD)⟩ (fun _ _ _ _ => trivial) ?_ ?_
    · rintro i x H5 H6 hi ⟨cs, e5, hl5, hc5, B5, K5⟩ ⟨rfl, rfl⟩
      refine ⟨rfl, tYes_of ?_⟩
      refine ⟨_, rfl, _, rfl, p, dl, 27, rfl, B5, by decide, fun r H7 q0 q1 B7 K7 => ?_⟩
      obtain ⟨j, rfl⟩ := Int.eq_ofNat_of_zero_le q0
      have e7 := K7 _ _ e5 hDp
      have hc : nmC[j]? = some nmC[j] := List.getElem?_eq_getElem (by omega)
      have hcm := hin _ (List.getElem_mem (show j < nmC.length by omega))
      generalize nmC[j]'(by omega) = c at hc hcm
      refine ⟨S nmC, (j : Int), c, by rw [hS], rfl, by rw [← hS]; exact hl0, at_S hc, chV cs, e7, ?_, cs ++ [c], ?_, by simp [hl5], fun d hd => ?_, B7.upd hDp hDd, fun b o e hb => ?_⟩
      · rw [chV_len]; exact Nat.lt_of_le_of_lt (show cs.length ≤ 1000 by omega) (by decide)
      · rw [upd_same, chV_app]; rfl
      · rcases List.mem_append.mp hd with hd | hd
        · exact hc5 d hd
        · rw [List.mem_singleton.mp hd]; exact hcm
      · rw [upd_ne (ne_of_none e hD)]; exact K7 _ _ (K5 _ _ e hb) hb
    · rintro H5 ⟨cs, e5, hl5, hc5, B5, K5⟩
      obtain ⟨js, rfl, h1, h2⟩ := chars_of hc5
      rw [List.length_map] at hl5
      refine ⟨_, D, _, rfl, rfl, .inl (SqL.of e5), ?_, ?_⟩
      · rw [one_len, List.length_map, List.length_map, show ("" : Str).length = 0 by decide +kernel]; omega
      · rw [join_chars]
        exact k js H5 (by omega) h2 B5 (K1.trans K5)
def bd : Int := (2 ^ (64 : Int).toNat) ^ (4 : Int).toNat
theorem bd_eq : bd = 2 ^ 256 := by decide +kernel
def spNumb (K : PySem.W.Frag) : Sp := fun vs H Q _ => ∃ (p dl : Addr), vs = [.ref p] ∧ BoxAt H p dl ∧ ∀ (n : Int) H', n.natAbs < 2 ^ 256 → BoxAt H' p dl → Keep p H H' → Q (.int n) H'
theorem ok_number {f : Addr} {fd : FuncData} (F : Fun K "_law_number" "_law_number" s_law_number f fd) (T : Txt K mg) (U_law_draw : Use P w K mg base CX0 "_law_draw" 1 P_law_draw (spDraw K)) : FnG P w K mg base CX0 2 f fd P_law_number (spNumb K) := by
  refine okG0 F sc_law_number (fun vs H Q E h => ?_) fun cdv A outer s H vs Q E hr hg h => ?_
  · obtain ⟨p, dl, rfl, _⟩ := h
    rfl
  · obtain ⟨p, dl, rfl, B, k⟩ := h
    refine ⟨_, (pss_cons (ps_set (i := 1) sc_law_number.nd rfl (Or.inl rfl) (pe_op op_powW (pe_op op_pow pe_int pe_int) pe_int))
  (pss_cons (ps_set (i := 2) sc_law_number.nd rfl (Or.inl rfl) (pe_use U_law_draw (hr.mono (by decide)) hg rfl (pa_cons (pv 0) (pa_cons pe_int pa_nil))))
  (pss_cons (ps_set (i := 3) sc_law_number.nd rfl (Or.inl rfl) (pe_use U_law_draw (hr.mono (by decide)) hg rfl (pa_cons (pv 0) (pa_cons pe_int pa_nil))))
  (C8.pss_cut (ps_if (pt_cmpR op_eq (pv 2) pe_int (nomark _))
   (pss_one (ps_set (i := 3) sc_law_number.nd rfl (Or.inl rfl) (pe_op op_sub (pe_op op_sub (pv 1) pe_int) (pv 3))))
   (pss_one (ps_if (pt_cmpR op_eq (pv 2) pe_int (nomark _))
   (pss_one (ps_for PassesOwn.never rfl (pi_range1 (by rfl) T.b_range (pa_cons (pe_use U_law_draw (hr.mono (by decide)) hg rfl (pa_cons (pv 0) (pa_cons pe_int pa_nil))) pa_nil)) (pg_name (i := 4) sc_law_number.nd rfl (Or.inl rfl))
   (pss_one (ps_set (i := 3) sc_law_number.nd rfl (Or.inl rfl) (pe_op op_mod (pe_callTy call_int1 (by rfl) T.b_int (by decide +kernel) (pa_cons (pe_op op_add (pe_op op_mulW (pv 3) pe_int) (pe_use U_law_draw (hr.mono (by decide)) hg rfl (pa_cons (pv 0) (pa_cons pe_int pa_nil)))) pa_nil)) (pv 1))))))
   (pss_one (ps_if (pt_cmpR op_eq (pv 2) pe_int (nomark _))
   (pss_one (ps_set (i := 3) sc_law_number.nd rfl (Or.inl rfl) (pe_ix ix_list (pe_lst (pa_cons pe_int (pa_cons pe_int (pa_cons pe_int (pa_cons pe_int (pa_cons pe_int (pa_cons pe_int (pa_cons pe_int (pa_cons pe_int pa_nil))))))))) (pe_use U_law_draw (hr.mono (by decide)) hg rfl (pa_cons (pv 0) (pa_cons pe_int pa_nil))) (fun _ _ => rfl))))
   pss_nil)))))
  (pss_cons (ps_if (pt_cmpR op_eq (pe_use U_law_draw (hr.mono (by decide)) hg rfl (pa_cons (pv 0) (pa_cons pe_int pa_nil))) pe_int (nomark _))
   (pss_one (ps_ret (pe_un un_neg (pv 3))))
   pss_nil)
  (pss_one (ps_ret (pv 3)))))))), ?_⟩
    refine ⟨_, _, rfl, rfl, ⟨by decide, by decide⟩, _, _, rfl, rfl, ⟨by decide, by decide +kernel⟩, ?_⟩
    refine ⟨_, rfl, p, dl, 8, rfl, B, by decide, fun kind H1 k0 k1 B1 K1 => ?_⟩
    refine ⟨_, rfl, p, dl, 300, rfl, B1, by decide, fun n0 H2 n00 n01 B2 K2 => ?_⟩
    have K12 := K1.trans K2
    refine ⟨fun σ H' => ∃ (n : Int) (x4 : Option V), σ = [some (.ref p), some (.int bd), some (.int kind), some (.int n), x4] ∧ n.natAbs < 2 ^ 256 ∧ BoxAt H' p dl ∧ Keep p H H', ?_, ?_⟩
    · refine ⟨_, rfl, rfl, _, rfl, ?_⟩
      refine ite3 (fun _ => ?_) fun _ => ?_
      · refine ⟨_, rfl, _, _, rfl, rfl, _, rfl, _, _, rfl, rfl, bd - 1 - n0, none, rfl, ?_, B2, K12⟩
        rw [bd_eq]; omega
      refine ⟨_, rfl, rfl, _, rfl, ?_⟩
      refine ite3 (fun _ => ?_) fun _ => ?_
      · refine ⟨_, rfl, p, dl, 24, rfl, B2, by decide, fun m H3 m0 m1 B3 K3 => ?_⟩
        obtain ⟨m, rfl⟩ := Int.eq_ofNat_of_zero_le m0
        refine ⟨_, rfl, by omega, by omega, ?_⟩
        rw [Int.toNat_natCast]
        refine for_range (lo := 0) (n := m) (fun i σ H4 => ∃ (n : Int) (x4 : Option V), σ = [some (.ref p), some (.int bd), some (.int kind), some (.int n), x4] ∧ n.natAbs < 2 ^ 256 ∧ BoxAt H4 p dl ∧ Keep p H H4) ⟨n0, none, rfl, Nat.lt_of_lt_of_le (show n0.natAbs < 2 ^ 9 by omega) (Nat.pow_le_pow_right (by decide) (by decide)), B3, K12.trans K3⟩ ?_ ?_
        · rintro i σ H4 hi ⟨n, x4, rfl, hn, B4, K4⟩
          refine ⟨_, rfl, _, _, rfl, rfl, wide_mul (a := 256) (b := 10) hn (by decide) (by decide) (by decide) (by decide), _, rfl, p, dl, 1000, rfl, B4, by decide, fun r H5 r0 r1 B5 K5 => ⟨_, _, rfl, rfl, .inl ⟨_, rfl, _, rfl, _, _, rfl, rfl, ?_, (n * 1000 + r) % bd, some (.int (0 + (i : Int))), rfl, ?_, B5, K4.trans K5⟩⟩⟩
          · show 0 < bd; rw [bd_eq]; decide
          · have h0 := Int.emod_nonneg (n * 1000 + r) (show bd ≠ 0 by rw [bd_eq]; decide)
            have h1 := Int.emod_lt_of_pos (n * 1000 + r) (show 0 < bd by rw [bd_eq]; decide)
            generalize (n * 1000 + r) % bd = z at h0 h1
            rw [bd_eq] at h1; omega
        · rintro σ H4 h
          exact h
      refine ⟨_, rfl, rfl, _, rfl, ?_⟩
      refine ite3 (fun _ => ?_) fun _ => ?_
      · refine ⟨by decide, fun l hl => ?_⟩
        have S3 := Same.new (o := .lst ([(0 : Int), 1, 63, 64, 127, 128, 8191, 8192].map V.int)) hl
        have lp := (B2.ne_new hl).1
        have e3 := upd_same (H := H2) (a := l) (o := HO.lst ([(0 : Int), 1, 63, 64, 127, 128, 8191, 8192].map V.int))
        refine ⟨_, rfl, p, dl, 8, rfl, B2.same S3, by decide, fun r H4 r0 r1 B4 K4 => ?_⟩
        obtain ⟨j, rfl⟩ := Int.eq_ofNat_of_zero_le r0
        have hj : j < [(0 : Int), 1, 63, 64, 127, 128, 8191, 8192].length := by simp; omega
        have hz : [(0 : Int), 1, 63, 64, 127, 128, 8191, 8192][j]? = some [(0 : Int), 1, 63, 64, 127, 128, 8191, 8192][j] := List.getElem?_eq_getElem hj
        have hzb := (show ∀ z ∈ [(0 : Int), 1, 63, 64, 127, 128, 8191, 8192], z.natAbs < 2 ^ 14 by decide) _ (List.getElem_mem hj)
        generalize [(0 : Int), 1, 63, 64, 127, 128, 8191, 8192][j] = z at hz hzb
        refine ⟨l, _, _, .int z, rfl, rfl, SqL.of (K4 _ _ e3 lp), atI_nat (by rw [List.getElem?_map, hz]; rfl), z, none, rfl, Nat.lt_of_lt_of_le hzb (Nat.pow_le_pow_right (by decide) (by decide)), B4, (K12.trans (Same.keep S3)).trans K4⟩
      · exact ⟨n0, none, rfl, Nat.lt_of_lt_of_le (show n0.natAbs < 2 ^ 9 by omega) (Nat.pow_le_pow_right (by decide) (by decide)), B2, K12⟩
    · rintro _ H3 ⟨n, x4, rfl, hn, B3, K3⟩
      refine ⟨_, rfl, p, dl, 2, rfl, B3, by decide, fun r H4 r0 r1 B4 K4 => ⟨rfl, _, rfl, ?_⟩⟩
      refine ite3 (fun _ => ?_) fun _ => ?_
      · exact ⟨_, rfl, _, rfl, k _ _ (by rw [Int.natAbs_neg]; exact hn) B4 (K3.trans K4)⟩
      · exact ⟨_, rfl, k _ _ hn B4 (K3.trans K4)⟩
/-- a drawn value: within the bounds of the document -/
structure TxSm (js : List Nat) : Prop where
  len : js.length ≤ 12
  lt : ∀ j ∈ js, j < 95
def ValSm (m : Nat) : Val → Prop
  | .int i => i.natAbs < 2 ^ 256
  | .text js => TxSm js
  | .span a b => a.natAbs < 2 ^ 256 ∧ b.natAbs < 2 ^ 256
  | .built js => TxSm js
  | .host js => TxSm js
  | .ref n => n < m
  | _ => True
theorem ValSm.ok {m : Nat} (hm : m ≤ 10 ^ 20) : ∀ {x : Val}, ValSm m x → ValOk x
  | .none, _ => trivial
  | .bool _, _ => trivial
  | .int _, h => Nat.le_trans (Nat.le_of_lt h) (Nat.pow_le_pow_right (by decide) (by decide))
  | .text _, h => ⟨Nat.le_trans h.len (by decide), h.lt⟩
  | .span _ _, h => ⟨Nat.le_trans (Nat.le_of_lt h.1) (Nat.pow_le_pow_right (by decide) (by decide)), Nat.le_trans (Nat.le_of_lt h.2) (Nat.pow_le_pow_right (by decide) (by decide))⟩
  | .built _, h => ⟨Nat.le_trans h.len (by decide), h.lt⟩
  | .host _, h => ⟨Nat.le_trans h.len (by decide), h.lt⟩
  | .ref _, h => Nat.le_trans (Nat.le_of_lt h) (Nat.le_trans hm (by decide))
def spLVal (K : PySem.W.Frag) : Sp := fun vs H Q _ => ∃ (p dl : Addr) (m : Nat), vs = [.ref p, .int (m : Int)] ∧ BoxAt H p dl ∧ 0 < m ∧ m ≤ 10 ^ 20 ∧ ∀ (v : V) (x : Val) H', Dt K H' v (valD x) → ValSm m x → BoxAt H' p dl → Keep p H H' → Q v H'
theorem ok_value {f : Addr} {fd : FuncData} (F : Fun K "_law_value" "_law_value" s_law_value f fd) (T : Txt K mg) (U_law_draw : Use P w K mg base CX0 "_law_draw" 1 P_law_draw (spDraw K)) (U_law_number : Use P w K mg base CX0 "_law_number" 2 P_law_number (spNumb K)) (U_law_text : Use P w K mg base CX0 "_law_text" 2 P_law_text (spText K)) (U_law_name : Use P w K mg base CX0 "_law_name" 2 P_law_name (spName K)) :
    FnG P w K mg base CX0 3 f fd P_law_value (spLVal K) := by
  refine okG0 F sc_law_value (fun vs H Q E h => ?_) fun cdv A outer s H vs Q E hr hg h => ?_
  · obtain ⟨p, dl, m, rfl, _⟩ := h
    rfl
  · obtain ⟨p, dl, m, rfl, B, hm, hm2, k⟩ := h
    refine ⟨_, (pss_cons (ps_set (i := 2) sc_law_value.nd rfl (Or.inl rfl) (pe_use U_law_draw (hr.mono (by decide)) hg rfl (pa_cons (pv 0) (pa_cons pe_int pa_nil))))
  (pss_cons (ps_if (pt_cmpR op_eq (pv 2) pe_int (nomark _))
   (pss_one (ps_ret (pe_tup (pa_cons pe_str pa_nil))))
   pss_nil)
  (pss_cons (ps_if (pt_cmpR op_eq (pv 2) pe_int (nomark _))
   (pss_one (ps_ret (pe_tup (pa_cons pe_str (pa_cons (pe_cmpR op_eq (pe_use U_law_draw (hr.mono (by decide)) hg rfl (pa_cons (pv 0) (pa_cons pe_int pa_nil))) pe_int (nomark _)) pa_nil)))))
   pss_nil)
  (pss_cons (ps_if (pt_cmpR op_eq (pv 2) pe_int (nomark _))
   (pss_one (ps_ret (pe_tup (pa_cons pe_str (pa_cons (pe_use U_law_number (hr.mono (by decide)) hg rfl (pa_cons (pv 0) pa_nil)) pa_nil)))))
   pss_nil)
  (pss_cons (ps_if (pt_cmpR op_eq (pv 2) pe_int (nomark _))
   (pss_one (ps_ret (pe_tup (pa_cons pe_str (pa_cons (pe_use U_law_text (hr.mono (by decide)) hg rfl (pa_cons (pv 0) (pa_cons pe_int pa_nil))) pa_nil)))))
   pss_nil)
  (pss_cons (ps_if (pt_cmpR op_eq (pv 2) pe_int (nomark _))
   (pss_cons (ps_set (i := 3) sc_law_value.nd rfl (Or.inl rfl) (pe_use U_law_number (hr.mono (by decide)) hg rfl (pa_cons (pv 0) pa_nil)))
  (pss_one (ps_ret (pe_tup (pa_cons pe_str (pa_cons (pv 3) (pa_cons (pe_op op_add (pv 3) (pe_op op_mul (pe_use U_law_draw (hr.mono (by decide)) hg rfl (pa_cons (pv 0) (pa_cons pe_int pa_nil))) (pe_callTy call_int1 (by rfl) T.b_int (by decide +kernel) (pa_cons (pe_cmpR op_lt (pv 3) (pe_op op_pow pe_int pe_int) (nomark _)) pa_nil)))) pa_nil)))))))
   pss_nil)
  (pss_cons (ps_if (pt_cmpR op_eq (pv 2) pe_int (nomark _))
   (pss_one (ps_ret (pe_tup (pa_cons pe_str (pa_cons (pe_use U_law_name (hr.mono (by decide)) hg rfl (pa_cons (pv 0) pa_nil)) pa_nil)))))
   pss_nil)
  (pss_cons (ps_if (pt_cmpR op_eq (pv 2) pe_int (nomark _))
   (pss_one (ps_ret (pe_tup (pa_cons pe_str (pa_cons (pe_use U_law_name (hr.mono (by decide)) hg rfl (pa_cons (pv 0) pa_nil)) pa_nil)))))
   pss_nil)
  (pss_one (ps_ret (pe_tup (pa_cons pe_str (pa_cons (pe_op op_mod (pe_callTy call_int1 (by rfl) T.b_int (by decide +kernel) (pa_cons (pe_op op_add (pe_op op_mul (pe_use U_law_draw (hr.mono (by decide)) hg rfl (pa_cons (pv 0) (pa_cons pe_int pa_nil))) pe_int) (pe_use U_law_draw (hr.mono (by decide)) hg rfl (pa_cons (pv 0) (pa_cons pe_int pa_nil)))) pa_nil)) (pv 1)) pa_nil))))))))))))), ?_⟩
    refine ⟨_, rfl, p, dl, 10, rfl, B, by decide, fun kind H1 k0 k1 B1 K1 => ?_⟩
    -- a pair as it is made
    have mk1 : ∀ {H2 : Hp} {z : Str} {y : V} {d : PyData} {x : Val}, BoxAt H2 p dl → Keep p H H2 → Dt K H2 y d → valD x = .tuple [.str z, d] → ValSm m x → ∀ t, H2 t = none → Q (.ref t) (upd H2 t (.tup [.str z, y])) := fun B2 K2 dy e sm t ht =>
      k _ _ _ (by rw [e]; exact Dt.made ht (.cons (.str _) (.cons dy .nil))) sm (B2.same (Same.new ht)) (K2.trans (Same.keep (Same.new ht)))
    refine ⟨_, rfl, rfl, _, rfl, ?_⟩
    refine ite3 (fun _ => ?_) fun _ => ?_
    · exact ⟨sz_1, fun t ht => k _ .none _ (Dt.made ht (.cons (.str _) .nil)) trivial (B1.same (Same.new ht)) (K1.trans (Same.keep (Same.new ht)))⟩
    refine ⟨_, rfl, rfl, _, rfl, ?_⟩
    refine ite3 (fun _ => ?_) fun _ => ?_
    · exact ⟨_, rfl, p, dl, 2, rfl, B1, by decide, fun r H2 _ _ B2 K2 => ⟨rfl, sz_2, mk1 (x := .bool _) B2 (K1.trans K2) (.bl _) rfl trivial⟩⟩
    refine ⟨_, rfl, rfl, _, rfl, ?_⟩
    refine ite3 (fun _ => ?_) fun _ => ?_
    · exact ⟨_, rfl, p, dl, rfl, B1, fun n H2 hn B2 K2 => ⟨sz_2, mk1 (x := .int n) B2 (K1.trans K2) (.int _) rfl hn⟩⟩
    refine ⟨_, rfl, rfl, _, rfl, ?_⟩
    refine ite3 (fun _ => ?_) fun _ => ?_
    · exact ⟨_, rfl, p, dl, 12, rfl, B1, by decide, fun js H2 hl hj B2 K2 => ⟨sz_2, mk1 (x := .text js) B2 (K1.trans K2) (.str _) rfl ⟨hl, hj⟩⟩⟩
    refine ⟨_, rfl, rfl, _, rfl, ?_⟩
    refine ite3 (fun _ => ?_) fun _ => ?_
    · refine ⟨_, rfl, p, dl, rfl, B1, fun lo H2 hlo B2 K2 => ?_⟩
      refine ⟨_, rfl, _, rfl, _, rfl, p, dl, 3, rfl, B2, by decide, fun r H3 r0 r1 B3 K3 => ?_⟩
      refine ⟨_, rfl, _, _, rfl, rfl, ⟨by decide, by decide, by decide⟩, _, _, rfl, rfl, .inr ⟨_, rfl, _, _, rfl, rfl, .inl ⟨by omega, by omega⟩, _, _, rfl, rfl, sz_3, fun t ht => ?_⟩⟩
      refine k _ (.span lo _) _ (Dt.made ht (.cons (.str _) (.cons (.int _) (.cons (.int _) .nil)))) ⟨hlo, ?_⟩ (B3.same (Same.new ht)) (((K1.trans K2).trans K3).trans (Same.keep (Same.new ht)))
      have e10 : (10 : Int) ^ (20 : Int).toNat = 100000000000000000000 := by decide +kernel
      have e256 : (100000000000000000003 : Nat) < 2 ^ 256 := by decide +kernel
      show (lo + r * (if decide (lo < 10 ^ (20 : Int).toNat) = true then 1 else 0)).natAbs < 2 ^ 256
      rw [e10]
      by_cases c : lo < 100000000000000000000
      · rw [if_pos (decide_eq_true c), Int.mul_one]; omega
      · rw [if_neg (by rw [decide_eq_false c]; decide), Int.mul_zero, Int.add_zero]; exact hlo
    refine ⟨_, rfl, rfl, _, rfl, ?_⟩
    refine ite3 (fun _ => ?_) fun _ => ?_
    · exact ⟨_, rfl, p, dl, rfl, B1, fun js H2 hl hj B2 K2 => ⟨sz_2, mk1 (x := .built js) B2 (K1.trans K2) (.str _) rfl ⟨by omega, hj⟩⟩⟩
    refine ⟨_, rfl, rfl, _, rfl, ?_⟩
    refine ite3 (fun _ => ?_) fun _ => ?_
    · exact ⟨_, rfl, p, dl, rfl, B1, fun js H2 hl hj B2 K2 => ⟨sz_2, mk1 (x := .host js) B2 (K1.trans K2) (.str _) rfl ⟨by omega, hj⟩⟩⟩
    refine ⟨_, rfl, p, dl, 1000, rfl, B1, by decide, fun r H2 r0 r1 B2 K2 => ?_⟩
    refine ⟨_, _, rfl, rfl, .inl ⟨by omega, by omega⟩, _, rfl, p, dl, 1000, rfl, B2, by decide, fun r' H3 _ _ B3 K3 => ?_⟩
    have hm' : (0 : Int) < (m : Int) := by omega
    have h0 := Int.emod_nonneg (r * 1000 + r') (show (m : Int) ≠ 0 by omega)
    have h1 := Int.emod_lt_of_pos (r * 1000 + r') hm'
    obtain ⟨n, hn⟩ := Int.eq_ofNat_of_zero_le h0
    refine ⟨_, _, rfl, rfl, .inl ⟨_, rfl, _, rfl, _, _, rfl, rfl, hm', sz_2, mk1 (x := .ref n) B3 ((K1.trans K2).trans K3) (.int _) (by rw [hn]; rfl) (show n < m by omega)⟩⟩
end

section
--SPLIT
end
abbrev s_law_is_integer : Stmt := top 51
abbrev N_law_is_integer : List Str := ["actual"]
abbrev P_law_is_integer : List Str := ["actual"]
theorem sc_law_is_integer : FnScope N_law_is_integer P_law_is_integer (defScope s_law_is_integer) := ⟨rfl, rfl, rfl, by decide +kernel, rfl, by decide +kernel, by decide +kernel⟩
abbrev s_law_same : Stmt := top 54
abbrev N_law_same : List Str := ["actual", "due", "k"]
abbrev P_law_same : List Str := ["actual", "due"]
theorem sc_law_same : FnScope N_law_same P_law_same (defScope s_law_same) := ⟨rfl, rfl, rfl, by decide +kernel, rfl, by decide +kernel, by decide +kernel⟩
section
variable {P : Program} {w : World} {K : PySem.W.Frag} {mg : Str → Option Value} {base : Heap}
def spIsInt (K : PySem.W.Frag) : Sp := fun vs H Q _ => ∃ i : Int, vs = [.int i] ∧ Q (.bl true) H
theorem ok_isint {f : Addr} {fd : FuncData} (F : Fun K "_law_is_integer" "_law_is_integer" s_law_is_integer f fd) (T : Txt K mg) : FnG P w K mg base CX0 1 f fd P_law_is_integer (spIsInt K) := by
  refine okG0 F sc_law_is_integer (fun vs H Q E h => ?_) fun cdv A outer s H vs Q E hr hg h => ?_
  · obtain ⟨i, rfl, _⟩ := h
    rfl
  · obtain ⟨i, rfl, k⟩ := h
    refine ⟨_, (pss_one (ps_ret (pe_and (pe_callB call_isi (by rfl) T.b_isinstance (by decide +kernel) (pa_cons (pv 0) (pa_cons (pe_bltn (v := .ty "int") (by rfl) T.b_int (by decide +kernel) rfl) pa_nil))) (pe_one (pe_not (pe_callB call_isi (by rfl) T.b_isinstance (by decide +kernel) (pa_cons (pv 0) (pa_cons (pe_bltn (v := .ty "bool") (by rfl) T.b_bool (by decide +kernel) rfl) pa_nil)))))))), ?_⟩
    refine ⟨_, rfl, _, _, _, _, true, rfl, .ty _, .base (.int i), if_pos (beq_self_eq_true _), true, rfl, iteTb rfl ?_⟩
    exact ⟨_, rfl, _, _, _, _, false, rfl, .ty _, .base (.int i), kit_ty (by decide +kernel), false, rfl, k⟩
/-- data at most n deep, no list in it -/
inductive Wd : Nat → PyData → Prop
  | str {n : Nat} (z : Str) : Wd n (.str z)
  | int {n : Nat} (i : Int) : Wd n (.int i)
  | bool {n : Nat} (b : Bool) : Wd n (.bool b)
  | tup {n : Nat} {ds : List PyData} : ds.length ≤ 1000 → (∀ d ∈ ds, Wd n d) → Wd (n + 1) (.tuple ds)
theorem Wd.up {n m : Nat} {d : PyData} (h : Wd n d) (hm : n ≤ m) : Wd m d := by
  induction h generalizing m with
  | str z => exact .str z
  | int i => exact .int i
  | bool b => exact .bool b
  | tup h1 _ ih =>
    obtain ⟨k, rfl⟩ : ∃ k, m = k + 1 := ⟨m - 1, by omega⟩
    exact .tup h1 fun d hd => ih d hd (by omega)
def spSameD (K : PySem.W.Frag) (n : Nat) : Sp := fun vs H Q _ => ∃ (x y : V) (d : PyData), vs = [x, y] ∧ Dt K H x d ∧ Dt K H y d ∧ Wd n d ∧ Q (.bl true) H
theorem ok_sameD0 {f : Addr} {fd : FuncData} (F : Fun K "_law_same" "_law_same" s_law_same f fd) (T : Txt K mg) (U_law_is_integer : Use P w K mg base CX0 "_law_is_integer" 1 P_law_is_integer (spIsInt K)) : FnG P w K mg base CX0 2 f fd P_law_same (spSameD K 0) := by
  refine okG0 F sc_law_same (fun vs H Q E h => ?_) fun cdv A outer s H vs Q E hr hg h => ?_
  · obtain ⟨x, y, d, rfl, _⟩ := h
    rfl
  · obtain ⟨x, y, d, rfl, dx, dy, wd, k⟩ := h
    refine ⟨_, (pss_cons (ps_if (pt_val (pe_callB call_isi (by rfl) T.b_isinstance (by decide +kernel) (pa_cons (pv 1) (pa_cons (pe_bltn (v := .ty "tuple") (by rfl) T.b_tuple (by decide +kernel) rfl) pa_nil))))
   pss_never
   pss_nil)
  (pss_cons (ps_if (pt_val (pe_callB call_isi (by rfl) T.b_isinstance (by decide +kernel) (pa_cons (pv 1) (pa_cons (pe_bltn (v := .ty "bool") (by rfl) T.b_bool (by decide +kernel) rfl) pa_nil))))
   (pss_one (ps_ret (pe_and (pe_callB call_isi (by rfl) T.b_isinstance (by decide +kernel) (pa_cons (pv 0) (pa_cons (pe_bltn (v := .ty "bool") (by rfl) T.b_bool (by decide +kernel) rfl) pa_nil))) (pe_one (pe_cmpR op_eq (pv 0) (pv 1) (nomark _))))))
   pss_nil)
  (pss_cons (ps_if (pt_val (pe_callB call_isi (by rfl) T.b_isinstance (by decide +kernel) (pa_cons (pv 1) (pa_cons (pe_bltn (v := .ty "int") (by rfl) T.b_int (by decide +kernel) rfl) pa_nil))))
   (pss_one (ps_ret (pe_and (pe_use U_law_is_integer (hr.mono (by decide)) hg rfl (pa_cons (pv 0) pa_nil)) (pe_one (pe_cmpR op_eq (pv 0) (pv 1) (nomark _))))))
   pss_nil)
  (pss_one (ps_ret (pe_and (pe_callB call_isi (by rfl) T.b_isinstance (by decide +kernel) (pa_cons (pv 0) (pa_cons (pe_bltn (v := .ty "str") (by rfl) T.b_str (by decide +kernel) rfl) pa_nil))) (pe_one (pe_cmpR op_eq (pv 0) (pv 1) (nomark _))))))))), ?_⟩
    cases wd with
    | str b =>
      cases dx.str_inv
      cases dy.str_inv
      refine ⟨_, rfl, _, _, _, _, false, rfl, .ty _, .base (.str b), kit_ty (by decide +kernel), _, rfl, iteFb rfl ?_⟩
      refine ⟨_, rfl, _, _, _, _, false, rfl, .ty _, .base (.str b), kit_ty (by decide +kernel), _, rfl, iteFb rfl ?_⟩
      refine ⟨_, rfl, _, _, _, _, false, rfl, .ty _, .base (.str b), kit_ty (by decide +kernel), _, rfl, iteFb rfl ?_⟩
      refine ⟨_, rfl, _, _, _, _, true, rfl, .ty _, .base (.str b), if_pos (beq_self_eq_true _), true, rfl, iteTb rfl ?_⟩
      exact ⟨_, rfl, _, rfl, rfl, by rw [decide_eq_true rfl]; exact k⟩
    | int b =>
      cases dx.int_inv
      cases dy.int_inv
      refine ⟨_, rfl, _, _, _, _, false, rfl, .ty _, .base (.int b), kit_ty (by decide +kernel), _, rfl, iteFb rfl ?_⟩
      refine ⟨_, rfl, _, _, _, _, false, rfl, .ty _, .base (.int b), kit_ty (by decide +kernel), _, rfl, iteFb rfl ?_⟩
      refine ⟨_, rfl, _, _, _, _, true, rfl, .ty _, .base (.int b), if_pos (beq_self_eq_true _), _, rfl, iteTb rfl ?_⟩
      exact ⟨_, rfl, b, rfl, true, rfl, iteTb rfl ⟨_, rfl, _, rfl, rfl, by rw [decide_eq_true rfl]; exact k⟩⟩
    | bool b =>
      cases dx.bool_inv
      cases dy.bool_inv
      refine ⟨_, rfl, _, _, _, _, false, rfl, .ty _, .base (.bl b), kit_ty (by decide +kernel), _, rfl, iteFb rfl ?_⟩
      refine ⟨_, rfl, _, _, _, _, true, rfl, .ty _, .base (.bl b), if_pos (beq_self_eq_true _), _, rfl, iteTb rfl ?_⟩
      refine ⟨_, rfl, _, _, _, _, true, rfl, .ty _, .base (.bl b), if_pos (beq_self_eq_true _), true, rfl, iteTb rfl ?_⟩
      exact ⟨_, rfl, _, rfl, rfl, by rw [decide_eq_true rfl]; exact k⟩
theorem ok_sameDS {n kk : Nat} (hk : 1 ≤ kk) {f : Addr} {fd : FuncData} (F : Fun K "_law_same" "_law_same" s_law_same f fd) (T : Txt K mg) (U_law_is_integer : Use P w K mg base CX0 "_law_is_integer" 1 P_law_is_integer (spIsInt K)) (U_law_same : Use P w K mg base CX0 "_law_same" kk P_law_same (spSameD K n)) :
    FnG P w K mg base CX0 (kk + 1) f fd P_law_same (spSameD K (n + 1)) := by
  refine okG0 F sc_law_same (fun vs H Q E h => ?_) fun cdv A outer s H vs Q E hr hg h => ?_
  · obtain ⟨x, y, d, rfl, _⟩ := h
    rfl
  · obtain ⟨x, y, d, rfl, dx, dy, wd, k⟩ := h
    cases wd with
    | str b =>
      refine ⟨_, (pss_cons (ps_if (pt_val (pe_callB call_isi (by rfl) T.b_isinstance (by decide +kernel) (pa_cons (pv 1) (pa_cons (pe_bltn (v := .ty "tuple") (by rfl) T.b_tuple (by decide +kernel) rfl) pa_nil))))
   pss_never
   pss_nil)
  (pss_cons (ps_if (pt_val (pe_callB call_isi (by rfl) T.b_isinstance (by decide +kernel) (pa_cons (pv 1) (pa_cons (pe_bltn (v := .ty "bool") (by rfl) T.b_bool (by decide +kernel) rfl) pa_nil))))
   (pss_one (ps_ret (pe_and (pe_callB call_isi (by rfl) T.b_isinstance (by decide +kernel) (pa_cons (pv 0) (pa_cons (pe_bltn (v := .ty "bool") (by rfl) T.b_bool (by decide +kernel) rfl) pa_nil))) (pe_one (pe_cmpR op_eq (pv 0) (pv 1) (nomark _))))))
   pss_nil)
  (pss_cons (ps_if (pt_val (pe_callB call_isi (by rfl) T.b_isinstance (by decide +kernel) (pa_cons (pv 1) (pa_cons (pe_bltn (v := .ty "int") (by rfl) T.b_int (by decide +kernel) rfl) pa_nil))))
   (pss_one (ps_ret (pe_and (pe_use U_law_is_integer (hr.mono (by omega)) hg rfl (pa_cons (pv 0) pa_nil)) (pe_one (pe_cmpR op_eq (pv 0) (pv 1) (nomark _))))))
   pss_nil)
  (pss_one (ps_ret (pe_and (pe_callB call_isi (by rfl) T.b_isinstance (by decide +kernel) (pa_cons (pv 0) (pa_cons (pe_bltn (v := .ty "str") (by rfl) T.b_str (by decide +kernel) rfl) pa_nil))) (pe_one (pe_cmpR op_eq (pv 0) (pv 1) (nomark _))))))))), ?_⟩
      cases dx.str_inv
      cases dy.str_inv
      refine ⟨_, rfl, _, _, _, _, false, rfl, .ty _, .base (.str b), kit_ty (by decide +kernel), _, rfl, iteFb rfl ?_⟩
      refine ⟨_, rfl, _, _, _, _, false, rfl, .ty _, .base (.str b), kit_ty (by decide +kernel), _, rfl, iteFb rfl ?_⟩
      refine ⟨_, rfl, _, _, _, _, false, rfl, .ty _, .base (.str b), kit_ty (by decide +kernel), _, rfl, iteFb rfl ?_⟩
      refine ⟨_, rfl, _, _, _, _, true, rfl, .ty _, .base (.str b), if_pos (beq_self_eq_true _), true, rfl, iteTb rfl ?_⟩
      exact ⟨_, rfl, _, rfl, rfl, by rw [decide_eq_true rfl]; exact k⟩
    | int b =>
      refine ⟨_, (pss_cons (ps_if (pt_val (pe_callB call_isi (by rfl) T.b_isinstance (by decide +kernel) (pa_cons (pv 1) (pa_cons (pe_bltn (v := .ty "tuple") (by rfl) T.b_tuple (by decide +kernel) rfl) pa_nil))))
   pss_never
   pss_nil)
  (pss_cons (ps_if (pt_val (pe_callB call_isi (by rfl) T.b_isinstance (by decide +kernel) (pa_cons (pv 1) (pa_cons (pe_bltn (v := .ty "bool") (by rfl) T.b_bool (by decide +kernel) rfl) pa_nil))))
   (pss_one (ps_ret (pe_and (pe_callB call_isi (by rfl) T.b_isinstance (by decide +kernel) (pa_cons (pv 0) (pa_cons (pe_bltn (v := .ty "bool") (by rfl) T.b_bool (by decide +kernel) rfl) pa_nil))) (pe_one (pe_cmpR op_eq (pv 0) (pv 1) (nomark _))))))
   pss_nil)
  (pss_cons (ps_if (pt_val (pe_callB call_isi (by rfl) T.b_isinstance (by decide +kernel) (pa_cons (pv 1) (pa_cons (pe_bltn (v := .ty "int") (by rfl) T.b_int (by decide +kernel) rfl) pa_nil))))
   (pss_one (ps_ret (pe_and (pe_use U_law_is_integer (hr.mono (by omega)) hg rfl (pa_cons (pv 0) pa_nil)) (pe_one (pe_cmpR op_eq (pv 0) (pv 1) (nomark _))))))
   pss_nil)
  (pss_one (ps_ret (pe_and (pe_callB call_isi (by rfl) T.b_isinstance (by decide +kernel) (pa_cons (pv 0) (pa_cons (pe_bltn (v := .ty "str") (by rfl) T.b_str (by decide +kernel) rfl) pa_nil))) (pe_one (pe_cmpR op_eq (pv 0) (pv 1) (nomark _))))))))), ?_⟩
      cases dx.int_inv
      cases dy.int_inv
      refine ⟨_, rfl, _, _, _, _, false, rfl, .ty _, .base (.int b), kit_ty (by decide +kernel), _, rfl, iteFb rfl ?_⟩
      refine ⟨_, rfl, _, _, _, _, false, rfl, .ty _, .base (.int b), kit_ty (by decide +kernel), _, rfl, iteFb rfl ?_⟩
      refine ⟨_, rfl, _, _, _, _, true, rfl, .ty _, .base (.int b), if_pos (beq_self_eq_true _), _, rfl, iteTb rfl ?_⟩
      exact ⟨_, rfl, b, rfl, true, rfl, iteTb rfl ⟨_, rfl, _, rfl, rfl, by rw [decide_eq_true rfl]; exact k⟩⟩
    | bool b =>
      refine ⟨_, (pss_cons (ps_if (pt_val (pe_callB call_isi (by rfl) T.b_isinstance (by decide +kernel) (pa_cons (pv 1) (pa_cons (pe_bltn (v := .ty "tuple") (by rfl) T.b_tuple (by decide +kernel) rfl) pa_nil))))
   pss_never
   pss_nil)
  (pss_cons (ps_if (pt_val (pe_callB call_isi (by rfl) T.b_isinstance (by decide +kernel) (pa_cons (pv 1) (pa_cons (pe_bltn (v := .ty "bool") (by rfl) T.b_bool (by decide +kernel) rfl) pa_nil))))
   (pss_one (ps_ret (pe_and (pe_callB call_isi (by rfl) T.b_isinstance (by decide +kernel) (pa_cons (pv 0) (pa_cons (pe_bltn (v := .ty "bool") (by rfl) T.b_bool (by decide +kernel) rfl) pa_nil))) (pe_one (pe_cmpR op_eq (pv 0) (pv 1) (nomark _))))))
   pss_nil)
  (pss_cons (ps_if (pt_val (pe_callB call_isi (by rfl) T.b_isinstance (by decide +kernel) (pa_cons (pv 1) (pa_cons (pe_bltn (v := .ty "int") (by rfl) T.b_int (by decide +kernel) rfl) pa_nil))))
   (pss_one (ps_ret (pe_and (pe_use U_law_is_integer (hr.mono (by omega)) hg rfl (pa_cons (pv 0) pa_nil)) (pe_one (pe_cmpR op_eq (pv 0) (pv 1) (nomark _))))))
   pss_nil)
  (pss_one (ps_ret (pe_and (pe_callB call_isi (by rfl) T.b_isinstance (by decide +kernel) (pa_cons (pv 0) (pa_cons (pe_bltn (v := .ty "str") (by rfl) T.b_str (by decide +kernel) rfl) pa_nil))) (pe_one (pe_cmpR op_eq (pv 0) (pv 1) (nomark _))))))))), ?_⟩
      cases dx.bool_inv
      cases dy.bool_inv
      refine ⟨_, rfl, _, _, _, _, false, rfl, .ty _, .base (.bl b), kit_ty (by decide +kernel), _, rfl, iteFb rfl ?_⟩
      refine ⟨_, rfl, _, _, _, _, true, rfl, .ty _, .base (.bl b), if_pos (beq_self_eq_true _), _, rfl, iteTb rfl ?_⟩
      refine ⟨_, rfl, _, _, _, _, true, rfl, .ty _, .base (.bl b), if_pos (beq_self_eq_true _), true, rfl, iteTb rfl ?_⟩
      exact ⟨_, rfl, _, rfl, rfl, by rw [decide_eq_true rfl]; exact k⟩
    | @tup _ ds hl hd =>
      refine ⟨_, (pss_cons (ps_if (pt_val (pe_callB call_isi (by rfl) T.b_isinstance (by decide +kernel) (pa_cons (pv 1) (pa_cons (pe_bltn (v := .ty "tuple") (by rfl) T.b_tuple (by decide +kernel) rfl) pa_nil))))
   (pss_cons (ps_if (PW.pt (pw_or (pt_not (pt_val (pe_callB call_isi (by rfl) T.b_isinstance (by decide +kernel) (pa_cons (pv 0) (pa_cons (pe_bltn (v := .ty "tuple") (by rfl) T.b_tuple (by decide +kernel) rfl) pa_nil))))) (pw_or1 (pt_cmpR op_ne (pe_callB call_len (by rfl) T.b_len PySem.boot_len (pa_cons (pv 0) pa_nil)) (pe_callB call_len (by rfl) T.b_len PySem.boot_len (pa_cons (pv 1) pa_nil)) (nomark _)))))
   (pss_one (ps_ret pe_bl))
   pss_nil)
  (pss_cons (ps_for PassesOwn.never rfl (pi_range1 (by rfl) T.b_range (pa_cons (pe_callB call_len (by rfl) T.b_len PySem.boot_len (pa_cons (pv 1) pa_nil)) pa_nil)) (pg_name (i := 2) sc_law_same.nd rfl (Or.inl rfl))
   (pss_one (ps_if (pt_not (pt_val (pe_use U_law_same (hr.mono (by omega)) hg rfl (pa_cons (pe_ix ix_tup (pv 0) (pv 2) (fun _ _ => rfl)) (pa_cons (pe_ix ix_tup (pv 1) (pv 2) (fun _ _ => rfl)) pa_nil)))))
   (pss_one (ps_ret pe_bl))
   pss_nil)))
  (pss_one (ps_ret pe_bl))))
   pss_nil)
  pss_never), ?_⟩
      obtain ⟨p, xs, rfl, hp, ax⟩ := dx.tuple_inv
      obtain ⟨q, ys, rfl, hq, ay⟩ := dy.tuple_inv
      have lx := ax.length
      have ly := ay.length
      refine ⟨_, rfl, _, _, _, _, true, rfl, .ty _, SqT.tyX hq, if_pos (beq_self_eq_true _), _, rfl, iteTb rfl ?_⟩
      refine ⟨_, rfl, _, _, _, _, true, rfl, .ty _, SqT.tyX hp, if_pos (beq_self_eq_true _), _, rfl, iteFb rfl ?_⟩
      refine ⟨_, rfl, _, _, rfl, .inr ⟨_, hp, rfl⟩, _, rfl, _, _, rfl, .inr ⟨_, hq, rfl⟩, rfl, _, rfl, ?_⟩
      refine iteFb (by rw [lx, ly]; rw [decide_eq_true rfl]; rfl) ?_
      refine ⟨_, rfl, _, _, rfl, .inr ⟨_, hq, rfl⟩, _, rfl, by omega, by omega, ?_⟩
      rw [Int.toNat_natCast]
      refine for_range (lo := 0) (n := ys.length) (fun i σ H1 => ∃ x2, σ = [some (.ref p), some (.ref q), x2] ∧ H1 = H) ⟨none, rfl, rfl⟩ ?_ ?_
      · rintro i σ H1 hi ⟨x2, rfl, rfl⟩
        have ex : ds[i]? = some (ds[i]'(by omega)) := List.getElem?_eq_getElem (by omega)
        obtain ⟨x, hx, dx1⟩ := ax.get ex
        obtain ⟨y, hy, dy1⟩ := ay.get ex
        exact ⟨_, rfl, _, rfl, p, _, _, x, rfl, rfl, hp, at_of' (j := i) (by omega) hx, _, rfl, _, rfl, q, _, _, y, rfl, rfl, hq, at_of' (j := i) (by omega) hy, x, y, _, rfl, dx1, dy1, hd _ (List.getElem_mem _), _, rfl, iteFb rfl ⟨_, rfl, rfl⟩⟩
      · rintro σ H1 ⟨x2, rfl, rfl⟩
        exact k
def spSameR (K : PySem.W.Frag) : Nat → Sp
  | 0 => fun _ _ _ _ => False
  | n + 1 => spSameD K n
theorem ok_sameR : ∀ {n : Nat} {f : Addr} {fd : FuncData} (F : Fun K "_law_same" "_law_same" s_law_same f fd) (T : Txt K mg) (U_law_same : Use P w K mg base CX0 "_law_same" (1 + n) P_law_same (spSameR K n)) (U_law_is_integer : Use P w K mg base CX0 "_law_is_integer" 1 P_law_is_integer (spIsInt K)),
    FnG P w K mg base CX0 (1 + n + 1) f fd P_law_same (spSameR K (n + 1))
  | 0, _, _, F, T, _, U => ok_sameD0 F T U
  | n + 1, _, _, F, T, V, U => ok_sameDS (n := n) (kk := 1 + (n + 1)) (by omega) F T U V
--SPLIT
end

abbrev s_law_tree : Stmt := top 63
abbrev N_law_tree : List Str := ["box", "depth", "kind", "number", "size", "k"]
abbrev P_law_tree : List Str := ["box", "depth"]
theorem sc_law_tree : FnScope N_law_tree P_law_tree (defScope s_law_tree) := ⟨rfl, rfl, rfl, by decide +kernel, rfl, by decide +kernel, by decide +kernel⟩
section
variable {P : Program} {w : World} {K : PySem.W.Frag} {mg : Str → Option Value} {base : Heap}
/-! a list that a comprehension fills by draws -/
def Acc (K : PySem.W.Frag) (H1 : Hp) (D p dl : Addr) (Pd : PyData → Prop) (i : Nat) (H : Hp) : Prop := ∃ acc ds, H D = some (.lst acc) ∧ DtAll K H acc ds ∧ ds.length = i ∧ (∀ d ∈ ds, Pd d) ∧ BoxAt H p dl ∧ Keep p H1 H
theorem Acc.start {H1 : Hp} {D p dl : Addr} {Pd : PyData → Prop} (hD : H1 D = none) (B : BoxAt H1 p dl) : Acc K H1 D p dl Pd 0 (upd H1 D (.lst [])) :=
  ⟨[], [], upd_same, .nil, rfl, by simp, B.same (Same.new hD), Same.keep (Same.new hD)⟩
theorem Acc.put {H1 H5 H7 : Hp} {D p dl : Addr} {Pd : PyData → Prop} {i : Nat} {v : V} {d : PyData} (A : Acc K H1 D p dl Pd i H5) (hi : i < 10000) (hD : H1 D = none) (B1 : BoxAt H1 p dl) (B : BoxAt H7 p dl) (k : Keep p H5 H7) (dv : Dt K H7 v d) (hd : Pd d) :
    ∃ acc, H7 D = some (.lst acc) ∧ acc.length < sizeLine ∧ Acc K H1 D p dl Pd (i + 1) (upd H7 D (.lst (acc ++ [v]))) := by
  obtain ⟨acc, ds, e, a, hl, hp, B5, k5⟩ := A
  obtain ⟨hDp, hDd⟩ := B1.ne_new hD
  have e7 := k _ _ e hDp
  have kT : KeepT K H7 (upd H7 D (.lst (acc ++ [v]))) := KeepT.upd e7
  have hal := a.length
  refine ⟨acc, e7, Nat.lt_of_le_of_lt (show acc.length ≤ 10000 by omega) (by decide), acc ++ [v], ds ++ [d], upd_same, DtAll.app ((a.keepT (k.keepT B5.at_)).keepT kT) (.cons (dv.keepT kT) .nil), by simp [hl], fun x hx => ?_, B.upd hDp hDd, fun b o e hb => ?_⟩
  · rcases List.mem_append.mp hx with hx | hx
    · exact hp x hx
    · rw [List.mem_singleton.mp hx]; exact hd
  · rw [upd_ne (ne_of_none e hD)]; exact k _ _ (k5 _ _ e hb) hb
/-! trees -/
inductive TreeD : Nat → PyData → Prop
  | str {n : Nat} (js : List Nat) : js.length ≤ 12 → (∀ j ∈ js, j < 95) → TreeD n (.str (tx js))
  | int {n : Nat} (i : Int) : i.natAbs < 2 ^ 256 → TreeD n (.int i)
  | bool {n : Nat} (b : Bool) : TreeD n (.bool b)
  | tup {n : Nat} (ds : List PyData) : ds.length ≤ 3 → (∀ d ∈ ds, TreeD n d) → TreeD (n + 1) (.tuple ds)
theorem TreeD.up {n : Nat} {d : PyData} (h : TreeD n d) : TreeD (n + 1) d := by
  induction h with
  | str js h1 h2 => exact .str js h1 h2
  | int i h => exact .int i h
  | bool b => exact .bool b
  | tup ds h1 _ ih => exact .tup ds h1 ih
def spTree (K : PySem.W.Frag) (n : Nat) : Sp := fun vs H Q _ => ∃ (p dl : Addr) (d : Nat), vs = [.ref p, .int (d : Int)] ∧ d = n ∧ BoxAt H p dl ∧ ∀ v x H', Dt K H' v x → TreeD n x → BoxAt H' p dl → Keep p H H' → Q v H'
theorem ok_tree0 {f : Addr} {fd : FuncData} (F : Fun K "_law_tree" "_law_tree" s_law_tree f fd) (T : Txt K mg) (U_law_draw : Use P w K mg base CX0 "_law_draw" 1 P_law_draw (spDraw K)) (U_law_text : Use P w K mg base CX0 "_law_text" 2 P_law_text (spText K)) (U_law_number : Use P w K mg base CX0 "_law_number" 2 P_law_number (spNumb K)) (U_law_name : Use P w K mg base CX0 "_law_name" 2 P_law_name (spName K)) :
    FnG P w K mg base CX0 3 f fd P_law_tree (spTree K 0) := by
  refine okG0 F sc_law_tree (fun vs H Q E h => ?_) fun cdv A outer s H vs Q E hr hg h => ?_
  · obtain ⟨p, dl, d, rfl, _⟩ := h
    rfl
  · obtain ⟨p, dl, d, rfl, rfl, B, k⟩ := h
    refine ⟨_, (pss_cons (ps_set (i := 2) sc_law_tree.nd rfl (Or.inl rfl) (pe_use U_law_draw (hr.mono (by decide)) hg rfl (pa_cons (pv 0) (pa_cons pe_int pa_nil))))
  (pss_cons (ps_if (pt_cmpR op_eq (pv 2) pe_int (nomark _))
   (pss_one (ps_ret (pe_use U_law_text (hr.mono (by decide)) hg rfl (pa_cons (pv 0) (pa_cons pe_int pa_nil)))))
   pss_nil)
  (pss_cons (ps_if (pt_cmpR op_eq (pv 2) pe_int (nomark _))
   (pss_cons (ps_set (i := 3) sc_law_tree.nd rfl (Or.inl rfl) (pe_use U_law_number (hr.mono (by decide)) hg rfl (pa_cons (pv 0) pa_nil)))
  (pss_one (ps_ret (pe_op op_add (pv 3) (pe_op op_mul pe_int (pe_callTy call_int1 (by rfl) T.b_int (by decide +kernel) (pa_cons (pe_or (pe_cmpR op_eq (pv 3) pe_int (nomark _)) (pe_one (pe_cmpR op_eq (pv 3) pe_int (nomark _)))) pa_nil)))))))
   pss_nil)
  (pss_cons (ps_if (pt_cmpR op_eq (pv 2) pe_int (nomark _))
   (pss_one (ps_ret (pe_cmpR op_eq (pe_use U_law_draw (hr.mono (by decide)) hg rfl (pa_cons (pv 0) (pa_cons pe_int pa_nil))) pe_int (nomark _))))
   pss_nil)
  (pss_cons (ps_if (PW.pt (pw_or (pt_cmpR op_eq (pv 2) pe_int (nomark _)) (pw_or1 (pt_cmpR op_eq (pv 1) pe_int (nomark _)))))
   (pss_one (ps_ret (pe_use U_law_name (hr.mono (by decide)) hg rfl (pa_cons (pv 0) pa_nil))))
   pss_nil)
  pss_never))))), ?_⟩
    refine ⟨_, rfl, p, dl, 8, rfl, B, by decide, fun kind H1 k0 k1 B1 K1 => ?_⟩
    refine ⟨_, rfl, rfl, _, rfl, ?_⟩
    refine ite3 (fun _ => ?_) fun _ => ?_
    · exact ⟨_, rfl, p, dl, 6, rfl, B1, by decide, fun js H2 hl hj B2 K2 => k _ _ _ (.str _) (.str js (by omega) hj) B2 (K1.trans K2)⟩
    refine ⟨_, rfl, rfl, _, rfl, ?_⟩
    refine ite3 (fun _ => ?_) fun _ => ?_
    · refine ⟨_, rfl, p, dl, rfl, B1, fun i H2 hi B2 K2 => ?_⟩
      have fin : ∀ b : Int, 0 ≤ b → b ≤ 1 → (b = 1 → i = 0 ∨ i = 1) → Q (.int (i + 2 * b)) H2 := fun b b0 b1 b2 => k _ _ _ (.int _) (.int _ (by
        have h2 : 10 < (2 : Nat) ^ 256 := by decide +kernel
        have hi := hi
        rcases (show b = 0 ∨ b = 1 by omega) with rfl | rfl
        · rw [Int.mul_zero, Int.add_zero]; exact hi
        · have := b2 rfl
          omega)) B2 (K1.trans K2)
      refine ⟨_, rfl, _, rfl, rfl, ?_⟩
      refine ⟨_, rfl, ?_⟩
      refine ite3 (fun ci => ?_) fun _ => ?_
      · refine .inr ⟨_, rfl, ?_⟩
        exact ⟨_, _, rfl, rfl, .inl ⟨by decide, by decide⟩, _, _, rfl, rfl, fin 1 (by decide) (by decide) fun _ => .inl (V.int.inj (of_decide_eq_true ci))⟩
      · refine ⟨_, rfl, rfl, .inr ⟨_, rfl, ?_⟩⟩
        obtain ⟨e, he, e0, e1, e2⟩ : ∃ e : Int, (if decide (V.int i = V.int 1) = true then (1 : Int) else 0) = e ∧ 0 ≤ e ∧ e ≤ 1 ∧ (e = 1 → i = 0 ∨ i = 1) := by
          split
          · rename_i hc
            exact ⟨_, rfl, by decide, by decide, fun _ => .inr (V.int.inj (of_decide_eq_true hc))⟩
          · exact ⟨_, rfl, by decide, by decide, fun h => by omega⟩
        rw [he]
        exact ⟨_, _, rfl, rfl, .inl ⟨by decide, by omega⟩, _, _, rfl, rfl, fin e e0 e1 e2⟩
    refine ⟨_, rfl, rfl, _, rfl, ?_⟩
    refine ite3 (fun _ => ?_) fun _ => ?_
    · exact ⟨_, rfl, p, dl, 2, rfl, B1, by decide, fun r H2 _ _ B2 K2 => ⟨rfl, k _ _ _ (.bl _) (.bool _) B2 (K1.trans K2)⟩⟩
    refine ⟨_, rfl, rfl, _, rfl, ?_⟩
    refine ite3 (fun _ => ?_) fun _ => ?_
    · exact ⟨_, rfl, p, dl, rfl, B1, fun js H2 hl hj B2 K2 => k _ _ _ (.str _) (.str js (by omega) hj) B2 (K1.trans K2)⟩
    refine ⟨_, rfl, rfl, _, rfl, iteTb (by decide) ?_⟩
    exact ⟨_, rfl, p, dl, rfl, B1, fun js H2 hl hj B2 K2 => k _ _ _ (.str _) (.str js (by omega) hj) B2 (K1.trans K2)⟩
theorem ok_treeN {n kk : Nat} (hk : 2 ≤ kk) {f : Addr} {fd : FuncData} (F : Fun K "_law_tree" "_law_tree" s_law_tree f fd) (T : Txt K mg) (U_law_draw : Use P w K mg base CX0 "_law_draw" 1 P_law_draw (spDraw K)) (U_law_text : Use P w K mg base CX0 "_law_text" 2 P_law_text (spText K)) (U_law_number : Use P w K mg base CX0 "_law_number" 2 P_law_number (spNumb K)) (U_law_name : Use P w K mg base CX0 "_law_name" 2 P_law_name (spName K)) (U_law_tree : Use P w K mg base CX0 "_law_tree" kk P_law_tree (spTree K n)) :
    FnG P w K mg base CX0 (kk + 1) f fd P_law_tree (spTree K (n + 1)) := by
  refine okG0 F sc_law_tree (fun vs H Q E h => ?_) fun cdv A outer s H vs Q E hr hg h => ?_
  · obtain ⟨p, dl, d, rfl, _⟩ := h
    rfl
  · obtain ⟨p, dl, d, rfl, rfl, B, k⟩ := h
    refine ⟨_, (pss_cons (ps_set (i := 2) sc_law_tree.nd rfl (Or.inl rfl) (pe_use U_law_draw (hr.mono (by omega)) hg rfl (pa_cons (pv 0) (pa_cons pe_int pa_nil))))
  (pss_cons (ps_if (pt_cmpR op_eq (pv 2) pe_int (nomark _))
   (pss_one (ps_ret (pe_use U_law_text (hr.mono (by omega)) hg rfl (pa_cons (pv 0) (pa_cons pe_int pa_nil)))))
   pss_nil)
  (pss_cons (ps_if (pt_cmpR op_eq (pv 2) pe_int (nomark _))
   (pss_cons (ps_set (i := 3) sc_law_tree.nd rfl (Or.inl rfl) (pe_use U_law_number (hr.mono (by omega)) hg rfl (pa_cons (pv 0) pa_nil)))
  (pss_one (ps_ret (pe_op op_add (pv 3) (pe_op op_mul pe_int (pe_callTy call_int1 (by rfl) T.b_int (by decide +kernel) (pa_cons (pe_or (pe_cmpR op_eq (pv 3) pe_int (nomark _)) (pe_one (pe_cmpR op_eq (pv 3) pe_int (nomark _)))) pa_nil)))))))
   pss_nil)
  (pss_cons (ps_if (pt_cmpR op_eq (pv 2) pe_int (nomark _))
   (pss_one (ps_ret (pe_cmpR op_eq (pe_use U_law_draw (hr.mono (by omega)) hg rfl (pa_cons (pv 0) (pa_cons pe_int pa_nil))) pe_int (nomark _))))
   pss_nil)
  (pss_cons (ps_if (PW.pt (pw_or (pt_cmpR op_eq (pv 2) pe_int (nomark _)) (pw_or1 (pt_cmpR op_eq (pv 1) pe_int (nomark _)))))
   (pss_one (ps_ret (pe_use U_law_name (hr.mono (by omega)) hg rfl (pa_cons (pv 0) pa_nil))))
   pss_nil)
  (pss_cons (ps_set (i := 4) sc_law_tree.nd rfl (Or.inl rfl) (pe_use U_law_draw (hr.mono (by omega)) hg rfl (pa_cons (pv 0) (pa_cons pe_int pa_nil))))
  (pss_one (ps_ret (pe_callTy call_tuple_of (by rfl) T.b_tuple (by decide +kernel) (pa_cons (pe_lc (own := [("k", 5)]) (g := (gName 5)) rfl sc_law_tree.nd (pi_range1 (by rfl) T.b_range (pa_cons (pv 4) pa_nil)) (blkOk_by (N := N_law_tree) (sc := defScope s_law_tree) (by decide +kernel)) (fun _ _ _ _ _ => (pg_name (i := 5) sc_law_tree.nd rfl (Or.inl rfl))) (fun _ _ _ _ _ => pts_nil) (fun _ _ _ _ _ => (pe_use U_law_tree (hr.mono (by omega)) hg rfl (pa_cons (pv 0) (pa_cons (pe_op op_sub (pv 1) pe_int) pa_nil))))) pa_nil)))))))))), ?_⟩
    refine ⟨_, rfl, p, dl, 8, rfl, B, by decide, fun kind H1 k0 k1 B1 K1 => ?_⟩
    refine ⟨_, rfl, rfl, _, rfl, ?_⟩
    refine ite3 (fun _ => ?_) fun _ => ?_
    · exact ⟨_, rfl, p, dl, 6, rfl, B1, by decide, fun js H2 hl hj B2 K2 => k _ _ _ (.str _) (.str js (by omega) hj) B2 (K1.trans K2)⟩
    refine ⟨_, rfl, rfl, _, rfl, ?_⟩
    refine ite3 (fun _ => ?_) fun _ => ?_
    · refine ⟨_, rfl, p, dl, rfl, B1, fun i H2 hi B2 K2 => ?_⟩
      have fin : ∀ b : Int, 0 ≤ b → b ≤ 1 → (b = 1 → i = 0 ∨ i = 1) → Q (.int (i + 2 * b)) H2 := fun b b0 b1 b2 => k _ _ _ (.int _) (.int _ (by
        have h2 : 10 < (2 : Nat) ^ 256 := by decide +kernel
        have hi := hi
        rcases (show b = 0 ∨ b = 1 by omega) with rfl | rfl
        · rw [Int.mul_zero, Int.add_zero]; exact hi
        · have := b2 rfl
          omega)) B2 (K1.trans K2)
      refine ⟨_, rfl, _, rfl, rfl, ?_⟩
      refine ⟨_, rfl, ?_⟩
      refine ite3 (fun ci => ?_) fun _ => ?_
      · refine .inr ⟨_, rfl, ?_⟩
        exact ⟨_, _, rfl, rfl, .inl ⟨by decide, by decide⟩, _, _, rfl, rfl, fin 1 (by decide) (by decide) fun _ => .inl (V.int.inj (of_decide_eq_true ci))⟩
      · refine ⟨_, rfl, rfl, .inr ⟨_, rfl, ?_⟩⟩
        obtain ⟨e, he, e0, e1, e2⟩ : ∃ e : Int, (if decide (V.int i = V.int 1) = true then (1 : Int) else 0) = e ∧ 0 ≤ e ∧ e ≤ 1 ∧ (e = 1 → i = 0 ∨ i = 1) := by
          split
          · rename_i hc
            exact ⟨_, rfl, by decide, by decide, fun _ => .inr (V.int.inj (of_decide_eq_true hc))⟩
          · exact ⟨_, rfl, by decide, by decide, fun h => by omega⟩
        rw [he]
        exact ⟨_, _, rfl, rfl, .inl ⟨by decide, by omega⟩, _, _, rfl, rfl, fin e e0 e1 e2⟩
    refine ⟨_, rfl, rfl, _, rfl, ?_⟩
    refine ite3 (fun _ => ?_) fun _ => ?_
    · exact ⟨_, rfl, p, dl, 2, rfl, B1, by decide, fun r H2 _ _ B2 K2 => ⟨rfl, k _ _ _ (.bl _) (.bool _) B2 (K1.trans K2)⟩⟩
    refine ⟨_, rfl, rfl, _, rfl, ?_⟩
    refine ite3 (fun _ => ?_) fun _ => ?_
    · exact ⟨_, rfl, p, dl, rfl, B1, fun js H2 hl hj B2 K2 => k _ _ _ (.str _) (.str js (by omega) hj) B2 (K1.trans K2)⟩
    refine ⟨_, rfl, rfl, _, rfl, iteFb (decide_eq_false fun e => by have := V.int.inj e; omega) ?_⟩
    refine ⟨_, rfl, p, dl, 4, rfl, B1, by decide, fun m H2 m0 m1 B2 K2 => ?_⟩
    obtain ⟨m, rfl⟩ := Int.eq_ofNat_of_zero_le m0
    refine ⟨_, rfl, m, rfl, by omega, by omega, fun D hD => ?_⟩
    rw [Int.toNat_natCast]
    refine lc_it (walk_range (lo := 0) (n := m)) (fun i H' => Acc K H2 D p dl (TreeD n) i H') (Acc.start hD B2) (fun _ _ _ _ => trivial) ?_ ?_
    · rintro i x H5 H6 hi A ⟨rfl, rfl⟩
      refine ⟨rfl, tYes_of ?_⟩
      obtain ⟨_, _, _, _, _, _, B5, _⟩ := id A
      refine ⟨_, rfl, _, rfl, _, _, rfl, rfl, p, dl, n, by dsimp only; rw [show (((n + 1 : Nat) : Int) - 1) = (n : Int) by omega], rfl, B5, fun v x H7 dv hx B7 K7 => ?_⟩
      exact A.put (by omega) hD B2 B7 K7 dv hx
    · rintro H5 ⟨acc, ds, e5, a5, hl5, hp5, B5, K5⟩
      refine ⟨D, _, rfl, .inl ⟨SqL.of e5, fun t ht => ?_⟩⟩
      exact k _ _ _ (Dt.made ht a5) (.tup ds (by omega) hp5) (B5.same (Same.new ht)) (((K1.trans K2).trans K5).trans (Same.keep (Same.new ht)))
def spTreeR (K : PySem.W.Frag) : Nat → Sp
  | 0 => fun _ _ _ _ => False
  | n + 1 => spTree K n
theorem ok_treeR : ∀ {n : Nat} {f : Addr} {fd : FuncData} (F : Fun K "_law_tree" "_law_tree" s_law_tree f fd) (T : Txt K mg) (U_law_tree : Use P w K mg base CX0 "_law_tree" (2 + n) P_law_tree (spTreeR K n)) (U_law_draw : Use P w K mg base CX0 "_law_draw" 1 P_law_draw (spDraw K)) (U_law_text : Use P w K mg base CX0 "_law_text" 2 P_law_text (spText K)) (U_law_number : Use P w K mg base CX0 "_law_number" 2 P_law_number (spNumb K)) (U_law_name : Use P w K mg base CX0 "_law_name" 2 P_law_name (spName K)),
    FnG P w K mg base CX0 (2 + n + 1) f fd P_law_tree (spTreeR K (n + 1))
  | 0, _, _, F, T, _, A, B, C, D => ok_tree0 F T A B C D
  | n + 1, _, _, F, T, V, A, B, C, D => ok_treeN (n := n) (kk := 2 + (n + 1)) (by omega) F T A B C D V
--SPLIT
end

section
--SPLIT
end
abbrev s_law_field : Stmt := top 64
abbrev N_law_field : List Str := ["box", "letter", "many", "size", "k", "kind"]
abbrev P_law_field : List Str := ["box", "letter", "many"]
theorem sc_law_field : FnScope N_law_field P_law_field (defScope s_law_field) := ⟨rfl, rfl, rfl, by decide +kernel, rfl, by decide +kernel, by decide +kernel⟩
abbrev s_law_shape : Stmt := top 65
abbrev N_law_shape : List Str := ["box", "table", "many", "row"]
abbrev P_law_shape : List Str := ["box", "table", "many"]
theorem sc_law_shape : FnScope N_law_shape P_law_shape (defScope s_law_shape) := ⟨rfl, rfl, rfl, by decide +kernel, rfl, by decide +kernel, by decide +kernel⟩
abbrev s_law_shape_of : Stmt := top 66
abbrev N_law_shape_of : List Str := ["box", "row", "many", "item", "letter"]
abbrev P_law_shape_of : List Str := ["box", "row", "many"]
theorem sc_law_shape_of : FnScope N_law_shape_of P_law_shape_of (defScope s_law_shape_of) := ⟨rfl, rfl, rfl, by decide +kernel, rfl, by decide +kernel, by decide +kernel⟩
abbrev s_law_frames : Stmt := top 69
abbrev N_law_frames : List Str := ["words", "rows", "word", "parts"]
abbrev P_law_frames : List Str := []
theorem sc_law_frames : FnScope N_law_frames P_law_frames (defScope s_law_frames) := ⟨rfl, rfl, rfl, by decide +kernel, rfl, by decide +kernel, by decide +kernel⟩
abbrev s_law_objects : Stmt := top 67
abbrev N_law_objects : List Str := []
abbrev P_law_objects : List Str := []
theorem sc_law_objects : FnScope N_law_objects P_law_objects (defScope s_law_objects) := ⟨rfl, rfl, rfl, by decide +kernel, rfl, by decide +kernel, by decide +kernel⟩
abbrev s_law_controls : Stmt := top 68
abbrev N_law_controls : List Str := []
abbrev P_law_controls : List Str := []
theorem sc_law_controls : FnScope N_law_controls P_law_controls (defScope s_law_controls) := ⟨rfl, rfl, rfl, by decide +kernel, rfl, by decide +kernel, by decide +kernel⟩
section
variable {P : Program} {w : World} {K : PySem.W.Frag} {mg : Str → Option Value} {base : Heap}
theorem ex_map {α : Type} {g : α → PyData} {q : α → Prop} : ∀ {ds : List PyData}, (∀ d ∈ ds, ∃ x, d = g x ∧ q x) → ∃ xs : List α, ds = xs.map g ∧ ∀ x ∈ xs, q x
  | [], _ => ⟨[], rfl, by simp⟩
  | d :: ds, h => by
    obtain ⟨x, rfl, hx⟩ := h d (by simp)
    obtain ⟨xs, rfl, hxs⟩ := ex_map (g := g) (q := q) (ds := ds) fun e he => h e (List.mem_cons_of_mem _ he)
    exact ⟨x :: xs, rfl, fun y hy => by
      rcases List.mem_cons.mp hy with rfl | hy
      · exact hx
      · exact hxs y hy⟩
/-! fields -/
inductive Fld
  | v (x : Val) | V (xs : List Val) | W (ps : List (Val × Val)) | X (ps : List (List Nat × Val)) | t (d : PyData) | a (k : Nat) | b (k : Int) | n (i : Int) | x (js : List Nat) | s0 | s1 (z : Str) | s2 (z : Str) (x : Val)
def fldD : Fld → PyData
  | .v x => valD x
  | .V xs => .tuple (xs.map valD)
  | .W ps => .tuple (ps.map fun p => .tuple [valD p.1, valD p.2])
  | .X ps => .tuple (ps.map fun p => .tuple [.str (tx p.1), valD p.2])
  | .t d => d
  | .a k => .int (k : Int)
  | .b k => .int k
  | .n i => .int i
  | .x js => .str (tx js)
  | .s0 => .tuple []
  | .s1 z => .tuple [.str z]
  | .s2 z x => .tuple [.str z, valD x]
/-- the letter of a field -/
def ltr : Fld → Nat
  | .v _ => 118
  | .V _ => 86
  | .W _ => 87
  | .X _ => 88
  | .t _ => 116
  | .a _ => 97
  | .b _ => 98
  | .n _ => 110
  | .x _ => 120
  | .s0 => 115
  | .s1 _ => 115
  | .s2 _ _ => 115
def FldSm (m : Nat) : Fld → Prop
  | .v x => ValSm m x
  | .V xs => xs.length ≤ 4 ∧ ∀ x ∈ xs, ValSm m x
  | .W ps => ps.length ≤ 3 ∧ ∀ p ∈ ps, ValSm m p.1 ∧ ValSm m p.2
  | .X ps => ps.length ≤ 3 ∧ ∀ p ∈ ps, TxSm p.1 ∧ ValSm m p.2
  | .t d => TreeD 3 d
  | .a k => k < m
  | .b k => -1 ≤ k ∧ k < m
  | .n i => i.natAbs < 2 ^ 256
  | .x js => TxSm js
  | .s0 => True
  | .s1 z => z = "break" ∨ z = "continue"
  | .s2 z x => (z = "return" ∨ z = "raise") ∧ ValSm m x
theorem sig_S {c : Nat} {z : Str} (h : z = S [c]) : V.str z = .str (S [c]) := by rw [h]
def flds : List Nat := [118, 86, 87, 88, 116, 97, 98, 110, 120, 115]
def spField0 (K : PySem.W.Frag) : Sp := fun vs H Q _ => ∃ (p dl : Addr) (c m : Nat), vs = [.ref p, .str (S [c]), .int (m : Int)] ∧ c ∈ flds ∧ 0 < m ∧ m ≤ 10 ^ 6 ∧ BoxAt H p dl ∧ ∀ v (x : Fld) H', Dt K H' v (fldD x) → ltr x = c → FldSm m x → BoxAt H' p dl → Keep p H H' → Q v H'
theorem ok_field0 {f : Addr} {fd : FuncData} (F : Fun K "_law_field" "_law_field" s_law_field f fd) (T : Txt K mg) (U_law_draw : Use P w K mg base CX0 "_law_draw" 1 P_law_draw (spDraw K)) (U_law_value : Use P w K mg base CX0 "_law_value" 3 P_law_value (spLVal K)) (U_law_name : Use P w K mg base CX0 "_law_name" 2 P_law_name (spName K))
    (U_law_number : Use P w K mg base CX0 "_law_number" 2 P_law_number (spNumb K)) (U_law_tree : Use P w K mg base CX0 "_law_tree" (2 + 4) P_law_tree (spTreeR K 4)) : FnG P w K mg base CX0 7 f fd P_law_field (spField0 K) := by
  refine okG0 F sc_law_field (fun vs H Q E h => ?_) fun cdv A outer s H vs Q E hr hg h => ?_
  · obtain ⟨p, dl, c, m, rfl, _⟩ := h
    rfl
  · obtain ⟨p, dl, c, m, rfl, hc, hm0, hm, B, k⟩ := h
    refine ⟨_, (pss_cons (ps_if (pt_cmpR op_eq (pv 1) pe_str (nomark _))
   (pss_one (ps_ret (pe_use U_law_value (hr.mono (by decide)) hg rfl (pa_cons (pv 0) (pa_cons (pv 2) pa_nil)))))
   pss_nil)
  (pss_cons (ps_if (pt_cmpR op_eq (pv 1) pe_str (nomark _))
   (pss_cons (ps_set (i := 3) sc_law_field.nd rfl (Or.inl rfl) (pe_use U_law_draw (hr.mono (by decide)) hg rfl (pa_cons (pv 0) (pa_cons pe_int pa_nil))))
  (pss_one (ps_ret (pe_callTy call_tuple_of (by rfl) T.b_tuple (by decide +kernel) (pa_cons (pe_lc (own := [("k", 4)]) (g := (gName 4)) rfl sc_law_field.nd (pi_range1 (by rfl) T.b_range (pa_cons (pv 3) pa_nil)) (blkOk_by (N := N_law_field) (sc := defScope s_law_field) (by decide +kernel)) (fun _ _ _ _ _ => (pg_name (i := 4) sc_law_field.nd rfl (Or.inl rfl))) (fun _ _ _ _ _ => pts_nil) (fun _ _ _ _ _ => (pe_use U_law_value (hr.mono (by decide)) hg rfl (pa_cons (pv 0) (pa_cons (pv 2) pa_nil))))) pa_nil)))))
   pss_nil)
  (pss_cons (ps_if (pt_cmpR op_eq (pv 1) pe_str (nomark _))
   (pss_cons (ps_set (i := 3) sc_law_field.nd rfl (Or.inl rfl) (pe_use U_law_draw (hr.mono (by decide)) hg rfl (pa_cons (pv 0) (pa_cons pe_int pa_nil))))
  (pss_one (ps_ret (pe_callTy call_tuple_of (by rfl) T.b_tuple (by decide +kernel) (pa_cons (pe_lc (own := [("k", 4)]) (g := (gName 4)) rfl sc_law_field.nd (pi_range1 (by rfl) T.b_range (pa_cons (pv 3) pa_nil)) (blkOk_by (N := N_law_field) (sc := defScope s_law_field) (by decide +kernel)) (fun _ _ _ _ _ => (pg_name (i := 4) sc_law_field.nd rfl (Or.inl rfl))) (fun _ _ _ _ _ => pts_nil) (fun _ _ _ _ _ => (pe_tup (pa_cons (pe_use U_law_value (hr.mono (by decide)) hg rfl (pa_cons (pv 0) (pa_cons (pv 2) pa_nil))) (pa_cons (pe_use U_law_value (hr.mono (by decide)) hg rfl (pa_cons (pv 0) (pa_cons (pv 2) pa_nil))) pa_nil))))) pa_nil)))))
   pss_nil)
  (pss_cons (ps_if (pt_cmpR op_eq (pv 1) pe_str (nomark _))
   (pss_cons (ps_set (i := 3) sc_law_field.nd rfl (Or.inl rfl) (pe_use U_law_draw (hr.mono (by decide)) hg rfl (pa_cons (pv 0) (pa_cons pe_int pa_nil))))
  (pss_one (ps_ret (pe_callTy call_tuple_of (by rfl) T.b_tuple (by decide +kernel) (pa_cons (pe_lc (own := [("k", 4)]) (g := (gName 4)) rfl sc_law_field.nd (pi_range1 (by rfl) T.b_range (pa_cons (pv 3) pa_nil)) (blkOk_by (N := N_law_field) (sc := defScope s_law_field) (by decide +kernel)) (fun _ _ _ _ _ => (pg_name (i := 4) sc_law_field.nd rfl (Or.inl rfl))) (fun _ _ _ _ _ => pts_nil) (fun _ _ _ _ _ => (pe_tup (pa_cons (pe_use U_law_name (hr.mono (by decide)) hg rfl (pa_cons (pv 0) pa_nil)) (pa_cons (pe_use U_law_value (hr.mono (by decide)) hg rfl (pa_cons (pv 0) (pa_cons (pv 2) pa_nil))) pa_nil))))) pa_nil)))))
   pss_nil)
  (pss_cons (ps_if (pt_cmpR op_eq (pv 1) pe_str (nomark _))
   (pss_one (ps_ret (pe_use U_law_tree (hr.mono (by decide)) hg rfl (pa_cons (pv 0) (pa_cons pe_int pa_nil)))))
   pss_nil)
  (pss_cons (ps_if (pt_cmpR op_eq (pv 1) pe_str (nomark _))
   (pss_one (ps_ret (pe_op op_mod (pe_callTy call_int1 (by rfl) T.b_int (by decide +kernel) (pa_cons (pe_op op_add (pe_op op_mul (pe_use U_law_draw (hr.mono (by decide)) hg rfl (pa_cons (pv 0) (pa_cons pe_int pa_nil))) pe_int) (pe_use U_law_draw (hr.mono (by decide)) hg rfl (pa_cons (pv 0) (pa_cons pe_int pa_nil)))) pa_nil)) (pv 2))))
   pss_nil)
  (pss_cons (ps_if (pt_cmpR op_eq (pv 1) pe_str (nomark _))
   (pss_one (ps_ret (pe_op op_sub (pe_op op_mod (pe_callTy call_int1 (by rfl) T.b_int (by decide +kernel) (pa_cons (pe_op op_add (pe_op op_mul (pe_use U_law_draw (hr.mono (by decide)) hg rfl (pa_cons (pv 0) (pa_cons pe_int pa_nil))) pe_int) (pe_use U_law_draw (hr.mono (by decide)) hg rfl (pa_cons (pv 0) (pa_cons pe_int pa_nil)))) pa_nil)) (pe_op op_add (pv 2) pe_int)) pe_int)))
   pss_nil)
  (pss_cons (ps_if (pt_cmpR op_eq (pv 1) pe_str (nomark _))
   (pss_one (ps_ret (pe_use U_law_number (hr.mono (by decide)) hg rfl (pa_cons (pv 0) pa_nil))))
   pss_nil)
  (pss_cons (ps_if (pt_cmpR op_eq (pv 1) pe_str (nomark _))
   (pss_one (ps_ret (pe_use U_law_name (hr.mono (by decide)) hg rfl (pa_cons (pv 0) pa_nil))))
   pss_nil)
  (pss_cons (ps_if (pt_cmpR op_eq (pv 1) pe_str (nomark _))
   (pss_cons (ps_set (i := 5) sc_law_field.nd rfl (Or.inl rfl) (pe_use U_law_draw (hr.mono (by decide)) hg rfl (pa_cons (pv 0) (pa_cons pe_int pa_nil))))
  (pss_cons (ps_if (pt_cmpR op_lt (pv 5) pe_int (nomark _))
   (pss_one (ps_ret (pe_ix ix_list (pe_lst (pa_cons (pe_tup pa_nil) (pa_cons (pe_tup (pa_cons pe_str pa_nil)) (pa_cons (pe_tup (pa_cons pe_str pa_nil)) pa_nil)))) (pv 5) (fun _ _ => rfl))))
   pss_nil)
  (pss_one (ps_ret (pe_tup (pa_cons (pe_ix ix_list (pe_lst (pa_cons pe_str (pa_cons pe_str pa_nil))) (pe_op op_sub (pv 5) pe_int) (fun _ _ => rfl)) (pa_cons (pe_use U_law_value (hr.mono (by decide)) hg rfl (pa_cons (pv 0) (pa_cons (pv 2) pa_nil))) pa_nil)))))))
   pss_nil)
  pss_never)))))))))), ?_⟩
    have hm20 : (10 : Nat) ^ 6 ≤ 10 ^ 20 := by decide
    simp only [flds, List.mem_cons, List.not_mem_nil, or_false] at hc
    rcases hc with rfl | rfl | rfl | rfl | rfl | rfl | rfl | rfl | rfl | rfl
    · refine ⟨_, rfl, rfl, _, rfl, iteTb (by decide +kernel) ?_⟩
      exact ⟨_, rfl, _, rfl, p, dl, m, rfl, B, hm0, by omega, fun v x H1 dv hx B1 K1 => k v (.v x) H1 dv rfl hx B1 K1⟩
    · refine ⟨_, rfl, rfl, _, rfl, iteFb (by decide +kernel) ?_⟩
      refine ⟨_, rfl, rfl, _, rfl, iteTb (by decide +kernel) ?_⟩
      refine ⟨_, rfl, p, dl, 5, rfl, B, by decide, fun n H1 n0 n1 B1 K1 => ?_⟩
      obtain ⟨n, rfl⟩ := Int.eq_ofNat_of_zero_le n0
      refine ⟨_, rfl, n, rfl, by omega, by omega, fun D hD => ?_⟩
      rw [Int.toNat_natCast]
      refine lc_it (walk_range (lo := 0) (n := n)) (fun i H' => Acc K H1 D p dl (fun d => ∃ x, d = valD x ∧ ValSm m x) i H') (Acc.start hD B1) (fun _ _ _ _ => trivial) ?_ ?_
      · rintro i x H5 H6 hi A ⟨rfl, rfl⟩
        refine ⟨rfl, tYes_of ?_⟩
        obtain ⟨_, _, _, _, _, _, B5, _⟩ := id A
        exact ⟨_, rfl, _, rfl, p, dl, m, rfl, B5, hm0, by omega, fun v x H7 dv hx B7 K7 => A.put (by omega) hD B1 B7 K7 dv ⟨x, rfl, hx⟩⟩
      · rintro H5 ⟨acc, ds, e5, a5, hl5, hp5, B5, K5⟩
        obtain ⟨xs, rfl, hxs⟩ := ex_map hp5
        rw [List.length_map] at hl5
        refine ⟨D, _, rfl, .inl ⟨SqL.of e5, fun t ht => ?_⟩⟩
        exact k _ (.V xs) _ (Dt.made ht a5) rfl ⟨by omega, hxs⟩ (B5.same (Same.new ht)) ((K1.trans K5).trans (Same.keep (Same.new ht)))
    · refine ⟨_, rfl, rfl, _, rfl, iteFb (by decide +kernel) ?_⟩
      refine ⟨_, rfl, rfl, _, rfl, iteFb (by decide +kernel) ?_⟩
      refine ⟨_, rfl, rfl, _, rfl, iteTb (by decide +kernel) ?_⟩
      refine ⟨_, rfl, p, dl, 4, rfl, B, by decide, fun n H1 n0 n1 B1 K1 => ?_⟩
      obtain ⟨n, rfl⟩ := Int.eq_ofNat_of_zero_le n0
      refine ⟨_, rfl, n, rfl, by omega, by omega, fun D hD => ?_⟩
      rw [Int.toNat_natCast]
      refine lc_it (walk_range (lo := 0) (n := n)) (fun i H' => Acc K H1 D p dl (fun d => ∃ x, d = .tuple [valD (x : Val × Val).1, valD x.2] ∧ (ValSm m x.1 ∧ ValSm m x.2)) i H') (Acc.start hD B1) (fun _ _ _ _ => trivial) ?_ ?_
      · rintro i x H5 H6 hi A ⟨rfl, rfl⟩
        refine ⟨rfl, tYes_of ?_⟩
        obtain ⟨_, _, _, _, _, _, B5, _⟩ := id A
        refine ⟨_, rfl, _, rfl, p, dl, m, rfl, B5, hm0, by omega, fun v x H7 dv hx B7 K7 => ?_⟩
        refine ⟨_, rfl, _, rfl, p, dl, m, rfl, B7, hm0, by omega, fun u y H8 du hy B8 K8 => ⟨sz_2, fun t ht => ?_⟩⟩
        have S9 := Same.new (o := .tup [v, u]) ht
        exact A.put (by omega) hD B1 (B8.same S9) ((K7.trans K8).trans (Same.keep S9)) (Dt.made ht (.cons (dv.keepT (K8.keepT B7.at_)) (.cons du .nil))) ⟨(x, y), rfl, hx, hy⟩
      · rintro H5 ⟨acc, ds, e5, a5, hl5, hp5, B5, K5⟩
        obtain ⟨xs, rfl, hxs⟩ := ex_map hp5
        rw [List.length_map] at hl5
        refine ⟨D, _, rfl, .inl ⟨SqL.of e5, fun t ht => ?_⟩⟩
        exact k _ (.W xs) _ (Dt.made ht a5) rfl ⟨by omega, hxs⟩ (B5.same (Same.new ht)) ((K1.trans K5).trans (Same.keep (Same.new ht)))
    · refine ⟨_, rfl, rfl, _, rfl, iteFb (by decide +kernel) ?_⟩
      refine ⟨_, rfl, rfl, _, rfl, iteFb (by decide +kernel) ?_⟩
      refine ⟨_, rfl, rfl, _, rfl, iteFb (by decide +kernel) ?_⟩
      refine ⟨_, rfl, rfl, _, rfl, iteTb (by decide +kernel) ?_⟩
      refine ⟨_, rfl, p, dl, 4, rfl, B, by decide, fun n H1 n0 n1 B1 K1 => ?_⟩
      obtain ⟨n, rfl⟩ := Int.eq_ofNat_of_zero_le n0
      refine ⟨_, rfl, n, rfl, by omega, by omega, fun D hD => ?_⟩
      rw [Int.toNat_natCast]
      refine lc_it (walk_range (lo := 0) (n := n)) (fun i H' => Acc K H1 D p dl (fun d => ∃ x, d = .tuple [.str (tx (x : List Nat × Val).1), valD x.2] ∧ (TxSm x.1 ∧ ValSm m x.2)) i H') (Acc.start hD B1) (fun _ _ _ _ => trivial) ?_ ?_
      · rintro i x H5 H6 hi A ⟨rfl, rfl⟩
        refine ⟨rfl, tYes_of ?_⟩
        obtain ⟨_, _, _, _, _, _, B5, _⟩ := id A
        refine ⟨_, rfl, p, dl, rfl, B5, fun js H7 hjl hj B7 K7 => ?_⟩
        refine ⟨_, rfl, _, rfl, p, dl, m, rfl, B7, hm0, by omega, fun u y H8 du hy B8 K8 => ⟨sz_2, fun t ht => ?_⟩⟩
        have S9 := Same.new (o := .tup [.str (tx js), u]) ht
        exact A.put (by omega) hD B1 (B8.same S9) ((K7.trans K8).trans (Same.keep S9)) (Dt.made ht (.cons (.str _) (.cons du .nil))) ⟨(js, y), rfl, ⟨Nat.le_trans hjl (by decide), hj⟩, hy⟩
      · rintro H5 ⟨acc, ds, e5, a5, hl5, hp5, B5, K5⟩
        obtain ⟨xs, rfl, hxs⟩ := ex_map hp5
        rw [List.length_map] at hl5
        refine ⟨D, _, rfl, .inl ⟨SqL.of e5, fun t ht => ?_⟩⟩
        exact k _ (.X xs) _ (Dt.made ht a5) rfl ⟨by omega, hxs⟩ (B5.same (Same.new ht)) ((K1.trans K5).trans (Same.keep (Same.new ht)))
    · refine ⟨_, rfl, rfl, _, rfl, iteFb (by decide +kernel) ?_⟩
      refine ⟨_, rfl, rfl, _, rfl, iteFb (by decide +kernel) ?_⟩
      refine ⟨_, rfl, rfl, _, rfl, iteFb (by decide +kernel) ?_⟩
      refine ⟨_, rfl, rfl, _, rfl, iteFb (by decide +kernel) ?_⟩
      refine ⟨_, rfl, rfl, _, rfl, iteTb (by decide +kernel) ?_⟩
      exact ⟨_, rfl, p, dl, 3, rfl, rfl, B, fun v x H1 dv hx B1 K1 => k v (.t x) H1 dv rfl hx B1 K1⟩
    · refine ⟨_, rfl, rfl, _, rfl, iteFb (by decide +kernel) ?_⟩
      refine ⟨_, rfl, rfl, _, rfl, iteFb (by decide +kernel) ?_⟩
      refine ⟨_, rfl, rfl, _, rfl, iteFb (by decide +kernel) ?_⟩
      refine ⟨_, rfl, rfl, _, rfl, iteFb (by decide +kernel) ?_⟩
      refine ⟨_, rfl, rfl, _, rfl, iteFb (by decide +kernel) ?_⟩
      refine ⟨_, rfl, rfl, _, rfl, iteTb (by decide +kernel) ?_⟩
      refine ⟨_, rfl, p, dl, 1000, rfl, B, by decide, fun r1 H1 q0 q1 B1 K1 => ?_⟩
      refine ⟨_, _, rfl, rfl, .inr ⟨by decide, by decide⟩, _, rfl, p, dl, 1000, rfl, B1, by decide, fun r2 H2 q2 q3 B2 K2 => ?_⟩
      refine ⟨_, _, rfl, rfl, .inl ⟨_, rfl, _, rfl, _, _, rfl, rfl, by omega, ?_⟩⟩
      obtain ⟨j, hj⟩ : ∃ j : Nat, (r1 * 1000 + r2) % (m : Int) = (j : Int) := ⟨_, (Int.toNat_of_nonneg (Int.emod_nonneg _ (by omega))).symm⟩
      have hjm := Int.emod_lt_of_pos (r1 * 1000 + r2) (show (0 : Int) < m by omega)
      dsimp only
      rw [hj] at hjm ⊢
      exact k _ (.a j) _ (.int _) rfl (show j < m by omega) B2 (K1.trans K2)
    · refine ⟨_, rfl, rfl, _, rfl, iteFb (by decide +kernel) ?_⟩
      refine ⟨_, rfl, rfl, _, rfl, iteFb (by decide +kernel) ?_⟩
      refine ⟨_, rfl, rfl, _, rfl, iteFb (by decide +kernel) ?_⟩
      refine ⟨_, rfl, rfl, _, rfl, iteFb (by decide +kernel) ?_⟩
      refine ⟨_, rfl, rfl, _, rfl, iteFb (by decide +kernel) ?_⟩
      refine ⟨_, rfl, rfl, _, rfl, iteFb (by decide +kernel) ?_⟩
      refine ⟨_, rfl, rfl, _, rfl, iteTb (by decide +kernel) ?_⟩
      refine ⟨_, rfl, p, dl, 1000, rfl, B, by decide, fun r1 H1 q0 q1 B1 K1 => ?_⟩
      refine ⟨_, _, rfl, rfl, .inr ⟨by decide, by decide⟩, _, rfl, p, dl, 1000, rfl, B1, by decide, fun r2 H2 q2 q3 B2 K2 => ?_⟩
      refine ⟨_, _, rfl, rfl, .inl ⟨_, rfl, _, rfl, _, _, rfl, rfl, _, _, rfl, rfl, by omega, _, _, rfl, rfl, ?_⟩⟩
      have hj0 := Int.emod_nonneg (r1 * 1000 + r2) (show (m : Int) + 1 ≠ 0 by omega)
      have hjm := Int.emod_lt_of_pos (r1 * 1000 + r2) (show (0 : Int) < (m : Int) + 1 by omega)
      exact k _ (.b _) _ (.int _) rfl (show -1 ≤ (r1 * 1000 + r2) % ((m : Int) + 1) - 1 ∧ (r1 * 1000 + r2) % ((m : Int) + 1) - 1 < m by omega) B2 (K1.trans K2)
    · refine ⟨_, rfl, rfl, _, rfl, iteFb (by decide +kernel) ?_⟩
      refine ⟨_, rfl, rfl, _, rfl, iteFb (by decide +kernel) ?_⟩
      refine ⟨_, rfl, rfl, _, rfl, iteFb (by decide +kernel) ?_⟩
      refine ⟨_, rfl, rfl, _, rfl, iteFb (by decide +kernel) ?_⟩
      refine ⟨_, rfl, rfl, _, rfl, iteFb (by decide +kernel) ?_⟩
      refine ⟨_, rfl, rfl, _, rfl, iteFb (by decide +kernel) ?_⟩
      refine ⟨_, rfl, rfl, _, rfl, iteFb (by decide +kernel) ?_⟩
      refine ⟨_, rfl, rfl, _, rfl, iteTb (by decide +kernel) ?_⟩
      exact ⟨_, rfl, p, dl, rfl, B, fun i H1 hi B1 K1 => k _ (.n i) H1 (.int _) rfl hi B1 K1⟩
    · refine ⟨_, rfl, rfl, _, rfl, iteFb (by decide +kernel) ?_⟩
      refine ⟨_, rfl, rfl, _, rfl, iteFb (by decide +kernel) ?_⟩
      refine ⟨_, rfl, rfl, _, rfl, iteFb (by decide +kernel) ?_⟩
      refine ⟨_, rfl, rfl, _, rfl, iteFb (by decide +kernel) ?_⟩
      refine ⟨_, rfl, rfl, _, rfl, iteFb (by decide +kernel) ?_⟩
      refine ⟨_, rfl, rfl, _, rfl, iteFb (by decide +kernel) ?_⟩
      refine ⟨_, rfl, rfl, _, rfl, iteFb (by decide +kernel) ?_⟩
      refine ⟨_, rfl, rfl, _, rfl, iteFb (by decide +kernel) ?_⟩
      refine ⟨_, rfl, rfl, _, rfl, iteTb (by decide +kernel) ?_⟩
      exact ⟨_, rfl, p, dl, rfl, B, fun js H1 hl hj B1 K1 => k _ (.x js) H1 (.str _) rfl ⟨by omega, hj⟩ B1 K1⟩
    · refine ⟨_, rfl, rfl, _, rfl, iteFb (by decide +kernel) ?_⟩
      refine ⟨_, rfl, rfl, _, rfl, iteFb (by decide +kernel) ?_⟩
      refine ⟨_, rfl, rfl, _, rfl, iteFb (by decide +kernel) ?_⟩
      refine ⟨_, rfl, rfl, _, rfl, iteFb (by decide +kernel) ?_⟩
      refine ⟨_, rfl, rfl, _, rfl, iteFb (by decide +kernel) ?_⟩
      refine ⟨_, rfl, rfl, _, rfl, iteFb (by decide +kernel) ?_⟩
      refine ⟨_, rfl, rfl, _, rfl, iteFb (by decide +kernel) ?_⟩
      refine ⟨_, rfl, rfl, _, rfl, iteFb (by decide +kernel) ?_⟩
      refine ⟨_, rfl, rfl, _, rfl, iteFb (by decide +kernel) ?_⟩
      refine ⟨_, rfl, rfl, _, rfl, iteTb (by decide +kernel) ?_⟩
      refine ⟨_, rfl, p, dl, 5, rfl, B, by decide, fun kd H1 k0 k1 B1 K1 => ?_⟩
      refine ⟨_, rfl, _, _, rfl, rfl, _, rfl, ?_⟩
      refine ite3 (fun c => ?_) fun c => ?_
      · have c := of_decide_eq_true c
        refine ⟨sz_0, fun u1 h1 => ⟨sz_1, fun u2 h2 => ⟨sz_1, fun u3 h3 => ⟨sz_3, fun u4 h4 => ?_⟩⟩⟩⟩
        have s1 := Same.new (o := .tup []) h1
        have s2 := Same.new (o := .tup [.str "break"]) h2
        have s3 := Same.new (o := .tup [.str "continue"]) h3
        have s4 := Same.new (o := .lst [.ref u1, .ref u2, .ref u3]) h4
        have sA := ((s1.trans s2).trans s3).trans s4
        have d1 := Dt.made (K := K) h1 .nil
        have d2 := Dt.made (K := K) h2 (.cons (.str "break") .nil)
        have d3 := Dt.made (K := K) h3 (.cons (.str "continue") .nil)
        obtain rfl | rfl | rfl : kd = 0 ∨ kd = 1 ∨ kd = 2 := by omega
        · exact ⟨_, rfl, u4, _, _, _, rfl, rfl, SqL.of upd_same, at0, k _ .s0 _ (d1.mono ((s2.trans s3).trans s4)) rfl trivial (B1.same sA) (K1.trans (Same.keep sA))⟩
        · exact ⟨_, rfl, u4, _, _, _, rfl, rfl, SqL.of upd_same, at1, k _ (.s1 "break") _ (d2.mono (s3.trans s4)) rfl (.inl rfl) (B1.same sA) (K1.trans (Same.keep sA))⟩
        · exact ⟨_, rfl, u4, _, _, _, rfl, rfl, SqL.of upd_same, at2, k _ (.s1 "continue") _ (d3.mono s4) rfl (.inr rfl) (B1.same sA) (K1.trans (Same.keep sA))⟩
      · have c := of_decide_eq_false c
        refine ⟨sz_2, fun u1 h1 => ?_⟩
        have s1 := Same.new (o := .lst [.str "return", .str "raise"]) h1
        have fin : ∀ z : Str, (z = "return" ∨ z = "raise") → ∀ (v : V) (x : Val) H2, Dt K H2 v (valD x) → ValSm m x → BoxAt H2 p dl → Keep p (upd H1 u1 (.lst [.str "return", .str "raise"])) H2 → ∀ t, H2 t = none → Q (.ref t) (upd H2 t (.tup [.str z, v])) := fun z hz v x H2 dv hx B2 K2 t ht =>
          k _ (.s2 z x) _ (Dt.made ht (.cons (.str z) (.cons dv .nil))) rfl ⟨hz, hx⟩ (B2.same (Same.new ht)) (((K1.trans (Same.keep s1)).trans K2).trans (Same.keep (Same.new ht)))
        obtain rfl | rfl : kd = 3 ∨ kd = 4 := by omega
        · exact ⟨_, rfl, _, _, rfl, rfl, u1, _, _, _, rfl, rfl, SqL.of upd_same, at0, _, rfl, _, rfl, p, dl, m, rfl, B1.same s1, hm0, by omega, fun v x H2 dv hx B2 K2 => ⟨sz_2, fin _ (.inl rfl) v x H2 dv hx B2 K2⟩⟩
        · exact ⟨_, rfl, _, _, rfl, rfl, u1, _, _, _, rfl, rfl, SqL.of upd_same, at1, _, rfl, _, rfl, p, dl, m, rfl, B1.same s1, hm0, by omega, fun v x H2 dv hx B2 K2 => ⟨sz_2, fin _ (.inr rfl) v x H2 dv hx B2 K2⟩⟩
--SPLIT
/-! a row of fields -/
def spShapeOf0 (K : PySem.W.Frag) : Sp := fun vs H Q _ => ∃ (p dl r : Addr) (kd : Str) (ls : List Nat) (m : Nat), vs = [.ref p, .ref r, .int (m : Int)] ∧ H r = some (.lst [.str kd, .str (S ls)]) ∧ (∀ c ∈ ls, c ∈ flds) ∧ ls.length ≤ 10 ∧ 0 < m ∧ m ≤ 10 ^ 6 ∧ BoxAt H p dl ∧
  ∀ v (fs : List Fld) H', Dt K H' v (.tuple (.str kd :: fs.map fldD)) → fs.map ltr = ls → (∀ f ∈ fs, FldSm m f) → BoxAt H' p dl → Keep p H H' → Q v H'
theorem row_ne {H : Hp} {p dl r : Addr} {kd ls : Str} (B : BoxAt H p dl) (e : H r = some (.lst [.str kd, .str ls])) : r ≠ p := fun h => by
  subst h
  obtain ⟨_, _, e2, _⟩ := B
  rw [e] at e2
  cases HO.lst.inj (Option.some.inj e2)
theorem ok_shapeof0 {f : Addr} {fd : FuncData} (F : Fun K "_law_shape_of" "_law_shape_of" s_law_shape_of f fd) (T : Txt K mg) (U_law_field : Use P w K mg base CX0 "_law_field" 7 P_law_field (spField0 K)) : FnG P w K mg base CX0 8 f fd P_law_shape_of (spShapeOf0 K) := by
  refine okG0 F sc_law_shape_of (fun vs H Q E h => ?_) fun cdv A outer s H vs Q E hr hg h => ?_
  · obtain ⟨p, dl, r, kd, ls, m, rfl, _⟩ := h
    rfl
  · obtain ⟨p, dl, r, kd, ls, m, rfl, er, hls, hll, hm0, hm, B, k⟩ := h
    refine ⟨_, (pss_cons (ps_set (i := 3) sc_law_shape_of.nd rfl (Or.inl rfl) (pe_tup (pa_cons (pe_ix ix_list (pv 1) pe_int (fun _ _ => rfl)) pa_nil)))
  (pss_cons (ps_for PassesOwn.never rfl (pi_str (pe_ix ix_list (pv 1) pe_int (fun _ _ => rfl))) (pg_name (i := 4) sc_law_shape_of.nd rfl (Or.inl rfl))
   (pss_one (ps_set (i := 3) sc_law_shape_of.nd rfl (Or.inl rfl) (pe_op op_catA (pv 3) (pe_tup (pa_cons (pe_use U_law_field (hr.mono (by decide)) hg rfl (pa_cons (pv 0) (pa_cons (pv 4) (pa_cons (pv 2) pa_nil)))) pa_nil))))))
  (pss_one (ps_ret (pv 3))))), ?_⟩
    have hrp := row_ne B er
    refine ⟨_, rfl, r, _, _, _, rfl, rfl, SqL.of er, at0, sz_1, fun u0 hu0 => ?_⟩
    have S0 := Same.new (o := .tup [.str kd]) hu0
    refine ⟨_, rfl, r, _, _, _, rfl, rfl, SqL.of (S0 _ _ er), at1, _, rfl, ?_⟩
    refine for_it walk_str (fun i σ H5 => ∃ (u : Addr) (fs : List Fld) (x4 : Option V), σ = [some (.ref p), some (.ref r), some (.int m), some (.ref u), x4] ∧ Dt K H5 (.ref u) (.tuple (.str kd :: fs.map fldD)) ∧ fs.map ltr = ls.take i ∧ (∀ f ∈ fs, FldSm m f) ∧ BoxAt H5 p dl ∧ Keep p H H5) ⟨u0, [], none, rfl, Dt.made hu0 (.cons (.str _) .nil), rfl, by simp, B.same S0, Same.keep S0⟩ (fun _ _ _ _ _ => trivial) ?_ ?_
    · rintro i x σ H5 H6 hi ⟨u, fs, x4, rfl, du, hf, hfs, B5, K5⟩ ⟨rfl, c, hc, rfl⟩
      have hc' : ls[i]? = some c := by simpa [S] using hc
      refine ⟨_, rfl, _, rfl, _, rfl, _, rfl, p, dl, c, m, rfl, hls c (List.mem_of_getElem? hc'), hm0, hm, B5, fun v x H7 dv hl hx B7 K7 => ⟨sz_1, fun t ht => ?_⟩⟩
      obtain ⟨_, xs, eu, hs, ha⟩ := du.tuple_inv
      cases eu
      have hxn : xs ≠ [] := by
        obtain ⟨_, _, rfl, _, _⟩ := ha.cons_inv
        simp
      have hxl := ha.length
      have hfl : fs.length ≤ 10 := by
        have := congrArg List.length hf
        rw [List.length_map, List.length_take] at this
        omega
      have kT := K7.keepT (K := K) B5.at_
      have S8 := Same.new (o := .tup [v]) ht
      refine ⟨u, t, xs, [v], rfl, rfl, Same.tupl S8 (kT _ _ hs), SqT.of upd_same, Nat.le_trans (show _ ≤ 100 by simp at hxl ⊢; omega) (by decide), fun h => absurd h hxn, (fun _ h => by cases h), fun _ _ q hq => ?_⟩
      have S9 := Same.new (o := .tup (xs ++ [v])) hq
      have dq := Dt.made hq (DtAll.app ((ha.keepT kT).mono S8) (.cons (dv.mono S8) .nil))
      refine ⟨q, fs ++ [x], _, rfl, by rw [List.map_append]; exact dq, ?_, fun f hf' => ?_, (B7.same S8).same S9, (K5.trans K7).trans (Same.keep (S8.trans S9))⟩
      · rw [List.map_append, hf, List.take_succ, hc', List.map_cons, hl]; rfl
      · rcases List.mem_append.mp hf' with h | h
        · exact hfs f h
        · rw [List.mem_singleton.mp h]; exact hx
    · rintro σ H5 ⟨u, fs, x4, rfl, du, hf, hfs, B5, K5⟩
      have hz : (S ls).cps.size = ls.length := by simp [S]
      rw [hz, List.take_length] at hf
      exact ⟨_, rfl, k _ fs _ du hf hfs B5 K5⟩
/-! tables -/
abbrev Tab := List (Str × List Nat)
/-- a list of rows: a kind, its letters -/
def TabAt (H : Hp) (tl : Addr) (tab : Tab) : Prop := ∃ rs : List Addr, H tl = some (.lst (rs.map V.ref)) ∧ rs.length = tab.length ∧ ∀ (i : Nat) (r : Addr), rs[i]? = some r → ∃ kd ls, tab[i]? = some (kd, ls) ∧ H r = some (.lst [.str kd, .str (S ls)])
theorem TabAt.mono {H H' : Hp} {tl : Addr} {tab : Tab} (h : TabAt H tl tab) (e : Same H H') : TabAt H' tl tab := by
  obtain ⟨rs, e1, e2, e3⟩ := h
  exact ⟨rs, e _ _ e1, e2, fun i r hr => let ⟨kd, ls, a, b⟩ := e3 i r hr; ⟨kd, ls, a, e _ _ b⟩⟩
theorem TabAt.keep {H H' : Hp} {tl p dl : Addr} {tab : Tab} (h : TabAt H tl tab) (B : BoxAt H p dl) (k : Keep p H H') : TabAt H' tl tab := by
  obtain ⟨rs, e1, e2, e3⟩ := h
  have hne : tl ≠ p := fun e => by
    subst e
    obtain ⟨ds, n, e4, _⟩ := B
    rw [e1] at e4
    match rs, HO.lst.inj (Option.some.inj e4) with
    | [_, _], e => cases (List.cons.inj (List.cons.inj e).2).1
  exact ⟨rs, k _ _ e1 hne, e2, fun i r hr => let ⟨kd, ls, a, b⟩ := e3 i r hr; ⟨kd, ls, a, k _ _ b (row_ne B b)⟩⟩
def TabOk (al : List Nat) (tab : Tab) : Prop := ∀ t ∈ tab, (∀ c ∈ t.2, c ∈ al) ∧ t.2.length ≤ 10
def spShape (K : PySem.W.Frag) : Sp := fun vs H Q _ => ∃ (p dl tl : Addr) (tab : Tab) (m : Nat), vs = [.ref p, .ref tl, .int (m : Int)] ∧ TabAt H tl tab ∧ tab ≠ [] ∧ tab.length ≤ 100 ∧ TabOk flds tab ∧ 0 < m ∧ m ≤ 10 ^ 6 ∧ BoxAt H p dl ∧
  ∀ v (kd : Str) (fs : List Fld) H', (kd, fs.map ltr) ∈ tab → Dt K H' v (.tuple (.str kd :: fs.map fldD)) → (∀ f ∈ fs, FldSm m f) → BoxAt H' p dl → Keep p H H' → Q v H'
theorem ok_shape {f : Addr} {fd : FuncData} (F : Fun K "_law_shape" "_law_shape" s_law_shape f fd) (T : Txt K mg) (U_law_draw : Use P w K mg base CX0 "_law_draw" 1 P_law_draw (spDraw K)) (U_law_shape_of : Use P w K mg base CX0 "_law_shape_of" 8 P_law_shape_of (spShapeOf0 K)) : FnG P w K mg base CX0 9 f fd P_law_shape (spShape K) := by
  refine okG0 F sc_law_shape (fun vs H Q E h => ?_) fun cdv A outer s H vs Q E hr hg h => ?_
  · obtain ⟨p, dl, tl, tab, m, rfl, _⟩ := h
    rfl
  · obtain ⟨p, dl, tl, tab, m, rfl, hT, hne, htl, hok, hm0, hm, B, k⟩ := h
    refine ⟨_, (pss_cons (ps_set (i := 3) sc_law_shape.nd rfl (Or.inl rfl) (pe_ix ix_list (pv 1) (pe_op op_mod (pe_callTy call_int1 (by rfl) T.b_int (by decide +kernel) (pa_cons (pe_op op_add (pe_op op_mul (pe_use U_law_draw (hr.mono (by decide)) hg rfl (pa_cons (pv 0) (pa_cons pe_int pa_nil))) pe_int) (pe_use U_law_draw (hr.mono (by decide)) hg rfl (pa_cons (pv 0) (pa_cons pe_int pa_nil)))) pa_nil)) (pe_callB call_len (by rfl) T.b_len PySem.boot_len (pa_cons (pv 1) pa_nil))) (fun _ _ => rfl)))
  (pss_one (ps_ret (pe_use U_law_shape_of (hr.mono (by decide)) hg rfl (pa_cons (pv 0) (pa_cons (pv 3) (pa_cons (pv 2) pa_nil))))))), ?_⟩
    refine ⟨_, rfl, _, rfl, p, dl, 1000, rfl, B, by decide, fun r1 H1 q0 q1 B1 K1 => ?_⟩
    refine ⟨_, _, rfl, rfl, .inr ⟨by decide, by decide⟩, _, rfl, p, dl, 1000, rfl, B1, by decide, fun r2 H2 q2 q3 B2 K2 => ?_⟩
    have hT2 := (hT.keep B K1).keep B1 K2
    obtain ⟨rs, e1, e2, e3⟩ := id hT2
    have hrl : 0 < rs.length := by rw [e2]; exact List.length_pos_iff.mpr hne
    refine ⟨_, _, rfl, rfl, .inl ⟨_, rfl, _, rfl, _, _, rfl, .inl ⟨_, SqL.of e1, rfl⟩, _, _, rfl, rfl, by rw [List.length_map]; omega, ?_⟩⟩
    obtain ⟨j, hj⟩ : ∃ j : Nat, (r1 * 1000 + r2) % (((rs.map V.ref).length : Nat) : Int) = (j : Int) := ⟨_, (Int.toNat_of_nonneg (Int.emod_nonneg _ (by rw [List.length_map]; omega))).symm⟩
    have hjm := Int.emod_lt_of_pos (r1 * 1000 + r2) (show (0 : Int) < (((rs.map V.ref).length : Nat) : Int) by rw [List.length_map]; omega)
    rw [hj, List.length_map] at hjm
    have hr2 : rs[j]? = some rs[j] := List.getElem?_eq_getElem (by omega)
    obtain ⟨kd, ls, et, er⟩ := e3 j _ hr2
    have hmem := List.mem_of_getElem? et
    obtain ⟨o1, o2⟩ := hok _ hmem
    dsimp only
    rw [hj]
    refine ⟨tl, _, _, _, rfl, rfl, SqL.of e1, atI_nat (by rw [List.getElem?_map, hr2]; rfl), ?_⟩
    refine ⟨_, rfl, _, rfl, _, rfl, p, dl, _, kd, ls, m, rfl, er, o1, o2, hm0, hm, B2, fun v fs H3 dv hf hfs B3 K3 => ?_⟩
    exact k v kd fs H3 (by rw [hf]; exact hmem) dv hfs B3 ((K1.trans K2).trans K3)
--SPLIT
/-! the tables themselves -/
def frTab : Tab := ([("neg", []), ("not", []), ("bin1", [120, 116, 97]), ("bin2", [120, 118]), ("and", [116, 97]), ("or", [116, 97]), ("choice", [116, 116, 97]), ("cmp1", [116, 97]), ("cmp2", [118, 120, 116, 97]), ("cmp3", [118, 116, 97]), ("attr", [120]), ("item1", [116, 97])] : Tab) ++ ([("item2", [118]), ("part1", [116, 116, 97]), ("part2", [118, 116, 97]), ("part3", [118, 118]), ("items", [120, 86, 116, 97]), ("dict1", [87, 116, 116, 97]), ("dict2", [87, 118, 116, 97]), ("call1", [116, 116, 97]), ("args", [118, 86, 116, 88, 116, 97]), ("rest", [116, 97]), ("drop", []), ("put", [116, 97])] : Tab) ++ ([("del1", [116, 97]), ("del2", [118]), ("ret", []), ("throw", []), ("if", [116, 116, 97]), ("while1", [116, 116, 97, 110]), ("while2", [116, 116, 97, 110]), ("for1", [116, 116, 97, 110]), ("for2", [116, 116, 97, 110]), ("for3", [118, 116, 116, 97, 110]), ("for4", [118, 116, 116, 97, 110]), ("for5", [118, 116, 116, 97, 110])] : Tab) ++ ([("def", [120, 116, 116, 116, 88, 116, 97]), ("class1", [120, 116, 116, 97]), ("class2", [120, 98, 97, 97]), ("catch", [116, 97]), ("match", [118, 116, 97]), ("handling", [118]), ("final", [116, 97]), ("after", [115]), ("giving", [116, 97]), ("sent", [116, 97]), ("setattr", [120, 118]), ("seti1", [116, 118, 97])] : Tab) ++ ([("seti2", [118, 118]), ("unpack", [116, 86, 97]), ("forget", []), ("body", [120, 110]), ("init", [118]), ("genbody", [97, 120, 110, 120]), ("begin", [116, 97]), ("want", [120]), ("print", [118, 86]), ("gather1", [120]), ("gather", [120, 118, 86]), ("default", [118])] : Tab)
def obTab : Tab := [("list", [86]), ("tuple", [86]), ("dict", [87]), ("scope", [88, 116, 116, 98, 116]), ("func", [120, 116, 88, 116, 116, 97]), ("class", [120, 98, 88]), ("inst", [97, 88]), ("bound", [118, 118]), ("iter", [118, 110, 110]), ("gen", [120, 120, 70])]
def coTab : Tab := [("eval", [116, 97]), ("exec", [116, 97]), ("store", [116, 118, 97]), ("call", [118, 86, 88]), ("resume", [97, 120, 118]), ("value", [118]), ("done", []), ("leave", [115]), ("give", [118]), ("ask", [120, 86])]
def frWlN : List (List Nat) := ([[110, 101, 103], [110, 111, 116], [98, 105, 110, 49, 32, 120, 116, 97], [98, 105, 110, 50, 32, 120, 118], [97, 110, 100, 32, 116, 97], [111, 114, 32, 116, 97], [99, 104, 111, 105, 99, 101, 32, 116, 116, 97], [99, 109, 112, 49, 32, 116, 97], [99, 109, 112, 50, 32, 118, 120, 116, 97], [99, 109, 112, 51, 32, 118, 116, 97], [97, 116, 116, 114, 32, 120], [105, 116, 101, 109, 49, 32, 116, 97]] : List (List Nat)) ++ ([[105, 116, 101, 109, 50, 32, 118], [112, 97, 114, 116, 49, 32, 116, 116, 97], [112, 97, 114, 116, 50, 32, 118, 116, 97], [112, 97, 114, 116, 51, 32, 118, 118], [105, 116, 101, 109, 115, 32, 120, 86, 116, 97], [100, 105, 99, 116, 49, 32, 87, 116, 116, 97], [100, 105, 99, 116, 50, 32, 87, 118, 116, 97], [99, 97, 108, 108, 49, 32, 116, 116, 97], [97, 114, 103, 115, 32, 118, 86, 116, 88, 116, 97], [114, 101, 115, 116, 32, 116, 97], [100, 114, 111, 112], [112, 117, 116, 32, 116, 97]] : List (List Nat)) ++ ([[100, 101, 108, 49, 32, 116, 97], [100, 101, 108, 50, 32, 118], [114, 101, 116], [116, 104, 114, 111, 119], [105, 102, 32, 116, 116, 97], [119, 104, 105, 108, 101, 49, 32, 116, 116, 97, 110], [119, 104, 105, 108, 101, 50, 32, 116, 116, 97, 110], [102, 111, 114, 49, 32, 116, 116, 97, 110], [102, 111, 114, 50, 32, 116, 116, 97, 110], [102, 111, 114, 51, 32, 118, 116, 116, 97, 110], [102, 111, 114, 52, 32, 118, 116, 116, 97, 110], [102, 111, 114, 53, 32, 118, 116, 116, 97, 110]] : List (List Nat)) ++ ([[100, 101, 102, 32, 120, 116, 116, 116, 88, 116, 97], [99, 108, 97, 115, 115, 49, 32, 120, 116, 116, 97], [99, 108, 97, 115, 115, 50, 32, 120, 98, 97, 97], [99, 97, 116, 99, 104, 32, 116, 97], [109, 97, 116, 99, 104, 32, 118, 116, 97], [104, 97, 110, 100, 108, 105, 110, 103, 32, 118], [102, 105, 110, 97, 108, 32, 116, 97], [97, 102, 116, 101, 114, 32, 115], [103, 105, 118, 105, 110, 103, 32, 116, 97], [115, 101, 110, 116, 32, 116, 97], [115, 101, 116, 97, 116, 116, 114, 32, 120, 118], [115, 101, 116, 105, 49, 32, 116, 118, 97]] : List (List Nat)) ++ ([[115, 101, 116, 105, 50, 32, 118, 118], [117, 110, 112, 97, 99, 107, 32, 116, 86, 97], [102, 111, 114, 103, 101, 116], [98, 111, 100, 121, 32, 120, 110], [105, 110, 105, 116, 32, 118], [103, 101, 110, 98, 111, 100, 121, 32, 97, 120, 110, 120], [98, 101, 103, 105, 110, 32, 116, 97], [119, 97, 110, 116, 32, 120], [112, 114, 105, 110, 116, 32, 118, 86], [103, 97, 116, 104, 101, 114, 49, 32, 120], [103, 97, 116, 104, 101, 114, 32, 120, 118, 86], [100, 101, 102, 97, 117, 108, 116, 32, 118]] : List (List Nat))
def frWd : Str := ("neg|not|bin1 xta|bin2 xv|and ta|or ta|choice tta|cmp1 ta|cmp2 vxta|cmp3 vta|attr x|item1 ta|item2 v|" : Str) ++ ("part1 tta|part2 vta|part3 vv|items xVta|dict1 Wtta|dict2 Wvta|call1 tta|args vVtXta|rest ta|drop|" : Str) ++ ("put ta|del1 ta|del2 v|ret|throw|if tta|while1 ttan|while2 ttan|for1 ttan|for2 ttan|for3 vttan|" : Str) ++ ("for4 vttan|for5 vttan|def xtttXta|class1 xtta|class2 xbaa|catch ta|match vta|handling v|final ta|" : Str) ++ ("after s|giving ta|sent ta|setattr xv|seti1 tva|seti2 vv|unpack tVa|forget|body xn|init v|" : Str) ++ ("genbody axnx|begin ta|want x|print vV|gather1 x|gather xvV|default v" : Str)
/-- rows made so far -/
def RowsAt (H : Hp) (rs : List Addr) (tab : Tab) : Prop := rs.length = tab.length ∧ ∀ (i : Nat) (r : Addr), rs[i]? = some r → ∃ kd ls, tab[i]? = some (kd, ls) ∧ H r = some (.lst [.str kd, .str (S ls)])
theorem RowsAt.nil {H : Hp} : RowsAt H [] [] := ⟨rfl, fun i r h => by simp at h⟩
theorem RowsAt.app {H : Hp} {rs : List Addr} {tab : Tab} {r : Addr} {kd z : Str} {ls : List Nat} (h : RowsAt H rs tab) (hr : H r = none) (hz : z = S ls) : RowsAt (upd H r (.lst [.str kd, .str z])) (rs ++ [r]) (tab ++ [(kd, ls)]) := by
  subst hz
  refine ⟨by simp [h.1], fun i q hq => ?_⟩
  rcases Nat.lt_trichotomy i rs.length with hi | hi | hi
  · rw [List.getElem?_append_left hi] at hq
    obtain ⟨kd', ls', a, b⟩ := h.2 i q hq
    exact ⟨kd', ls', by rw [List.getElem?_append_left (by rw [← h.1]; exact hi)]; exact a, by rw [upd_ne (ne_of_none b hr)]; exact b⟩
  · subst hi
    rw [List.getElem?_append_right (Nat.le_refl _), Nat.sub_self] at hq
    cases hq
    exact ⟨kd, ls, by rw [h.1, List.getElem?_append_right (Nat.le_refl _), Nat.sub_self]; rfl, upd_same⟩
  · have := (List.getElem?_eq_some_iff.mp hq).1
    simp at this
    omega
theorem RowsAt.mono {H H' : Hp} {rs : List Addr} {tab : Tab} (h : RowsAt H rs tab) (e : Same H H') : RowsAt H' rs tab := ⟨h.1, fun i r hr => let ⟨kd, ls, a, b⟩ := h.2 i r hr; ⟨kd, ls, a, e _ _ b⟩⟩
theorem RowsAt.tab {H : Hp} {rs : List Addr} {tab : Tab} {tl : Addr} (h : RowsAt H rs tab) (ht : H tl = none) : TabAt (upd H tl (.lst (rs.map V.ref))) tl tab := ⟨rs, upd_same, h.1, (h.mono (Same.new ht)).2⟩
def spTab (tab : Tab) : Sp := fun vs H Q _ => vs = [] ∧ ∀ tl H', Same H H' → TabAt H' tl tab → Q (.ref tl) H'
theorem ok_objects {f : Addr} {fd : FuncData} (F : Fun K "_law_objects" "_law_objects" s_law_objects f fd) (T : Txt K mg) : FnG P w K mg base CX0 1 f fd P_law_objects (spTab obTab) := by
  refine okG0 F sc_law_objects (fun vs H Q E h => ?_) fun cdv A outer s H vs Q E hr hg h => ?_
  · obtain ⟨rfl, _⟩ := h
    rfl
  · obtain ⟨rfl, k⟩ := h
    refine ⟨_, (pss_one (ps_ret (pe_lst (pa_cons (pe_lst (pa_cons pe_str (pa_cons pe_str pa_nil))) (pa_cons (pe_lst (pa_cons pe_str (pa_cons pe_str pa_nil))) (pa_cons (pe_lst (pa_cons pe_str (pa_cons pe_str pa_nil))) (pa_cons (pe_lst (pa_cons pe_str (pa_cons pe_str pa_nil))) (pa_cons (pe_lst (pa_cons pe_str (pa_cons pe_str pa_nil))) (pa_cons (pe_lst (pa_cons pe_str (pa_cons pe_str pa_nil))) (pa_cons (pe_lst (pa_cons pe_str (pa_cons pe_str pa_nil))) (pa_cons (pe_lst (pa_cons pe_str (pa_cons pe_str pa_nil))) (pa_cons (pe_lst (pa_cons pe_str (pa_cons pe_str pa_nil))) (pa_cons (pe_lst (pa_cons pe_str (pa_cons pe_str pa_nil))) pa_nil))))))))))))), ?_⟩
    refine ⟨sz_2, fun r0 h0 => ⟨sz_2, fun r1 h1 => ⟨sz_2, fun r2 h2 => ⟨sz_2, fun r3 h3 => ⟨sz_2, fun r4 h4 => ⟨sz_2, fun r5 h5 => ⟨sz_2, fun r6 h6 => ⟨sz_2, fun r7 h7 => ⟨sz_2, fun r8 h8 => ⟨sz_2, fun r9 h9 => ⟨(show 10 ≤ sizeLine by decide), fun tl htl => ?_⟩⟩⟩⟩⟩⟩⟩⟩⟩⟩⟩
    have R0 := (RowsAt.nil (H := H)).app (kd := "list") (ls := [86]) (z := "V") h0 (by decide +kernel)
    have R1 := R0.app (kd := "tuple") (ls := [86]) (z := "V") h1 (by decide +kernel)
    have R2 := R1.app (kd := "dict") (ls := [87]) (z := "W") h2 (by decide +kernel)
    have R3 := R2.app (kd := "scope") (ls := [88, 116, 116, 98, 116]) (z := "Xttbt") h3 (by decide +kernel)
    have R4 := R3.app (kd := "func") (ls := [120, 116, 88, 116, 116, 97]) (z := "xtXtta") h4 (by decide +kernel)
    have R5 := R4.app (kd := "class") (ls := [120, 98, 88]) (z := "xbX") h5 (by decide +kernel)
    have R6 := R5.app (kd := "inst") (ls := [97, 88]) (z := "aX") h6 (by decide +kernel)
    have R7 := R6.app (kd := "bound") (ls := [118, 118]) (z := "vv") h7 (by decide +kernel)
    have R8 := R7.app (kd := "iter") (ls := [118, 110, 110]) (z := "vnn") h8 (by decide +kernel)
    have R9 := R8.app (kd := "gen") (ls := [120, 120, 70]) (z := "xxF") h9 (by decide +kernel)
    exact k tl _ (((((((((((Same.new (o := .lst [.str "list", .str "V"]) h0).trans (Same.new (o := .lst [.str "tuple", .str "V"]) h1)).trans (Same.new (o := .lst [.str "dict", .str "W"]) h2)).trans (Same.new (o := .lst [.str "scope", .str "Xttbt"]) h3)).trans (Same.new (o := .lst [.str "func", .str "xtXtta"]) h4)).trans (Same.new (o := .lst [.str "class", .str "xbX"]) h5)).trans (Same.new (o := .lst [.str "inst", .str "aX"]) h6)).trans (Same.new (o := .lst [.str "bound", .str "vv"]) h7)).trans (Same.new (o := .lst [.str "iter", .str "vnn"]) h8)).trans (Same.new (o := .lst [.str "gen", .str "xxF"]) h9)).trans (Same.new htl)) (R9.tab htl)
theorem ok_controls {f : Addr} {fd : FuncData} (F : Fun K "_law_controls" "_law_controls" s_law_controls f fd) (T : Txt K mg) : FnG P w K mg base CX0 1 f fd P_law_controls (spTab coTab) := by
  refine okG0 F sc_law_controls (fun vs H Q E h => ?_) fun cdv A outer s H vs Q E hr hg h => ?_
  · obtain ⟨rfl, _⟩ := h
    rfl
  · obtain ⟨rfl, k⟩ := h
    refine ⟨_, (pss_one (ps_ret (pe_lst (pa_cons (pe_lst (pa_cons pe_str (pa_cons pe_str pa_nil))) (pa_cons (pe_lst (pa_cons pe_str (pa_cons pe_str pa_nil))) (pa_cons (pe_lst (pa_cons pe_str (pa_cons pe_str pa_nil))) (pa_cons (pe_lst (pa_cons pe_str (pa_cons pe_str pa_nil))) (pa_cons (pe_lst (pa_cons pe_str (pa_cons pe_str pa_nil))) (pa_cons (pe_lst (pa_cons pe_str (pa_cons pe_str pa_nil))) (pa_cons (pe_lst (pa_cons pe_str (pa_cons pe_str pa_nil))) (pa_cons (pe_lst (pa_cons pe_str (pa_cons pe_str pa_nil))) (pa_cons (pe_lst (pa_cons pe_str (pa_cons pe_str pa_nil))) (pa_cons (pe_lst (pa_cons pe_str (pa_cons pe_str pa_nil))) pa_nil))))))))))))), ?_⟩
    refine ⟨sz_2, fun r0 h0 => ⟨sz_2, fun r1 h1 => ⟨sz_2, fun r2 h2 => ⟨sz_2, fun r3 h3 => ⟨sz_2, fun r4 h4 => ⟨sz_2, fun r5 h5 => ⟨sz_2, fun r6 h6 => ⟨sz_2, fun r7 h7 => ⟨sz_2, fun r8 h8 => ⟨sz_2, fun r9 h9 => ⟨(show 10 ≤ sizeLine by decide), fun tl htl => ?_⟩⟩⟩⟩⟩⟩⟩⟩⟩⟩⟩
    have R0 := (RowsAt.nil (H := H)).app (kd := "eval") (ls := [116, 97]) (z := "ta") h0 (by decide +kernel)
    have R1 := R0.app (kd := "exec") (ls := [116, 97]) (z := "ta") h1 (by decide +kernel)
    have R2 := R1.app (kd := "store") (ls := [116, 118, 97]) (z := "tva") h2 (by decide +kernel)
    have R3 := R2.app (kd := "call") (ls := [118, 86, 88]) (z := "vVX") h3 (by decide +kernel)
    have R4 := R3.app (kd := "resume") (ls := [97, 120, 118]) (z := "axv") h4 (by decide +kernel)
    have R5 := R4.app (kd := "value") (ls := [118]) (z := "v") h5 (by decide +kernel)
    have R6 := R5.app (kd := "done") (ls := []) (z := "") h6 (by decide +kernel)
    have R7 := R6.app (kd := "leave") (ls := [115]) (z := "s") h7 (by decide +kernel)
    have R8 := R7.app (kd := "give") (ls := [118]) (z := "v") h8 (by decide +kernel)
    have R9 := R8.app (kd := "ask") (ls := [120, 86]) (z := "xV") h9 (by decide +kernel)
    exact k tl _ (((((((((((Same.new (o := .lst [.str "eval", .str "ta"]) h0).trans (Same.new (o := .lst [.str "exec", .str "ta"]) h1)).trans (Same.new (o := .lst [.str "store", .str "tva"]) h2)).trans (Same.new (o := .lst [.str "call", .str "vVX"]) h3)).trans (Same.new (o := .lst [.str "resume", .str "axv"]) h4)).trans (Same.new (o := .lst [.str "value", .str "v"]) h5)).trans (Same.new (o := .lst [.str "done", .str ""]) h6)).trans (Same.new (o := .lst [.str "leave", .str "s"]) h7)).trans (Same.new (o := .lst [.str "give", .str "v"]) h8)).trans (Same.new (o := .lst [.str "ask", .str "xV"]) h9)).trans (Same.new htl)) (R9.tab htl)
def frWl : List Str := frWlN.map S
theorem frWd_S : frWd = S (TL.joinL [124] frWlN) := by decide +kernel
theorem fr_split : Txt.split frWd "|" = frWl := by
  rw [frWd_S, show ("|" : Str) = S [124] by decide +kernel, split_S (by simp) (by decide), SX.spl_join (c := 124) (sep := []) (by decide) (by decide)]
  rfl
theorem fr_words : (List.zip frWl frTab).all (fun t => KWd.fin (KWd.scan t.1) == (if t.2.2 = [] then [t.2.1] else [t.2.1, S t.2.2])) = true := by decide +kernel
theorem fr_len : frWl.length = 60 ∧ frTab.length = 60 := by decide +kernel
theorem fr_word {i : Nat} {w : Str} (h : frWl[i]? = some w) : ∃ kd ls, frTab[i]? = some (kd, ls) ∧ Txt.words w = (if ls = [] then [kd] else [kd, S ls]) := by
  have hi := (List.getElem?_eq_some_iff.mp h).1
  rw [fr_len.1] at hi
  have hj : frTab[i]? = some (frTab[i]'(by rw [fr_len.2]; exact hi)) := List.getElem?_eq_getElem _
  generalize frTab[i]'_ = t at hj
  refine ⟨t.1, t.2, hj, ?_⟩
  have hz : (w, t) ∈ List.zip frWl frTab := by
    refine List.mem_of_getElem? (i := i) ?_
    rw [List.getElem?_zip_eq_some]
    exact ⟨h, hj⟩
  rw [KWd.words_scan]
  exact eq_of_beq (List.all_eq_true.mp fr_words _ hz)
theorem fr_wlN : ∀ l ∈ frWlN, l.length ≤ 1000 := by decide
theorem fr_wlen : ∀ z ∈ frWl, z.length ≤ 1000 := fun z hz => by
  obtain ⟨l, hl, rfl⟩ := List.mem_map.mp hz
  rw [S_len]; exact fr_wlN l hl
theorem frWd_len : frWd.length ≤ 1000 := by decide +kernel
--SPLIT
theorem ok_frames {f : Addr} {fd : FuncData} (F : Fun K "_law_frames" "_law_frames" s_law_frames f fd) (T : Txt K mg) : FnG P w K mg base CX0 1 f fd P_law_frames (spTab frTab) := by
  refine okG0 F sc_law_frames (fun vs H Q E h => ?_) fun cdv A outer s H vs Q E hr hg h => ?_
  · obtain ⟨rfl, _⟩ := h
    rfl
  · obtain ⟨rfl, k⟩ := h
    refine ⟨_, (pss_cons (ps_set (i := 0) sc_law_frames.nd rfl (Or.inl rfl) pe_str)
  (pss_cons (ps_set (i := 0) sc_law_frames.nd rfl (Or.inl rfl) (pe_op op_add_str (pv 0) pe_str))
  (pss_cons (ps_set (i := 0) sc_law_frames.nd rfl (Or.inl rfl) (pe_op op_add_str (pv 0) pe_str))
  (pss_cons (ps_set (i := 0) sc_law_frames.nd rfl (Or.inl rfl) (pe_op op_add_str (pv 0) pe_str))
  (pss_cons (ps_set (i := 0) sc_law_frames.nd rfl (Or.inl rfl) (pe_op op_add_str (pv 0) pe_str))
  (pss_cons (ps_set (i := 0) sc_law_frames.nd rfl (Or.inl rfl) (pe_op op_add_str (pv 0) pe_str))
  (pss_cons (ps_set (i := 1) sc_law_frames.nd rfl (Or.inl rfl) (pe_lst pa_nil))
  (pss_cons (ps_for PassesOwn.never rfl (pi_list (pe_bm PySem.F.plainAttrs_str PySem.F.slot_str_split PySem.F.type_str_split mt_split (pv 0) (pa_cons pe_str pa_nil))) (pg_name (i := 2) sc_law_frames.nd rfl (Or.inl rfl))
   (pss_cons (ps_set (i := 3) sc_law_frames.nd rfl (Or.inl rfl) (pe_bm0 PySem.F.plainAttrs_str PySem.F.slot_str_split PySem.F.type_str_split mt_split0 (pv 2)))
  (pss_one (ps_if (pt_cmpR op_eq (pe_callB call_len (by rfl) T.b_len PySem.boot_len (pa_cons (pv 3) pa_nil)) pe_int (nomark _))
   (pss_one (ps_expr (pe_bm PySem.F.plainAttrs_list PySem.F.slot_list_append PySem.F.type_list_append mt_append (pv 1) (pa_cons (pe_lst (pa_cons (pe_ix ix_list (pv 3) pe_int (fun _ _ => rfl)) (pa_cons pe_str pa_nil))) pa_nil))))
   (pss_one (ps_expr (pe_bm PySem.F.plainAttrs_list PySem.F.slot_list_append PySem.F.type_list_append mt_append (pv 1) (pa_cons (pe_lst (pa_cons (pe_ix ix_list (pv 3) pe_int (fun _ _ => rfl)) (pa_cons (pe_ix ix_list (pv 3) pe_int (fun _ _ => rfl)) pa_nil))) pa_nil))))))))
  (pss_one (ps_ret (pv 1))))))))))), ?_⟩
    refine ⟨_, rfl, _, _, rfl, rfl, by decide +kernel, _, rfl, _, _, rfl, rfl, by decide +kernel, _, rfl, _, _, rfl, rfl, by decide +kernel, _, rfl, _, _, rfl, rfl, by decide +kernel, _, rfl, _, _, rfl, rfl, by decide +kernel, ?_⟩
    refine ⟨sz_0, fun rl hrl => ?_⟩
    have S0 := Same.new (o := .lst []) hrl
    refine ⟨_, rfl, rfl, _, _, rfl, rfl, by decide +kernel, Nat.le_trans (Nat.add_le_add_right frWd_len 2) (by decide), fun lp hlp => ?_⟩
    rw [show (("neg|not|bin1 xta|bin2 xv|and ta|or ta|choice tta|cmp1 ta|cmp2 vxta|cmp3 vta|attr x|item1 ta|item2 v|" : Str) ++ ("part1 tta|part2 vta|part3 vv|items xVta|dict1 Wtta|dict2 Wvta|call1 tta|args vVtXta|rest ta|drop|" : Str) ++ ("put ta|del1 ta|del2 v|ret|throw|if tta|while1 ttan|while2 ttan|for1 ttan|for2 ttan|for3 vttan|" : Str) ++ ("for4 vttan|for5 vttan|def xtttXta|class1 xtta|class2 xbaa|catch ta|match vta|handling v|final ta|" : Str) ++ ("after s|giving ta|sent ta|setattr xv|seti1 tva|seti2 vv|unpack tVa|forget|body xn|init v|" : Str) ++ ("genbody axnx|begin ta|want x|print vV|gather1 x|gather xvV|default v" : Str) : Str) = frWd from rfl, fr_split]
    have S1 := Same.new (o := .lst (frWl.map V.str)) hlp
    have nrl : lp ≠ rl := fun e => by subst e; rw [upd_same] at hlp; cases hlp
    refine ⟨lp, rfl, ⟨_, SqL.of upd_same⟩, ?_⟩
    refine for_list (xs := frWl.map V.str) (fun i σ H5 => ∃ (rs : List Addr) (x2 x3 : Option V), σ = [some (.str frWd), some (.ref rl), x2, x3] ∧ H5 rl = some (.lst (rs.map V.ref)) ∧ RowsAt H5 rs (frTab.take i) ∧ H5 lp = some (.lst (frWl.map V.str)) ∧ Same H H5) ⟨[], none, none, rfl, S1 _ _ upd_same, RowsAt.nil, upd_same, S0.trans S1⟩ ?_ ?_ ?_
    · rintro i σ H5 hi ⟨rs, x2, x3, rfl, e5, R5, l5, S5⟩
      exact SqL.of l5
    · rintro i y σ H5 hy ⟨rs, x2, x3, rfl, e5, R5, l5, S5⟩
      rw [List.getElem?_map] at hy
      obtain ⟨w', hw, rfl⟩ := Option.map_eq_some_iff.mp hy
      obtain ⟨kd, ls, ht, hws⟩ := fr_word hw
      have hi : i < 60 := by rw [← fr_len.1]; exact (List.getElem?_eq_some_iff.mp hw).1
      have hrs : rs.length ≤ 60 := by rw [R5.1, List.length_take]; omega
      have hwl : w'.length ≤ 1000 := fr_wlen _ (List.mem_of_getElem? hw)
      have htk : frTab.take (i + 1) = frTab.take i ++ [(kd, ls)] := by rw [List.take_succ, ht]; rfl
      refine ⟨_, rfl, rfl, _, rfl, rfl, Nat.le_trans (Nat.add_le_add_right hwl 2) (by decide), fun q hq => ?_⟩
      rw [hws]
      have nqr : rl ≠ q := ne_of_none e5 hq
      have fin : ∀ (H6 : Hp) (r : Addr), Same H5 H6 → H6 r = none → ∃ (rs' : List Addr) (x2 x3 : Option V), ([some (.str frWd), some (.ref rl), some (.str w'), some (.ref q)] : L2.St) = [some (.str frWd), some (.ref rl), x2, x3] ∧ upd (upd H6 r (.lst [.str kd, .str (S ls)])) rl (.lst (rs.map V.ref ++ [.ref r])) rl = some (.lst (rs'.map V.ref)) ∧ RowsAt (upd (upd H6 r (.lst [.str kd, .str (S ls)])) rl (.lst (rs.map V.ref ++ [.ref r]))) rs' (frTab.take (i + 1)) ∧
          upd (upd H6 r (.lst [.str kd, .str (S ls)])) rl (.lst (rs.map V.ref ++ [.ref r])) lp = some (.lst (frWl.map V.str)) ∧ Same H (upd (upd H6 r (.lst [.str kd, .str (S ls)])) rl (.lst (rs.map V.ref ++ [.ref r]))) := fun H6 r S6 hr => by
        have R7 := (R5.mono S6).app (kd := kd) (ls := ls) (z := S ls) hr rfl
        have S7 := Same.new (o := .lst [.str kd, .str (S ls)]) hr
        rw [← htk] at R7
        refine ⟨rs ++ [r], _, _, rfl, by rw [upd_same, List.map_append]; rfl, ⟨R7.1, fun j z hz => ?_⟩, by rw [upd_ne nrl]; exact S7 _ _ (S6 _ _ l5), fun b o hb => ?_⟩
        · obtain ⟨kd', ls', a, b⟩ := R7.2 j z hz
          refine ⟨kd', ls', a, ?_⟩
          have hzr : z ≠ rl := fun e => by
            subst e
            rw [S7 _ _ (S6 _ _ e5)] at b
            have e := HO.lst.inj (Option.some.inj b)
            match rs, e with
            | [_, _], e => cases (List.cons.inj e).1
          rw [upd_ne hzr]; exact b
        · rw [upd_ne (ne_of_none hb hrl)]; exact S7 _ _ (S6 _ _ (S5 _ _ hb))
      by_cases h0 : ls = []
      · subst h0
        rw [if_pos rfl]
        have Sq := Same.new (o := .lst ([kd].map V.str)) hq
        refine ⟨_, rfl, _, _, rfl, .inl ⟨_, SqL.of upd_same, rfl⟩, rfl, _, rfl, iteTb (decide_eq_true rfl) ?_⟩
        refine ⟨_, rfl, .inl ⟨rfl, _, SqL.of (Sq _ _ e5)⟩, _, rfl, q, _, _, _, rfl, rfl, SqL.of upd_same, at0, sz_2, fun r hr => ⟨rl, _, _, rfl, rfl, Same.new hr _ _ (Sq _ _ e5), by rw [List.length_map]; exact Nat.lt_of_le_of_lt hrs (by decide), ?_⟩⟩
        exact fin _ r Sq hr
      · rw [if_neg h0]
        have Sq := Same.new (o := .lst ([kd, S ls].map V.str)) hq
        refine ⟨_, rfl, _, _, rfl, .inl ⟨_, SqL.of upd_same, rfl⟩, rfl, _, rfl, iteFb (decide_eq_false fun e => by cases e) ?_⟩
        refine ⟨_, rfl, .inl ⟨rfl, _, SqL.of (Sq _ _ e5)⟩, _, rfl, q, _, _, _, rfl, rfl, SqL.of upd_same, at0, _, rfl, q, _, _, _, rfl, rfl, SqL.of upd_same, at1, sz_2, fun r hr => ⟨rl, _, _, rfl, rfl, Same.new hr _ _ (Sq _ _ e5), by rw [List.length_map]; exact Nat.lt_of_le_of_lt hrs (by decide), ?_⟩⟩
        exact fin _ r Sq hr
    · rintro σ H5 ⟨rs, x2, x3, rfl, e5, R5, l5, S5⟩
      have e60 : frTab.take (frWl.map V.str).length = frTab := by rw [List.length_map, fr_len.1, ← fr_len.2, List.take_length]
      rw [e60] at R5
      exact ⟨_, rfl, k rl H5 S5 ⟨rs, e5, R5.1, R5.2⟩⟩

end

section
--SPLIT
end
section
variable {P : Program} {w : World} {K : PySem.W.Frag} {mg : Str → Option Value} {base : Heap}
/-! fields that hold frames -/
theorem FnG.up {CX : CXT} {j k : Nat} {f : Addr} {fd : FuncData} {ps : List Str} {sp : Sp} (F : FnG P w K mg base CX j f fd ps sp) (h : j ≤ k) : FnG P w K mg base CX k f fd ps sp where
  len := F.len
  run := fun A outer s H args us vs Q E hr hg he hb hv hs => F.run A outer s H args us vs Q E (hr.mono h) hg he hb hv hs
structure Fr where
  kd : Str
  fs : List Fld
inductive Fl2
  | one (x : Fld) | fr (l : List Fr)
def frD (f : Fr) : PyData := .tuple (.str f.kd :: f.fs.map fldD)
def fl2D : Fl2 → PyData
  | .one x => fldD x
  | .fr l => .tuple (l.map frD)
def ltr2 : Fl2 → Nat
  | .one x => ltr x
  | .fr _ => 70
def FrSm (m : Nat) (f : Fr) : Prop := (f.kd, f.fs.map ltr) ∈ frTab ∧ ∀ x ∈ f.fs, FldSm m x
def Fl2Sm (m : Nat) : Fl2 → Prop
  | .one x => FldSm m x
  | .fr l => l.length ≤ 2 ∧ ∀ f ∈ l, FrSm m f
def spField (K : PySem.W.Frag) : Sp := fun vs H Q _ => ∃ (p dl : Addr) (c m : Nat), vs = [.ref p, .str (S [c]), .int (m : Int)] ∧ c ∈ 70 :: flds ∧ 0 < m ∧ m ≤ 10 ^ 6 ∧ BoxAt H p dl ∧ ∀ v (x : Fl2) H', Dt K H' v (fl2D x) → ltr2 x = c → Fl2Sm m x → BoxAt H' p dl → Keep p H H' → Q v H'
def spFieldF (K : PySem.W.Frag) : Sp := fun vs H Q _ => ∃ (p dl : Addr) (m : Nat), vs = [.ref p, .str (S [70]), .int (m : Int)] ∧ 0 < m ∧ m ≤ 10 ^ 6 ∧ BoxAt H p dl ∧ ∀ v (l : List Fr) H', Dt K H' v (.tuple (l.map frD)) → Fl2Sm m (.fr l) → BoxAt H' p dl → Keep p H H' → Q v H'
theorem frTab_ok : TabOk flds frTab := by unfold TabOk; decide +kernel
theorem frTab_len : frTab.length ≤ 100 := by rw [fr_len.2]; decide
theorem frTab_ne : frTab ≠ [] := fun e => by have := fr_len.2; rw [e] at this; cases this
theorem ok_fieldF {f : Addr} {fd : FuncData} (F : Fun K "_law_field" "_law_field" s_law_field f fd) (T : Txt K mg) (U_law_draw : Use P w K mg base CX0 "_law_draw" 1 P_law_draw (spDraw K)) (U_law_value : Use P w K mg base CX0 "_law_value" 3 P_law_value (spLVal K)) (U_law_name : Use P w K mg base CX0 "_law_name" 2 P_law_name (spName K))
    (U_law_number : Use P w K mg base CX0 "_law_number" 2 P_law_number (spNumb K)) (U_law_tree : Use P w K mg base CX0 "_law_tree" (2 + 4) P_law_tree (spTreeR K 4)) (U_law_frames : Use P w K mg base CX0 "_law_frames" 1 P_law_frames (spTab frTab)) (U_law_shape : Use P w K mg base CX0 "_law_shape" 9 P_law_shape (spShape K)) : FnG P w K mg base CX0 10 f fd P_law_field (spFieldF K) := by
  refine okG0 F sc_law_field (fun vs H Q E h => ?_) fun cdv A outer s H vs Q E hr hg h => ?_
  · obtain ⟨p, dl, m, rfl, _⟩ := h
    rfl
  · obtain ⟨p, dl, m, rfl, hm0, hm, B, k⟩ := h
    refine ⟨_, (pss_cons (ps_if (pt_cmpR op_eq (pv 1) pe_str (nomark _))
   (pss_one (ps_ret (pe_use U_law_value (hr.mono (by decide)) hg rfl (pa_cons (pv 0) (pa_cons (pv 2) pa_nil)))))
   pss_nil)
  (pss_cons (ps_if (pt_cmpR op_eq (pv 1) pe_str (nomark _))
   (pss_cons (ps_set (i := 3) sc_law_field.nd rfl (Or.inl rfl) (pe_use U_law_draw (hr.mono (by decide)) hg rfl (pa_cons (pv 0) (pa_cons pe_int pa_nil))))
  (pss_one (ps_ret (pe_callTy call_tuple_of (by rfl) T.b_tuple (by decide +kernel) (pa_cons (pe_lc (own := [("k", 4)]) (g := (gName 4)) rfl sc_law_field.nd (pi_range1 (by rfl) T.b_range (pa_cons (pv 3) pa_nil)) (blkOk_by (N := N_law_field) (sc := defScope s_law_field) (by decide +kernel)) (fun _ _ _ _ _ => (pg_name (i := 4) sc_law_field.nd rfl (Or.inl rfl))) (fun _ _ _ _ _ => pts_nil) (fun _ _ _ _ _ => (pe_use U_law_value (hr.mono (by decide)) hg rfl (pa_cons (pv 0) (pa_cons (pv 2) pa_nil))))) pa_nil)))))
   pss_nil)
  (pss_cons (ps_if (pt_cmpR op_eq (pv 1) pe_str (nomark _))
   (pss_cons (ps_set (i := 3) sc_law_field.nd rfl (Or.inl rfl) (pe_use U_law_draw (hr.mono (by decide)) hg rfl (pa_cons (pv 0) (pa_cons pe_int pa_nil))))
  (pss_one (ps_ret (pe_callTy call_tuple_of (by rfl) T.b_tuple (by decide +kernel) (pa_cons (pe_lc (own := [("k", 4)]) (g := (gName 4)) rfl sc_law_field.nd (pi_range1 (by rfl) T.b_range (pa_cons (pv 3) pa_nil)) (blkOk_by (N := N_law_field) (sc := defScope s_law_field) (by decide +kernel)) (fun _ _ _ _ _ => (pg_name (i := 4) sc_law_field.nd rfl (Or.inl rfl))) (fun _ _ _ _ _ => pts_nil) (fun _ _ _ _ _ => (pe_tup (pa_cons (pe_use U_law_value (hr.mono (by decide)) hg rfl (pa_cons (pv 0) (pa_cons (pv 2) pa_nil))) (pa_cons (pe_use U_law_value (hr.mono (by decide)) hg rfl (pa_cons (pv 0) (pa_cons (pv 2) pa_nil))) pa_nil))))) pa_nil)))))
   pss_nil)
  (pss_cons (ps_if (pt_cmpR op_eq (pv 1) pe_str (nomark _))
   (pss_cons (ps_set (i := 3) sc_law_field.nd rfl (Or.inl rfl) (pe_use U_law_draw (hr.mono (by decide)) hg rfl (pa_cons (pv 0) (pa_cons pe_int pa_nil))))
  (pss_one (ps_ret (pe_callTy call_tuple_of (by rfl) T.b_tuple (by decide +kernel) (pa_cons (pe_lc (own := [("k", 4)]) (g := (gName 4)) rfl sc_law_field.nd (pi_range1 (by rfl) T.b_range (pa_cons (pv 3) pa_nil)) (blkOk_by (N := N_law_field) (sc := defScope s_law_field) (by decide +kernel)) (fun _ _ _ _ _ => (pg_name (i := 4) sc_law_field.nd rfl (Or.inl rfl))) (fun _ _ _ _ _ => pts_nil) (fun _ _ _ _ _ => (pe_tup (pa_cons (pe_use U_law_name (hr.mono (by decide)) hg rfl (pa_cons (pv 0) pa_nil)) (pa_cons (pe_use U_law_value (hr.mono (by decide)) hg rfl (pa_cons (pv 0) (pa_cons (pv 2) pa_nil))) pa_nil))))) pa_nil)))))
   pss_nil)
  (pss_cons (ps_if (pt_cmpR op_eq (pv 1) pe_str (nomark _))
   (pss_one (ps_ret (pe_use U_law_tree (hr.mono (by decide)) hg rfl (pa_cons (pv 0) (pa_cons pe_int pa_nil)))))
   pss_nil)
  (pss_cons (ps_if (pt_cmpR op_eq (pv 1) pe_str (nomark _))
   (pss_one (ps_ret (pe_op op_mod (pe_callTy call_int1 (by rfl) T.b_int (by decide +kernel) (pa_cons (pe_op op_add (pe_op op_mul (pe_use U_law_draw (hr.mono (by decide)) hg rfl (pa_cons (pv 0) (pa_cons pe_int pa_nil))) pe_int) (pe_use U_law_draw (hr.mono (by decide)) hg rfl (pa_cons (pv 0) (pa_cons pe_int pa_nil)))) pa_nil)) (pv 2))))
   pss_nil)
  (pss_cons (ps_if (pt_cmpR op_eq (pv 1) pe_str (nomark _))
   (pss_one (ps_ret (pe_op op_sub (pe_op op_mod (pe_callTy call_int1 (by rfl) T.b_int (by decide +kernel) (pa_cons (pe_op op_add (pe_op op_mul (pe_use U_law_draw (hr.mono (by decide)) hg rfl (pa_cons (pv 0) (pa_cons pe_int pa_nil))) pe_int) (pe_use U_law_draw (hr.mono (by decide)) hg rfl (pa_cons (pv 0) (pa_cons pe_int pa_nil)))) pa_nil)) (pe_op op_add (pv 2) pe_int)) pe_int)))
   pss_nil)
  (pss_cons (ps_if (pt_cmpR op_eq (pv 1) pe_str (nomark _))
   (pss_one (ps_ret (pe_use U_law_number (hr.mono (by decide)) hg rfl (pa_cons (pv 0) pa_nil))))
   pss_nil)
  (pss_cons (ps_if (pt_cmpR op_eq (pv 1) pe_str (nomark _))
   (pss_one (ps_ret (pe_use U_law_name (hr.mono (by decide)) hg rfl (pa_cons (pv 0) pa_nil))))
   pss_nil)
  (pss_cons (ps_if (pt_cmpR op_eq (pv 1) pe_str (nomark _))
   (pss_cons (ps_set (i := 5) sc_law_field.nd rfl (Or.inl rfl) (pe_use U_law_draw (hr.mono (by decide)) hg rfl (pa_cons (pv 0) (pa_cons pe_int pa_nil))))
  (pss_cons (ps_if (pt_cmpR op_lt (pv 5) pe_int (nomark _))
   (pss_one (ps_ret (pe_ix ix_list (pe_lst (pa_cons (pe_tup pa_nil) (pa_cons (pe_tup (pa_cons pe_str pa_nil)) (pa_cons (pe_tup (pa_cons pe_str pa_nil)) pa_nil)))) (pv 5) (fun _ _ => rfl))))
   pss_nil)
  (pss_one (ps_ret (pe_tup (pa_cons (pe_ix ix_list (pe_lst (pa_cons pe_str (pa_cons pe_str pa_nil))) (pe_op op_sub (pv 5) pe_int) (fun _ _ => rfl)) (pa_cons (pe_use U_law_value (hr.mono (by decide)) hg rfl (pa_cons (pv 0) (pa_cons (pv 2) pa_nil))) pa_nil)))))))
   pss_nil)
  (pss_cons (ps_set (i := 3) sc_law_field.nd rfl (Or.inl rfl) (pe_use U_law_draw (hr.mono (by decide)) hg rfl (pa_cons (pv 0) (pa_cons pe_int pa_nil))))
  (pss_one (ps_ret (pe_callTy call_tuple_of (by rfl) T.b_tuple (by decide +kernel) (pa_cons (pe_lc (own := [("k", 4)]) (g := (gName 4)) rfl sc_law_field.nd (pi_range1 (by rfl) T.b_range (pa_cons (pv 3) pa_nil)) (blkOk_by (N := N_law_field) (sc := defScope s_law_field) (by decide +kernel)) (fun _ _ _ _ _ => (pg_name (i := 4) sc_law_field.nd rfl (Or.inl rfl))) (fun _ _ _ _ _ => pts_nil) (fun _ _ _ _ _ => (pe_use U_law_shape (hr.mono (by decide)) hg rfl (pa_cons (pv 0) (pa_cons (pe_use0 U_law_frames (hr.mono (by decide)) hg rfl) (pa_cons (pv 2) pa_nil)))))) pa_nil))))))))))))))), ?_⟩
    refine ⟨_, rfl, rfl, _, rfl, iteFb (by decide +kernel) ?_⟩
    refine ⟨_, rfl, rfl, _, rfl, iteFb (by decide +kernel) ?_⟩
    refine ⟨_, rfl, rfl, _, rfl, iteFb (by decide +kernel) ?_⟩
    refine ⟨_, rfl, rfl, _, rfl, iteFb (by decide +kernel) ?_⟩
    refine ⟨_, rfl, rfl, _, rfl, iteFb (by decide +kernel) ?_⟩
    refine ⟨_, rfl, rfl, _, rfl, iteFb (by decide +kernel) ?_⟩
    refine ⟨_, rfl, rfl, _, rfl, iteFb (by decide +kernel) ?_⟩
    refine ⟨_, rfl, rfl, _, rfl, iteFb (by decide +kernel) ?_⟩
    refine ⟨_, rfl, rfl, _, rfl, iteFb (by decide +kernel) ?_⟩
    refine ⟨_, rfl, rfl, _, rfl, iteFb (by decide +kernel) ?_⟩
    refine ⟨_, rfl, p, dl, 3, rfl, B, by decide, fun n H1 n0 n1 B1 K1 => ?_⟩
    obtain ⟨n, rfl⟩ := Int.eq_ofNat_of_zero_le n0
    refine ⟨_, rfl, n, rfl, by omega, by omega, fun D hD => ?_⟩
    rw [Int.toNat_natCast]
    refine lc_it (walk_range (lo := 0) (n := n)) (fun i H' => Acc K H1 D p dl (fun d => ∃ x, d = frD x ∧ FrSm m x) i H') (Acc.start hD B1) (fun _ _ _ _ => trivial) ?_ ?_
    · rintro i x H5 H6 hi A ⟨rfl, rfl⟩
      refine ⟨rfl, tYes_of ?_⟩
      obtain ⟨_, _, _, _, _, _, B5, _⟩ := id A
      refine ⟨_, rfl, rfl, fun tl H7 S7 T7 => ⟨_, rfl, p, dl, tl, frTab, m, rfl, T7, frTab_ne, frTab_len, frTab_ok, hm0, hm, B5.same S7, fun v kd fs H8 hmem dv hfs B8 K8 => ?_⟩⟩
      exact A.put (by omega) hD B1 B8 ((Same.keep S7).trans K8) dv ⟨⟨kd, fs⟩, rfl, hmem, hfs⟩
    · rintro H5 ⟨acc, ds, e5, a5, hl5, hp5, B5, K5⟩
      obtain ⟨xs, rfl, hxs⟩ := ex_map hp5
      rw [List.length_map] at hl5
      refine ⟨D, _, rfl, .inl ⟨SqL.of e5, fun t ht => ?_⟩⟩
      exact k _ xs _ (Dt.made ht a5) ⟨by omega, hxs⟩ (B5.same (Same.new ht)) ((K1.trans K5).trans (Same.keep (Same.new ht)))
theorem ok_field {f : Addr} {fd : FuncData} (F : Fun K "_law_field" "_law_field" s_law_field f fd) (T : Txt K mg) (U_law_draw : Use P w K mg base CX0 "_law_draw" 1 P_law_draw (spDraw K)) (U_law_value : Use P w K mg base CX0 "_law_value" 3 P_law_value (spLVal K)) (U_law_name : Use P w K mg base CX0 "_law_name" 2 P_law_name (spName K))
    (U_law_number : Use P w K mg base CX0 "_law_number" 2 P_law_number (spNumb K)) (U_law_tree : Use P w K mg base CX0 "_law_tree" (2 + 4) P_law_tree (spTreeR K 4)) (U_law_frames : Use P w K mg base CX0 "_law_frames" 1 P_law_frames (spTab frTab)) (U_law_shape : Use P w K mg base CX0 "_law_shape" 9 P_law_shape (spShape K)) : FnG P w K mg base CX0 10 f fd P_law_field (spField K) :=
  ((FnG.up (ok_field0 F T U_law_draw U_law_value U_law_name U_law_number U_law_tree) (by decide)).or (ok_fieldF F T U_law_draw U_law_value U_law_name U_law_number U_law_tree U_law_frames U_law_shape)).imp fun vs H Q E h => by
    obtain ⟨p, dl, c, m, rfl, hc, hm0, hm, B, k⟩ := h
    rcases List.mem_cons.mp hc with rfl | hc
    · exact .inr ⟨p, dl, m, rfl, hm0, hm, B, fun v l H' dv hl B' K' => k v (.fr l) H' dv rfl hl B' K'⟩
    · exact .inl ⟨p, dl, c, m, rfl, hc, hm0, hm, B, fun v x H' dv hl hx B' K' => k v (.one x) H' dv hl hx B' K'⟩
def spShapeOf (K : PySem.W.Frag) : Sp := fun vs H Q _ => ∃ (p dl r : Addr) (kd : Str) (ls : List Nat) (m : Nat), vs = [.ref p, .ref r, .int (m : Int)] ∧ H r = some (.lst [.str kd, .str (S ls)]) ∧ (∀ c ∈ ls, c ∈ 70 :: flds) ∧ ls.length ≤ 10 ∧ 0 < m ∧ m ≤ 10 ^ 6 ∧ BoxAt H p dl ∧
  ∀ v (fs : List Fl2) H', Dt K H' v (.tuple (.str kd :: fs.map fl2D)) → fs.map ltr2 = ls → (∀ f ∈ fs, Fl2Sm m f) → BoxAt H' p dl → Keep p H H' → Q v H'
theorem ok_shapeof {f : Addr} {fd : FuncData} (F : Fun K "_law_shape_of" "_law_shape_of" s_law_shape_of f fd) (T : Txt K mg) (U_law_field : Use P w K mg base CX0 "_law_field" 10 P_law_field (spField K)) : FnG P w K mg base CX0 11 f fd P_law_shape_of (spShapeOf K) := by
  refine okG0 F sc_law_shape_of (fun vs H Q E h => ?_) fun cdv A outer s H vs Q E hr hg h => ?_
  · obtain ⟨p, dl, r, kd, ls, m, rfl, _⟩ := h
    rfl
  · obtain ⟨p, dl, r, kd, ls, m, rfl, er, hls, hll, hm0, hm, B, k⟩ := h
    refine ⟨_, (pss_cons (ps_set (i := 3) sc_law_shape_of.nd rfl (Or.inl rfl) (pe_tup (pa_cons (pe_ix ix_list (pv 1) pe_int (fun _ _ => rfl)) pa_nil)))
  (pss_cons (ps_for PassesOwn.never rfl (pi_str (pe_ix ix_list (pv 1) pe_int (fun _ _ => rfl))) (pg_name (i := 4) sc_law_shape_of.nd rfl (Or.inl rfl))
   (pss_one (ps_set (i := 3) sc_law_shape_of.nd rfl (Or.inl rfl) (pe_op op_catA (pv 3) (pe_tup (pa_cons (pe_use U_law_field (hr.mono (by decide)) hg rfl (pa_cons (pv 0) (pa_cons (pv 4) (pa_cons (pv 2) pa_nil)))) pa_nil))))))
  (pss_one (ps_ret (pv 3))))), ?_⟩
    have hrp := row_ne B er
    refine ⟨_, rfl, r, _, _, _, rfl, rfl, SqL.of er, at0, sz_1, fun u0 hu0 => ?_⟩
    have S0 := Same.new (o := .tup [.str kd]) hu0
    refine ⟨_, rfl, r, _, _, _, rfl, rfl, SqL.of (S0 _ _ er), at1, _, rfl, ?_⟩
    refine for_it walk_str (fun i σ H5 => ∃ (u : Addr) (fs : List Fl2) (x4 : Option V), σ = [some (.ref p), some (.ref r), some (.int m), some (.ref u), x4] ∧ Dt K H5 (.ref u) (.tuple (.str kd :: fs.map fl2D)) ∧ fs.map ltr2 = ls.take i ∧ (∀ f ∈ fs, Fl2Sm m f) ∧ BoxAt H5 p dl ∧ Keep p H H5) ⟨u0, [], none, rfl, Dt.made hu0 (.cons (.str _) .nil), rfl, by simp, B.same S0, Same.keep S0⟩ (fun _ _ _ _ _ => trivial) ?_ ?_
    · rintro i x σ H5 H6 hi ⟨u, fs, x4, rfl, du, hf, hfs, B5, K5⟩ ⟨rfl, c, hc, rfl⟩
      have hc' : ls[i]? = some c := by simpa [S] using hc
      refine ⟨_, rfl, _, rfl, _, rfl, _, rfl, p, dl, c, m, rfl, hls c (List.mem_of_getElem? hc'), hm0, hm, B5, fun v x H7 dv hl hx B7 K7 => ⟨sz_1, fun t ht => ?_⟩⟩
      obtain ⟨_, xs, eu, hs, ha⟩ := du.tuple_inv
      cases eu
      have hxn : xs ≠ [] := by
        obtain ⟨_, _, rfl, _, _⟩ := ha.cons_inv
        simp
      have hxl := ha.length
      have hfl : fs.length ≤ 10 := by
        have := congrArg List.length hf
        rw [List.length_map, List.length_take] at this
        omega
      have kT := K7.keepT (K := K) B5.at_
      have S8 := Same.new (o := .tup [v]) ht
      refine ⟨u, t, xs, [v], rfl, rfl, Same.tupl S8 (kT _ _ hs), SqT.of upd_same, Nat.le_trans (show _ ≤ 100 by simp at hxl ⊢; omega) (by decide), fun h => absurd h hxn, (fun _ h => by cases h), fun _ _ q hq => ?_⟩
      have S9 := Same.new (o := .tup (xs ++ [v])) hq
      have dq := Dt.made hq (DtAll.app ((ha.keepT kT).mono S8) (.cons (dv.mono S8) .nil))
      refine ⟨q, fs ++ [x], _, rfl, by rw [List.map_append]; exact dq, ?_, fun f hf' => ?_, (B7.same S8).same S9, (K5.trans K7).trans (Same.keep (S8.trans S9))⟩
      · rw [List.map_append, hf, List.take_succ, hc', List.map_cons, hl]; rfl
      · rcases List.mem_append.mp hf' with h | h
        · exact hfs f h
        · rw [List.mem_singleton.mp h]; exact hx
    · rintro σ H5 ⟨u, fs, x4, rfl, du, hf, hfs, B5, K5⟩
      have hz : (S ls).cps.size = ls.length := by simp [S]
      rw [hz, List.take_length] at hf
      exact ⟨_, rfl, k _ fs _ du hf hfs B5 K5⟩
--SPLIT
end

abbrev s_values : Stmt := top 38
abbrev N_values : List Str := ["letter", "field", "pair", "value", "_"]
abbrev P_values : List Str := ["letter", "field"]
theorem sc_values : FnScope N_values P_values (defScope s_values) := ⟨rfl, rfl, rfl, by decide +kernel, rfl, by decide +kernel, by decide +kernel⟩
abbrev s_references : Stmt := top 39
abbrev N_references : List Str := ["letters", "item", "found", "letter", "field", "frame", "value"]
abbrev P_references : List Str := ["letters", "item"]
theorem sc_references : FnScope N_references P_references (defScope s_references) := ⟨rfl, rfl, rfl, by decide +kernel, rfl, by decide +kernel, by decide +kernel⟩
abbrev s_object_references : Stmt := top 31
abbrev N_object_references : List Str := ["item"]
abbrev P_object_references : List Str := ["item"]
theorem sc_object_references : FnScope N_object_references P_object_references (defScope s_object_references) := ⟨rfl, rfl, rfl, by decide +kernel, rfl, by decide +kernel, by decide +kernel⟩
abbrev s_frame_references : Stmt := top 32
abbrev N_frame_references : List Str := ["frame"]
abbrev P_frame_references : List Str := ["frame"]
theorem sc_frame_references : FnScope N_frame_references P_frame_references (defScope s_frame_references) := ⟨rfl, rfl, rfl, by decide +kernel, rfl, by decide +kernel, by decide +kernel⟩
abbrev s_control_references : Stmt := top 33
abbrev N_control_references : List Str := ["control"]
abbrev P_control_references : List Str := ["control"]
theorem sc_control_references : FnScope N_control_references P_control_references (defScope s_control_references) := ⟨rfl, rfl, rfl, by decide +kernel, rfl, by decide +kernel, by decide +kernel⟩
section
variable {P : Program} {w : World} {K : PySem.W.Frag} {mg : Str → Option Value} {base : Heap}
/-! what a field refers to -/
def valR : Val → List Int
  | .ref n => [(n : Int)]
  | _ => []
def fldVs : Fld → List Val
  | .v x => [x]
  | .V xs => xs
  | .W ps => ps.flatMap fun p => [p.1, p.2]
  | .X ps => ps.map (·.2)
  | .s2 _ x => [x]
  | _ => []
def fldR : Fld → List Int
  | .a k => [(k : Int)]
  | .b k => if 0 ≤ k then [k] else []
  | x => (fldVs x).flatMap valR
theorem tail_no (x : V) (xs : List V) : ¬ HT.sIx (x :: xs).length 0 (some 1) = 0 := by
  show ¬ HT.sIx (x :: xs).length 0 (some ((1 : Nat) : Int)) = 0
  rw [HT.sIx_nat, List.length_cons]; omega
/-- x[1:] of a tuple that is not empty -/
theorem tail_rd {H : Hp} {a : Addr} {x : V} {xs : List V} {Q : VK} (h : SqT K H a (x :: xs)) (q : ∀ p, H p = none → Q (.ref p) (upd H p (.tup xs))) : rSlA K (.ref a) (some 1) none H Q :=
  ⟨a, x :: xs, rfl, h, fun ⟨e, _⟩ => absurd e (by show ¬ HT.sIx (x :: xs).length 0 (some ((1 : Nat) : Int)) = 0; rw [HT.sIx_nat, List.length_cons]; omega), fun _ p hp => by rw [cut_one]; exact q p hp⟩
def spValues (K : PySem.W.Frag) : Sp := fun vs H Q _ => ∃ (v : V) (x : Fld) (c : Nat), vs = [.str (S [c]), v] ∧ ltr x = c ∧ Dt K H v (fldD x) ∧ c ≠ 97 ∧ c ≠ 98 ∧ (fldVs x).length ≤ 100 ∧ ∀ v' H', Same H H' → Dt K H' v' (.tuple ((fldVs x).map valD)) → Q v' H'
/-- the list at D grows by data -/
theorem ld_app {H H2 : Hp} {D : Addr} {acc : List V} {ds : List PyData} {y : V} {d : PyData} (hD : H D = none) (eD : H2 D = some (.lst acc)) (aD : DtAll K H2 acc ds) (dy : Dt K H2 y d) (S1 : Same H H2) :
    upd H2 D (.lst (acc ++ [y])) D = some (.lst (acc ++ [y])) ∧ DtAll K (upd H2 D (.lst (acc ++ [y]))) (acc ++ [y]) (ds ++ [d]) ∧ Same H (upd H2 D (.lst (acc ++ [y]))) :=
  ⟨upd_same, DtAll.app (aD.keepT (KeepT.upd eD)) (.cons (dy.keepT (KeepT.upd eD)) .nil), fun b o hb => by rw [upd_ne (ne_of_none hb hD)]; exact S1 b o hb⟩
theorem Dt.pair0 {H : Hp} {v : V} {z : Str} {d : PyData} (h : Dt K H v (.tuple [.str z, d])) : ∃ a x, v = .ref a ∧ SqT K H a [.str z, x] ∧ Dt K H x d := h.pair
theorem fm_len (ps : List (Val × Val)) : (ps.flatMap fun p => [p.1, p.2]).length = 2 * ps.length := by
  induction ps with
  | nil => rfl
  | cons p r ih => rw [List.flatMap_cons, List.length_append, ih]; simp; omega
theorem ok_values {f : Addr} {fd : FuncData} (F : Fun K "_values" "_values" s_values f fd) (T : Txt K mg) : FnG P w K mg base CX0 1 f fd P_values (spValues K) := by
  refine okG0 F sc_values (fun vs H Q E h => ?_) fun cdv A outer s H vs Q E hr hg h => ?_
  · obtain ⟨v, x, c, rfl, _⟩ := h
    rfl
  · obtain ⟨v, x, c, rfl, hc, dv, n1, n2, hl, k⟩ := h
    refine ⟨_, (pss_cons (ps_if (pt_cmpR op_eq (pv 0) pe_str (nomark _))
   (pss_one (ps_ret (pe_tup (pa_cons (pv 1) pa_nil))))
   pss_nil)
  (pss_cons (ps_if (pt_cmpR op_eq (pv 0) pe_str (nomark _))
   (pss_one (ps_ret (pv 1)))
   pss_nil)
  (pss_cons (ps_if (pt_cmpR op_eq (pv 0) pe_str (nomark _))
   (pss_one (ps_ret (pe_callTy call_tuple_of (by rfl) T.b_tuple (by decide +kernel) (pa_cons (pe_lc2 (own := [("pair", 2), ("value", 3)]) (vs1 := [3]) (g := (gName 2)) (g1 := (gName 3)) rfl sc_values.nd (pi_tup (pv 1)) (blkOk_by (N := N_values) (sc := defScope s_values) (by decide +kernel)) (by decide) (fun _ _ _ _ _ => (pg_name (i := 2) sc_values.nd rfl (Or.inl rfl))) (fun _ _ _ _ _ => pts_nil) (fun _ _ _ _ _ => (pi_tup (pv 2) : PI _ _ _ (iTup K (tVar 2)))) (fun _ _ _ _ _ => (pg_name (i := 3) sc_values.nd rfl (Or.inl rfl))) (fun _ _ _ _ _ => pts_nil) (fun _ _ _ _ _ => (pv 3))) pa_nil))))
   pss_nil)
  (pss_cons (ps_if (pt_cmpR op_eq (pv 0) pe_str (nomark _))
   (pss_one (ps_ret (pe_callTy call_tuple_of (by rfl) T.b_tuple (by decide +kernel) (pa_cons (pe_lc (own := [("_", 4), ("value", 3)]) (g := (gTup K 2 (gCons (gName 4) (gCons (gName 3) gNil)))) rfl sc_values.nd (pi_tup (pv 1)) (blkOk_by (N := N_values) (sc := defScope s_values) (by decide +kernel)) (fun _ _ _ _ _ => (pg_tup (by rfl) (pgs_cons (pg_name (i := 4) sc_values.nd rfl (Or.inl rfl)) (pgs_cons (pg_name (i := 3) sc_values.nd rfl (Or.inl rfl)) pgs_nil)))) (fun _ _ _ _ _ => pts_nil) (fun _ _ _ _ _ => (pv 3))) pa_nil))))
   pss_nil)
  (pss_cons (ps_if (pt_cmpR op_eq (pv 0) pe_str (nomark _))
   (pss_one (ps_ret (pe_slice sl_tupA (pv 1) (po_some pe_int) po_none)))
   pss_nil)
  (pss_one (ps_ret (pe_tup pa_nil)))))))), ?_⟩
    cases x with
    | v x =>
      obtain rfl : 118 = c := hc
      refine ⟨_, rfl, rfl, _, rfl, iteTb (by decide +kernel) ?_⟩
      exact ⟨_, rfl, sz_1, fun u hu => k _ _ (Same.new hu) (Dt.made hu (.cons dv .nil))⟩
    | V xs =>
      obtain rfl : 86 = c := hc
      refine ⟨_, rfl, rfl, _, rfl, iteFb (by decide +kernel) ?_⟩
      refine ⟨_, rfl, rfl, _, rfl, iteTb (by decide +kernel) ?_⟩
      exact ⟨_, rfl, k _ _ (fun _ _ h => h) dv⟩
    | W ps =>
      obtain rfl : 87 = c := hc
      refine ⟨_, rfl, rfl, _, rfl, iteFb (by decide +kernel) ?_⟩
      refine ⟨_, rfl, rfl, _, rfl, iteFb (by decide +kernel) ?_⟩
      refine ⟨_, rfl, rfl, _, rfl, iteTb (by decide +kernel) ?_⟩
      obtain ⟨q, xs, rfl, hq, ha⟩ := dv.tuple_inv
      have hal := ha.length
      rw [List.length_map] at hal
      refine ⟨_, rfl, q, rfl, ⟨_, hq⟩, fun D hD => ?_⟩
      have hps : ps.length ≤ 50 := by
        have hl : (ps.flatMap fun p => [p.1, p.2]).length ≤ 100 := hl
        rw [fm_len] at hl
        omega
      refine walk_gen (walk_tup (xs := xs)) (fun i H' => ∃ acc, H' D = some (.lst acc) ∧ DtAll K H' acc (((ps.take i).flatMap fun p => [p.1, p.2]).map valD) ∧ Same H H') ⟨[], upd_same, .nil, Same.new hD⟩ (fun i H' _ h => let ⟨_, _, _, s⟩ := h; Same.tupl s hq) ?_ ?_
      · rintro i x H1 H2 hi ⟨acc, eD, aD, S1⟩ ⟨rfl, hy⟩
        obtain ⟨d, hd, dx⟩ := ha.getV hy
        rw [List.getElem?_map] at hd
        obtain ⟨p, hp, rfl⟩ := Option.map_eq_some_iff.mp hd
        obtain ⟨q2, ws, rfl, hq2, hw⟩ := dx.tuple_inv
        have hw : DtAll K H ws ([p.1, p.2].map valD) := hw
        have hwl := hw.length
        rw [List.length_map] at hwl
        have hwl : ws.length = 2 := hwl
        have hi2 : i < ps.length := by omega
        have hal2 : acc.length = 2 * i := by
          have := aD.length
          rw [List.length_map, fm_len, List.length_take] at this
          omega
        refine ⟨rfl, tYes_of ?_⟩
        refine ⟨_, rfl, q2, rfl, ⟨_, Same.tupl S1 hq2⟩, ?_⟩
        refine walk_gen (walk_tup (xs := ws)) (fun j H' => ∃ acc, H' D = some (.lst acc) ∧ DtAll K H' acc ((((ps.take i).flatMap fun p => [p.1, p.2]) ++ [p.1, p.2].take j).map valD) ∧ acc.length = 2 * i + j ∧ Same H H') ⟨acc, eD, by rw [List.take_zero, List.append_nil]; exact aD, hal2, S1⟩ (fun j H' _ h => let ⟨_, _, _, _, s⟩ := h; Same.tupl s hq2) ?_ ?_
        · rintro j y H3 H4 hj ⟨acc, eD, aD, hl3, S3⟩ ⟨rfl, hy2⟩
          obtain ⟨d, hd2, dy⟩ := hw.getV hy2
          rw [List.getElem?_map] at hd2
          obtain ⟨x, hx, rfl⟩ := Option.map_eq_some_iff.mp hd2
          obtain ⟨g1, g2, g3⟩ := ld_app hD eD aD (dy.mono S3) S3
          refine ⟨rfl, tYes_of ?_⟩
          refine ⟨_, rfl, acc, eD, Nat.lt_of_le_of_lt (show acc.length ≤ 200 by omega) (by decide), acc ++ [y], g1, ?_, by simp; omega, g3⟩
          rw [List.take_succ, hx, ← List.append_assoc, List.map_append (l₁ := _ ++ _)]
          exact g2
        · rintro H3 ⟨acc, eD, aD, hl3, S3⟩
          refine ⟨acc, eD, ?_, S3⟩
          rw [hwl] at aD
          rw [List.take_succ, hp, List.flatMap_append]
          exact aD
      · rintro H1 ⟨acc, eD, aD, S1⟩
        have hl' : ps.take xs.length = ps := by rw [hal]; exact List.take_length
        rw [hl'] at aD
        refine ⟨D, _, rfl, .inl ⟨SqL.of eD, fun t ht => ?_⟩⟩
        exact k _ _ (S1.trans (Same.new ht)) (Dt.made ht aD)
    | X ps =>
      obtain rfl : 88 = c := hc
      refine ⟨_, rfl, rfl, _, rfl, iteFb (by decide +kernel) ?_⟩
      refine ⟨_, rfl, rfl, _, rfl, iteFb (by decide +kernel) ?_⟩
      refine ⟨_, rfl, rfl, _, rfl, iteFb (by decide +kernel) ?_⟩
      refine ⟨_, rfl, rfl, _, rfl, iteTb (by decide +kernel) ?_⟩
      obtain ⟨q, xs, rfl, hq, ha⟩ := dv.tuple_inv
      have hal := ha.length
      rw [List.length_map] at hal
      have hps : ps.length ≤ 100 := by
        have hl : (ps.map (·.2)).length ≤ 100 := hl
        rwa [List.length_map] at hl
      refine ⟨_, rfl, q, rfl, ⟨_, hq⟩, fun D hD => ?_⟩
      refine lc_it (walk_tup (xs := xs)) (fun i H' => ∃ acc, H' D = some (.lst acc) ∧ DtAll K H' acc (((ps.take i).map (·.2)).map valD) ∧ acc.length = i ∧ Same H H') ⟨[], upd_same, .nil, rfl, Same.new hD⟩ (fun i H' _ h => let ⟨_, _, _, _, s⟩ := h; Same.tupl s hq) ?_ ?_
      · rintro i x H1 H2 hi ⟨acc, eD, aD, hl2, S1⟩ ⟨rfl, hy⟩
        obtain ⟨d, hd, dx⟩ := (DtAll.mono S1 ha).getV hy
        rw [List.getElem?_map] at hd
        obtain ⟨p, hp, rfl⟩ := Option.map_eq_some_iff.mp hd
        obtain ⟨q2, y, rfl, hq2, hyd⟩ := (show Dt K _ x (.tuple [.str (tx p.1), valD p.2]) from dx).pair
        obtain ⟨g1, g2, g3⟩ := ld_app hD eD aD hyd S1
        refine ⟨q2, _, rfl, hq2, rfl, _, _, rfl, _, _, rfl, rfl, rfl, tYes_of ?_⟩
        refine ⟨_, rfl, acc, eD, Nat.lt_of_le_of_lt (show acc.length ≤ 200 by omega) (by decide), acc ++ [y], g1, ?_, by simp [hl2], g3⟩
        rw [List.take_succ, hp, List.map_append, List.map_append]
        exact g2
      · rintro H1 ⟨acc, eD, aD, hl2, S1⟩
        have hl' : ps.take xs.length = ps := by rw [hal]; exact List.take_length
        rw [hl'] at aD
        refine ⟨D, _, rfl, .inl ⟨SqL.of eD, fun t ht => ?_⟩⟩
        exact k _ _ (S1.trans (Same.new ht)) (Dt.made ht aD)
    | s2 z x =>
      obtain rfl : 115 = c := hc
      refine ⟨_, rfl, rfl, _, rfl, iteFb (by decide +kernel) ?_⟩
      refine ⟨_, rfl, rfl, _, rfl, iteFb (by decide +kernel) ?_⟩
      refine ⟨_, rfl, rfl, _, rfl, iteFb (by decide +kernel) ?_⟩
      refine ⟨_, rfl, rfl, _, rfl, iteFb (by decide +kernel) ?_⟩
      refine ⟨_, rfl, rfl, _, rfl, iteTb (by decide +kernel) ?_⟩
      have dv : Dt K H v (.tuple [.str z, valD x]) := dv
      obtain ⟨q, y, rfl, hq, dy⟩ := dv.pair
      exact ⟨_, rfl, _, rfl, tail_rd hq fun p hp => k _ _ (Same.new hp) (Dt.made hp (.cons dy .nil))⟩
    | t d =>
      obtain rfl : 116 = c := hc
      refine ⟨_, rfl, rfl, _, rfl, iteFb (by decide +kernel) ?_⟩
      refine ⟨_, rfl, rfl, _, rfl, iteFb (by decide +kernel) ?_⟩
      refine ⟨_, rfl, rfl, _, rfl, iteFb (by decide +kernel) ?_⟩
      refine ⟨_, rfl, rfl, _, rfl, iteFb (by decide +kernel) ?_⟩
      refine ⟨_, rfl, rfl, _, rfl, iteFb (by decide +kernel) ?_⟩
      exact ⟨sz_0, fun u hu => k _ _ (Same.new hu) (Dt.made hu .nil)⟩
    | n i =>
      obtain rfl : 110 = c := hc
      refine ⟨_, rfl, rfl, _, rfl, iteFb (by decide +kernel) ?_⟩
      refine ⟨_, rfl, rfl, _, rfl, iteFb (by decide +kernel) ?_⟩
      refine ⟨_, rfl, rfl, _, rfl, iteFb (by decide +kernel) ?_⟩
      refine ⟨_, rfl, rfl, _, rfl, iteFb (by decide +kernel) ?_⟩
      refine ⟨_, rfl, rfl, _, rfl, iteFb (by decide +kernel) ?_⟩
      exact ⟨sz_0, fun u hu => k _ _ (Same.new hu) (Dt.made hu .nil)⟩
    | x js =>
      obtain rfl : 120 = c := hc
      refine ⟨_, rfl, rfl, _, rfl, iteFb (by decide +kernel) ?_⟩
      refine ⟨_, rfl, rfl, _, rfl, iteFb (by decide +kernel) ?_⟩
      refine ⟨_, rfl, rfl, _, rfl, iteFb (by decide +kernel) ?_⟩
      refine ⟨_, rfl, rfl, _, rfl, iteFb (by decide +kernel) ?_⟩
      refine ⟨_, rfl, rfl, _, rfl, iteFb (by decide +kernel) ?_⟩
      exact ⟨sz_0, fun u hu => k _ _ (Same.new hu) (Dt.made hu .nil)⟩
    | s0 =>
      obtain rfl : 115 = c := hc
      refine ⟨_, rfl, rfl, _, rfl, iteFb (by decide +kernel) ?_⟩
      refine ⟨_, rfl, rfl, _, rfl, iteFb (by decide +kernel) ?_⟩
      refine ⟨_, rfl, rfl, _, rfl, iteFb (by decide +kernel) ?_⟩
      refine ⟨_, rfl, rfl, _, rfl, iteFb (by decide +kernel) ?_⟩
      refine ⟨_, rfl, rfl, _, rfl, iteTb (by decide +kernel) ?_⟩
      obtain ⟨q, xs, rfl, hq, ha⟩ := (show Dt K H v (.tuple []) from dv).tuple_inv
      cases ha.nil_inv
      exact ⟨_, rfl, _, rfl, q, [], rfl, hq, fun _ => k _ _ (fun _ _ h => h) (.tup hq .nil), fun h => absurd ⟨rfl, rfl⟩ h⟩
    | s1 z =>
      obtain rfl : 115 = c := hc
      refine ⟨_, rfl, rfl, _, rfl, iteFb (by decide +kernel) ?_⟩
      refine ⟨_, rfl, rfl, _, rfl, iteFb (by decide +kernel) ?_⟩
      refine ⟨_, rfl, rfl, _, rfl, iteFb (by decide +kernel) ?_⟩
      refine ⟨_, rfl, rfl, _, rfl, iteFb (by decide +kernel) ?_⟩
      refine ⟨_, rfl, rfl, _, rfl, iteTb (by decide +kernel) ?_⟩
      obtain ⟨q, xs, rfl, hq, ha⟩ := (show Dt K H v (.tuple [.str z]) from dv).tuple_inv
      obtain ⟨_, _, rfl, _, hn⟩ := ha.cons_inv
      cases hn.nil_inv
      exact ⟨_, rfl, _, rfl, tail_rd hq fun p hp => k _ _ (Same.new hp) (Dt.made hp .nil)⟩
    | a k => exact absurd hc.symm n1
    | b k => exact absurd hc.symm n2
theorem fldR_vs {x : Fld} (h1 : ltr x ≠ 97) (h2 : ltr x ≠ 98) : fldR x = (fldVs x).flatMap valR := by
  cases x <;> first | rfl | (exact absurd rfl h1) | (exact absurd rfl h2)
/-- how many values a field holds -/
def FldN (x : Fld) : Prop := (fldVs x).length ≤ 10
theorem FldSm.n {m : Nat} : ∀ {x : Fld}, FldSm m x → FldN x
  | .v _, _ => by unfold FldN; simp [fldVs]
  | .V xs, h => by unfold FldN; have := h.1; simp only [fldVs]; omega
  | .W ps, h => by unfold FldN; have := h.1; simp only [fldVs]; rw [fm_len]; omega
  | .X ps, h => by unfold FldN; have := h.1; simp only [fldVs]; rw [List.length_map]; omega
  | .t _, _ => by unfold FldN; simp [fldVs]
  | .a _, _ => by unfold FldN; simp [fldVs]
  | .b _, _ => by unfold FldN; simp [fldVs]
  | .n _, _ => by unfold FldN; simp [fldVs]
  | .x _, _ => by unfold FldN; simp [fldVs]
  | .s0, _ => by unfold FldN; simp [fldVs]
  | .s1 _, _ => by unfold FldN; simp [fldVs]
  | .s2 _ _, _ => by unfold FldN; simp [fldVs]
theorem valR_len (xs : List Val) : (xs.flatMap valR).length ≤ xs.length := by
  induction xs with
  | nil => exact Nat.le_refl _
  | cons x r ih =>
    rw [List.flatMap_cons, List.length_append, List.length_cons]
    have : (valR x).length ≤ 1 := by cases x <;> simp [valR]
    omega
theorem FldN.len {x : Fld} (h : FldN x) : (fldR x).length ≤ 10 := by
  by_cases h1 : ltr x = 97
  · cases x <;> first | (cases h1; done) | (simp [fldR])
  · by_cases h2 : ltr x = 98
    · cases x <;> first | (cases h2; done) | (simp only [fldR]; split <;> simp)
    · rw [fldR_vs h1 h2]
      exact Nat.le_trans (valR_len _) h
theorem valD_hd (x : Val) : ∃ kd r, valD x = .tuple (.str kd :: r) ∧ ((kd ≠ "ref" ∧ valR x = []) ∨ (kd = "ref" ∧ ∃ n : Nat, x = .ref n ∧ r = [.int (n : Int)])) := by
  cases x with
  | ref n => exact ⟨_, _, rfl, .inr ⟨rfl, n, rfl, rfl⟩⟩
  | none => exact ⟨_, _, rfl, .inl ⟨by decide +kernel, rfl⟩⟩
  | bool b => exact ⟨_, _, rfl, .inl ⟨by decide +kernel, rfl⟩⟩
  | int i => exact ⟨_, _, rfl, .inl ⟨by decide +kernel, rfl⟩⟩
  | text js => exact ⟨_, _, rfl, .inl ⟨by decide +kernel, rfl⟩⟩
  | span a b => exact ⟨_, _, rfl, .inl ⟨by decide +kernel, rfl⟩⟩
  | built js => exact ⟨_, _, rfl, .inl ⟨by decide +kernel, rfl⟩⟩
  | host js => exact ⟨_, _, rfl, .inl ⟨by decide +kernel, rfl⟩⟩
theorem noF : ∀ c ∈ flds, decide (V.str (S [c]) = V.str "F") = false := by decide +kernel
theorem notAB : ∀ c ∈ flds, (if true = true then !inV (.str (S [c])) [.str "a", .str "b"] else inV (.str (S [c])) [.str "a", .str "b"]) = decide (c ≠ 97 ∧ c ≠ 98) := by decide +kernel
def spRefs0 (K : PySem.W.Frag) : Sp := fun vs H Q _ => ∃ (v : V) (kd : Str) (fs : List Fld) (ls : List Nat), vs = [.str (S ls), v] ∧ fs.map ltr = ls ∧ Dt K H v (.tuple (.str kd :: fs.map fldD)) ∧ (∀ x ∈ fs, FldN x) ∧ (∀ c ∈ ls, c ∈ flds) ∧ ls.length ≤ 10 ∧
  ∀ l H', H l = none → Same H H' → H' l = some (.lst ((fs.flatMap fldR).map V.int)) → Q (.ref l) H'
theorem ok_refs0 {f : Addr} {fd : FuncData} (F : Fun K "_references" "_references" s_references f fd) (T : Txt K mg) (U_values : Use P w K mg base CX0 "_values" 1 P_values (spValues K)) : FnG P w K mg base CX0 2 f fd P_references (spRefs0 K) := by
  refine okG0 F sc_references (fun vs H Q E h => ?_) fun cdv A outer s H vs Q E hr hg h => ?_
  · obtain ⟨v, kd, fs, ls, rfl, _⟩ := h
    rfl
  · obtain ⟨v, kd, fs, ls, rfl, hls, dv, hN, hfl, hll, k⟩ := h
    refine ⟨_, (pss_cons (ps_set (i := 2) sc_references.nd rfl (Or.inl rfl) (pe_lst pa_nil))
  (pss_cons (ps_for PassesOwn.never rfl (pi_zipST (by rfl) T.b_zip (pa_cons (pv 0) (pa_cons (pe_slice sl_tupA (pv 1) (po_some pe_int) po_none) pa_nil))) (pg_tup (by rfl) (pgs_cons (pg_name (i := 3) sc_references.nd rfl (Or.inl rfl)) (pgs_cons (pg_name (i := 4) sc_references.nd rfl (Or.inl rfl)) pgs_nil)))
   (pss_one (ps_if (pt_cmpR op_eq (pv 3) pe_str (nomark _))
   pss_never
   (pss_one (ps_if (pt_cmpR op_notIn_seq (pv 3) (pe_tup (pa_cons pe_str (pa_cons pe_str pa_nil))) (by rfl))
   (pss_one (ps_expr (pe_bm PySem.F.plainAttrs_list PySem.F.slot_list_extend PySem.F.type_list_extend mt_extend (pv 2) (pa_cons (pe_lc (own := [("value", 6)]) (g := (gName 6)) rfl sc_references.nd (pi_tup (pe_use U_values (hr.mono (by decide)) hg rfl (pa_cons (pv 3) (pa_cons (pv 4) pa_nil)))) (blkOk_by (N := N_references) (sc := defScope s_references) (by decide +kernel)) (fun _ _ _ _ _ => (pg_name (i := 6) sc_references.nd rfl (Or.inl rfl))) (fun _ _ _ _ _ => (pts_one (pt_cmpR op_eq (pe_ix (ix_tup : IxR _ (rIxT K)) (pv 6) pe_int (fun _ _ => rfl)) pe_str (nomark _)))) (fun _ _ _ _ _ => (pe_ix (ix_tup : IxR _ (rIxT K)) (pv 6) pe_int (fun _ _ => rfl)))) pa_nil))))
   (pss_one (ps_if (pt_cmpR op_ge (pv 4) pe_int (nomark _))
   (pss_one (ps_expr (pe_bm PySem.F.plainAttrs_list PySem.F.slot_list_append PySem.F.type_list_append mt_append (pv 2) (pa_cons (pv 4) pa_nil))))
   pss_nil)))))))
  (pss_one (ps_ret (pv 2))))), ?_⟩
    obtain ⟨q0, ws, rfl, hq0, ha⟩ := dv.head
    have hal := ha.length
    rw [List.length_map] at hal
    have hfsl : fs.length = ls.length := by rw [← hls, List.length_map]
    refine ⟨sz_0, fun l hl => ?_⟩
    have S0 := Same.new (o := .lst []) hl
    refine ⟨_, rfl, _, rfl, _, rfl, ?_⟩
    refine ⟨q0, _, rfl, Same.tupl S0 hq0, fun e => absurd e.1 (tail_no _ _), fun _ q hq => ?_⟩
    rw [cut_one]
    refine ⟨S ls, q, ws, rfl, SqT.of upd_same, ?_⟩
    refine for_it (walk_zipST (z := ls) (b := q) (ys := ws) (by omega)) (fun i σ H5 => ∃ (x3 x4 : Option V), σ = [some (.str (S ls)), some (.ref q0), some (.ref l), x3, x4, none, none] ∧ H5 l = some (.lst (((fs.take i).flatMap fldR).map V.int)) ∧ Same H H5 ∧ SqT K H5 q ws) ⟨none, none, rfl, Same.new hq _ _ upd_same, S0.trans (Same.new hq), SqT.of upd_same⟩ (fun _ _ _ _ h => let ⟨_, _, _, _, _, z⟩ := h; z) ?_ ?_
    · rintro i y σ H5 H6 hi ⟨x3, x4, rfl, e5, S5, q5⟩ ⟨T, a1, a2, rfl, hT, rfl, e1, e2⟩
      have hif : i < fs.length := by omega
      have hx : fs[i]? = some fs[i] := List.getElem?_eq_getElem hif
      have hNx := hN _ (List.getElem_mem hif)
      generalize fs[i] = x at hx hNx
      have hlc : ls[i]? = some (ltr x) := by rw [← hls, List.getElem?_map, hx]; rfl
      have hcm := hfl _ (List.mem_of_getElem? hlc)
      obtain rfl : V.str (S [ltr x]) = a1 := by
        have e1 : (ls[i]?).map (fun c => V.str (S [c])) = some a1 := e1
        rw [hlc] at e1
        exact Option.some.inj e1
      obtain ⟨d, hd, dx⟩ := ha.getV (show ws[i]? = some a2 from e2)
      rw [List.getElem?_map, hx] at hd
      cases hd
      have S6 := Same.new (o := .tup [.str (S [ltr x]), a2]) hT
      have S56 := S5.trans S6
      have dx6 := dx.mono S56
      have e6 := S6 _ _ e5
      have q6 := Same.tupl S6 q5
      have hlen : ((fs.take i).flatMap fldR).length ≤ 10 * i := by
        have : ∀ (n : Nat), n ≤ fs.length → ((fs.take n).flatMap fldR).length ≤ 10 * n := fun n => by
          induction n with
          | zero => intro _; simp
          | succ n ih =>
            intro h
            have hg : fs[n]? = some fs[n] := List.getElem?_eq_getElem (by omega)
            rw [List.take_succ, hg, List.flatMap_append, List.length_append, show (some fs[n]).toList.flatMap fldR = fldR fs[n] by simp]
            have h1 := (hN _ (List.getElem_mem (show n < fs.length by omega))).len
            have h2 := ih (by omega)
            omega
        exact this i (by omega)
      have htk : ((fs.take (i + 1)).flatMap fldR).map V.int = ((fs.take i).flatMap fldR).map V.int ++ (fldR x).map V.int := by
        rw [List.take_succ, hx, List.flatMap_append, List.map_append]
        simp
      have fin : ∀ (H7 : Hp) (zs : List V), Same H H7 → SqT K H7 q ws → H7 l = some (.lst (((fs.take i).flatMap fldR).map V.int)) → zs = (fldR x).map V.int → ∃ (x3 x4 : Option V), ([some (.str (S ls)), some (.ref q0), some (.ref l), some (.str (S [ltr x])), some a2, none, none] : L2.St) = [some (.str (S ls)), some (.ref q0), some (.ref l), x3, x4, none, none] ∧ upd H7 l (.lst (((fs.take i).flatMap fldR).map V.int ++ zs)) l = some (.lst (((fs.take (i + 1)).flatMap fldR).map V.int)) ∧ Same H (upd H7 l (.lst (((fs.take i).flatMap fldR).map V.int ++ zs))) ∧ SqT K (upd H7 l (.lst (((fs.take i).flatMap fldR).map V.int ++ zs))) q ws := fun H7 zs S7 q7 e7 ez =>
        ⟨_, _, rfl, by rw [upd_same, htk, ez], fun b o hb => by rw [upd_ne (ne_of_none hb hl)]; exact S7 b o hb, KeepT.upd e7 _ _ q7⟩
      refine ⟨T, _, rfl, SqT.of upd_same, rfl, _, _, rfl, _, _, rfl, rfl, ?_⟩
      refine ⟨_, rfl, rfl, _, rfl, iteFb (noF _ hcm) ?_⟩
      refine ⟨_, rfl, sz_2, fun u hu => ?_⟩
      have S7 := Same.new (o := .tup [.str "a", .str "b"]) hu
      refine ⟨u, _, rfl, .inr (SqT.of upd_same), rfl, rfl, _, rfl, ?_⟩
      have hin : (if true = true then !inV (.str (S [ltr x])) [.str "a", .str "b"] else inV (.str (S [ltr x])) [.str "a", .str "b"]) = decide (ltr x ≠ 97 ∧ ltr x ≠ 98) := notAB _ hcm
      by_cases hab : ltr x ≠ 97 ∧ ltr x ≠ 98
      · refine iteTb (hin.trans (decide_eq_true hab)) ?_
        refine ⟨_, rfl, .inl ⟨rfl, _, SqL.of (S7 _ _ e6)⟩, ?_⟩
        refine ⟨_, rfl, _, rfl, a2, x, ltr x, rfl, rfl, dx6.mono S7, hab.1, hab.2, Nat.le_trans hNx (by decide), fun v' H8 S8 d8 => ?_⟩
        obtain ⟨q8, xs, rfl, hq8, ha8⟩ := d8.tuple_inv
        have hxl := ha8.length
        rw [List.length_map] at hxl
        refine ⟨q8, rfl, ⟨_, hq8⟩, fun D hD => ?_⟩
        have hDl : l ≠ D := ne_of_none (S8 _ _ (S7 _ _ e6)) hD
        refine lc_it (walk_tup (xs := xs)) (fun j H' => H' D = some (.lst ((((fldVs x).take j).flatMap valR).map V.int)) ∧ Same H8 H') ⟨upd_same, Same.new hD⟩ (fun j H' _ h => Same.tupl h.2 hq8) ?_ ?_
        · rintro j y H9 H10 hj ⟨eD, S9⟩ ⟨rfl, hy⟩
          obtain ⟨d, hd, dy⟩ := (DtAll.mono S9 ha8).getV hy
          rw [List.getElem?_map] at hd
          obtain ⟨vx, hvx, rfl⟩ := Option.map_eq_some_iff.mp hd
          have hja : (((fldVs x).take j).flatMap valR).length ≤ 10 := Nat.le_trans (valR_len _) (by rw [List.length_take]; exact Nat.le_trans (Nat.min_le_right _ _) hNx)
          have htj : (((fldVs x).take (j + 1)).flatMap valR).map V.int = (((fldVs x).take j).flatMap valR).map V.int ++ (valR vx).map V.int := by
            rw [List.take_succ, hvx, List.flatMap_append, List.map_append]
            simp
          refine ⟨rfl, ?_⟩
          obtain ⟨kv, rv, ev, hkv⟩ := valD_hd vx
          rw [ev] at dy
          obtain ⟨qy, wy, rfl, hqy, hwy⟩ := dy.head
          refine ⟨_, rfl, qy, _, _, _, rfl, rfl, hqy, at0, rfl, _, rfl, ?_⟩
          rcases hkv with ⟨hne, hnil⟩ | ⟨rfl, n, rfl, rfl⟩
          · refine iteFb (decide_eq_false fun e => hne (V.str.inj e)) ⟨?_, S9⟩
            rw [htj, hnil, List.map_nil, List.append_nil]
            exact eD
          · refine iteTb (decide_eq_true rfl) ?_
            obtain ⟨y1, w1, rfl, d1, hw1⟩ := hwy.cons_inv
            cases hw1.nil_inv
            cases d1.int_inv
            refine ⟨_, rfl, qy, _, _, _, rfl, rfl, hqy, at1, _, eD, by rw [List.length_map]; exact Nat.lt_of_le_of_lt hja (by decide), ?_, fun b o hb => by rw [upd_ne (ne_of_none hb hD)]; exact S9 _ _ hb⟩
            rw [upd_same, htj]
            rfl
        · rintro H9 ⟨eD, S9⟩
          have hw : (fldVs x).take xs.length = fldVs x := by rw [hxl]; exact List.take_length
          rw [hw] at eD
          have S10 := (S7.trans S8).trans S9
          have e9 := S10 _ _ e6
          have hz1 : ((((fs.take i).flatMap fldR).map V.int).length + (((fldVs x).flatMap valR).map V.int).length) ≤ sizeLine := by
            rw [List.length_map, List.length_map]
            have := valR_len (fldVs x)
            have hNx' : (fldVs x).length ≤ 10 := hNx
            exact Nat.le_trans (show _ ≤ 200 by omega) (by decide)
          exact ⟨l, D, _, _, rfl, rfl, e9, eD, hz1, fin H9 _ (S56.trans S10) (Same.tupl S10 q6) e9 (by rw [fldR_vs hab.1 hab.2])⟩
      · refine iteFb (hin.trans (decide_eq_false hab)) ?_
        have S67 := S56.trans S7
        by_cases ha97 : ltr x = 97
        · cases x with
          | a n =>
            cases dx.int_inv
            refine ⟨_, rfl, _, _, rfl, rfl, _, rfl, iteTb (decide_eq_true (by omega)) ?_⟩
            refine ⟨_, rfl, .inl ⟨rfl, _, SqL.of (S7 _ _ e6)⟩, _, rfl, l, _, _, rfl, rfl, S7 _ _ e6, by rw [List.length_map]; exact Nat.lt_of_le_of_lt (Nat.le_trans hlen (show 10 * i ≤ 100 by omega)) (by decide), ?_⟩
            exact fin _ _ S67 (Same.tupl S7 q6) (S7 _ _ e6) rfl
          | _ => first | (cases ha97; done)
        · have hb98 : ltr x = 98 := Decidable.byContradiction fun h => hab ⟨ha97, h⟩
          cases x with
          | b n =>
            cases dx.int_inv
            refine ⟨_, rfl, _, _, rfl, rfl, _, rfl, ?_⟩
            refine ite3 (fun c => ?_) fun c => ?_
            · have c := of_decide_eq_true c
              refine ⟨_, rfl, .inl ⟨rfl, _, SqL.of (S7 _ _ e6)⟩, _, rfl, l, _, _, rfl, rfl, S7 _ _ e6, by rw [List.length_map]; exact Nat.lt_of_le_of_lt (Nat.le_trans hlen (show 10 * i ≤ 100 by omega)) (by decide), ?_⟩
              exact fin _ _ S67 (Same.tupl S7 q6) (S7 _ _ e6) (by show _ = (if 0 ≤ n then [n] else []).map V.int; rw [if_pos c]; rfl)
            · have c := of_decide_eq_false c
              refine ⟨_, _, rfl, ?_, S67, Same.tupl S7 q6⟩
              rw [htk, show fldR (.b n) = [] from if_neg c, List.map_nil, List.append_nil]
              exact S7 _ _ e6
          | _ => first | (cases hb98; done)
    · rintro σ H5 ⟨x3, x4, rfl, e5, S5, q5⟩
      have hw : fs.take ws.length = fs := by rw [hal]; exact List.take_length
      rw [hw] at e5
      exact ⟨_, rfl, k l H5 hl S5 e5⟩
--SPLIT
def objectsL : List (Str × Str) := ([("list", "V"), ("tuple", "V"), ("dict", "W"), ("scope", "Xttbt"), ("func", "xtXtta"), ("class", "xbX"), ("inst", "aX"), ("bound", "vv"), ("iter", "vnn"), ("gen", "xxF")] : List (Str × Str))
def controlsL : List (Str × Str) := ([("eval", "ta"), ("exec", "ta"), ("store", "tva"), ("call", "vVX"), ("resume", "axv"), ("value", "v"), ("done", ""), ("leave", "s"), ("give", "v"), ("ask", "xV")] : List (Str × Str))
def fieldsL : List (Str × Str) := ([("neg", ""), ("not", ""), ("bin1", "xta"), ("bin2", "xv"), ("and", "ta"), ("or", "ta"), ("choice", "tta"), ("cmp1", "ta"), ("cmp2", "vxta"), ("cmp3", "vta"), ("attr", "x"), ("item1", "ta")] : List (Str × Str)) ++ ([("item2", "v"), ("part1", "tta"), ("part2", "vta"), ("part3", "vv"), ("items", "xVta"), ("dict1", "Wtta"), ("dict2", "Wvta"), ("call1", "tta"), ("args", "vVtXta"), ("rest", "ta"), ("drop", ""), ("put", "ta")] : List (Str × Str)) ++ ([("del1", "ta"), ("del2", "v"), ("ret", ""), ("throw", ""), ("if", "tta"), ("while1", "ttan"), ("while2", "ttan"), ("for1", "ttan"), ("for2", "ttan"), ("for3", "vttan"), ("for4", "vttan"), ("for5", "vttan")] : List (Str × Str)) ++ ([("def", "xtttXta"), ("class1", "xtta"), ("class2", "xbaa"), ("catch", "ta"), ("match", "vta"), ("handling", "v"), ("final", "ta"), ("after", "s"), ("giving", "ta"), ("sent", "ta"), ("setattr", "xv"), ("seti1", "tva")] : List (Str × Str)) ++ ([("seti2", "vv"), ("unpack", "tVa"), ("forget", ""), ("body", "xn"), ("init", "v"), ("genbody", "axnx"), ("begin", "ta"), ("want", "x"), ("print", "vV"), ("gather1", "x"), ("gather", "xvV"), ("default", "v")] : List (Str × Str))
theorem fields_at : frTab.all (fun t => valV (txtKV fieldsL) (.inr t.1) == some (.str (S t.2))) = true := by decide +kernel
theorem objects_at : obTab.all (fun t => valV (txtKV objectsL) (.inr t.1) == some (.str (S t.2))) = true := by decide +kernel
theorem controls_at : coTab.all (fun t => valV (txtKV controlsL) (.inr t.1) == some (.str (S t.2))) = true := by decide +kernel
theorem tab_val {fl : List (Str × Str)} {tab : Tab} (h : tab.all (fun t => valV (txtKV fl) (.inr t.1) == some (.str (S t.2))) = true) {kd : Str} {ls : List Nat} (hm : (kd, ls) ∈ tab) : valV (txtKV fl) (.inr kd) = some (.str (S ls)) :=
  eq_of_beq (List.all_eq_true.mp h _ hm)
def spRefsOf (K : PySem.W.Frag) (tab : Tab) : Sp := fun vs H Q _ => ∃ (v : V) (kd : Str) (fs : List Fld), vs = [v] ∧ Dt K H v (.tuple (.str kd :: fs.map fldD)) ∧ (kd, fs.map ltr) ∈ tab ∧ (∀ x ∈ fs, FldN x) ∧ ∀ l H', H l = none → Same H H' → H' l = some (.lst ((fs.flatMap fldR).map V.int)) → Q (.ref l) H'
theorem ok_frefs {f : Addr} {fd : FuncData} (F : Fun K "frame_references" "frame_references" s_frame_references f fd) (T : Txt K mg) (U_FIELDS : UseD P w K mg "FIELDS" (txtKV fieldsL)) (U_references : Use P w K mg base CX0 "_references" 2 P_references (spRefs0 K)) : FnG P w K mg base CX0 3 f fd P_frame_references (spRefsOf K frTab) := by
  refine okG0 F sc_frame_references (fun vs H Q E h => ?_) fun cdv A outer s H vs Q E hr hg h => ?_
  · obtain ⟨v, kd, fs, rfl, _⟩ := h
    rfl
  · obtain ⟨v, kd, fs, rfl, dv, hm, hN, k⟩ := h
    obtain ⟨aD_FIELDS, gD_FIELDS, kD⟩ := U_FIELDS.ex
    refine ⟨_, (pss_one (ps_ret (pe_use U_references (hr.mono (by decide)) hg rfl (pa_cons (pe_dgetK (pe_glob (v := .ref aD_FIELDS) (by rfl) gD_FIELDS rfl) (pe_ix ix_tup (pv 0) pe_int (fun _ _ => rfl)) (fun _ _ => rfl)) (pa_cons (pv 0) pa_nil))))), ?_⟩
    obtain ⟨q, ws, rfl, hq, ha⟩ := (id dv).head
    obtain ⟨o1, o2⟩ := frTab_ok _ hm
    exact ⟨_, rfl, q, _, _, _, rfl, rfl, hq, at0, aD_FIELDS, _, .inr kd, _, rfl, kD, rfl, tab_val fields_at hm, _, rfl, _, kd, fs, _, rfl, rfl, dv, hN, o1, o2, k⟩
theorem coTab_ok : TabOk flds coTab := by unfold TabOk; decide +kernel
theorem ok_crefs {f : Addr} {fd : FuncData} (F : Fun K "control_references" "control_references" s_control_references f fd) (T : Txt K mg) (U_CONTROLS : UseD P w K mg "CONTROLS" (txtKV controlsL)) (U_references : Use P w K mg base CX0 "_references" 2 P_references (spRefs0 K)) : FnG P w K mg base CX0 3 f fd P_control_references (spRefsOf K coTab) := by
  refine okG0 F sc_control_references (fun vs H Q E h => ?_) fun cdv A outer s H vs Q E hr hg h => ?_
  · obtain ⟨v, kd, fs, rfl, _⟩ := h
    rfl
  · obtain ⟨v, kd, fs, rfl, dv, hm, hN, k⟩ := h
    obtain ⟨aD_CONTROLS, gD_CONTROLS, kD⟩ := U_CONTROLS.ex
    refine ⟨_, (pss_one (ps_ret (pe_use U_references (hr.mono (by decide)) hg rfl (pa_cons (pe_dgetK (pe_glob (v := .ref aD_CONTROLS) (by rfl) gD_CONTROLS rfl) (pe_ix ix_tup (pv 0) pe_int (fun _ _ => rfl)) (fun _ _ => rfl)) (pa_cons (pv 0) pa_nil))))), ?_⟩
    obtain ⟨q, ws, rfl, hq, ha⟩ := (id dv).head
    obtain ⟨o1, o2⟩ := coTab_ok _ hm
    exact ⟨_, rfl, q, _, _, _, rfl, rfl, hq, at0, aD_CONTROLS, _, .inr kd, _, rfl, kD, rfl, tab_val controls_at hm, _, rfl, _, kd, fs, _, rfl, rfl, dv, hN, o1, o2, k⟩
/-! objects -/
def frR (f : Fr) : List Int := f.fs.flatMap fldR
def fl2R : Fl2 → List Int
  | .one x => fldR x
  | .fr l => l.flatMap frR
def Fl2N : Fl2 → Prop
  | .one x => FldN x
  | .fr l => l.length ≤ 2 ∧ ∀ f ∈ l, (f.kd, f.fs.map ltr) ∈ frTab ∧ ∀ x ∈ f.fs, FldN x
--SPLIT
theorem ltr_in (x : Fld) : ltr x ∈ flds := by cases x <;> simp [ltr, flds]
theorem fr_len2 : ∀ (l : List Fld), (∀ x ∈ l, FldN x) → (l.flatMap fldR).length ≤ 10 * l.length
  | [], _ => by simp
  | x :: r, h => by
    rw [List.flatMap_cons, List.length_append, List.length_cons]
    have := (h x (by simp)).len
    have := fr_len2 r fun y hy => h y (List.mem_cons_of_mem _ hy)
    omega
theorem frs_len (fl : List Fr) (hl : fl.length ≤ 2) (h : ∀ f ∈ fl, (f.kd, f.fs.map ltr) ∈ frTab ∧ ∀ x ∈ f.fs, FldN x) (j : Nat) : ((fl.take j).flatMap frR).length ≤ 200 := by
  have go : ∀ l : List Fr, (∀ f ∈ l, (f.kd, f.fs.map ltr) ∈ frTab ∧ ∀ x ∈ f.fs, FldN x) → (l.flatMap frR).length ≤ 100 * l.length := fun l => by
    induction l with
    | nil => intro _; simp
    | cons f r ih =>
      intro h
      rw [List.flatMap_cons, List.length_append, List.length_cons]
      obtain ⟨h1, h2⟩ := h f (by simp)
      have h3 := (frTab_ok _ h1).2
      rw [List.length_map] at h3
      have h4 : (frR f).length ≤ 10 * f.fs.length := fr_len2 f.fs h2
      have h5 := ih fun g hg => h g (List.mem_cons_of_mem _ hg)
      omega
  have h1 := go (fl.take j) fun f hf => h f (List.mem_of_mem_take hf)
  rw [List.length_take] at h1
  omega
theorem Fl2N.len {x : Fl2} (h : Fl2N x) : (fl2R x).length ≤ 200 := by
  cases x with
  | one x => exact Nat.le_trans (FldN.len h) (by decide)
  | fr l =>
    have := frs_len l h.1 h.2 l.length
    rwa [List.take_length] at this
def spRefs (K : PySem.W.Frag) : Sp := fun vs H Q _ => ∃ (v : V) (kd : Str) (fs : List Fl2) (ls : List Nat), vs = [.str (S ls), v] ∧ fs.map ltr2 = ls ∧ Dt K H v (.tuple (.str kd :: fs.map fl2D)) ∧ (∀ x ∈ fs, Fl2N x) ∧ (∀ c ∈ ls, c ∈ 70 :: flds) ∧ ls.length ≤ 10 ∧
  ∀ l H', H l = none → Same H H' → H' l = some (.lst ((fs.flatMap fl2R).map V.int)) → Q (.ref l) H'
theorem ok_refs {f : Addr} {fd : FuncData} (F : Fun K "_references" "_references" s_references f fd) (T : Txt K mg) (U_values : Use P w K mg base CX0 "_values" 1 P_values (spValues K)) (U_frame_references : Use P w K mg base CX0 "frame_references" 3 P_frame_references (spRefsOf K frTab)) : FnG P w K mg base CX0 4 f fd P_references (spRefs K) := by
  refine okG0 F sc_references (fun vs H Q E h => ?_) fun cdv A outer s H vs Q E hr hg h => ?_
  · obtain ⟨v, kd, fs, ls, rfl, _⟩ := h
    rfl
  · obtain ⟨v, kd, fs, ls, rfl, hls, dv, hN, hfl, hll, k⟩ := h
    refine ⟨_, (pss_cons (ps_set (i := 2) sc_references.nd rfl (Or.inl rfl) (pe_lst pa_nil))
  (pss_cons (ps_for PassesOwn.never rfl (pi_zipST (by rfl) T.b_zip (pa_cons (pv 0) (pa_cons (pe_slice sl_tupA (pv 1) (po_some pe_int) po_none) pa_nil))) (pg_tup (by rfl) (pgs_cons (pg_name (i := 3) sc_references.nd rfl (Or.inl rfl)) (pgs_cons (pg_name (i := 4) sc_references.nd rfl (Or.inl rfl)) pgs_nil)))
   (pss_one (ps_if (pt_cmpR op_eq (pv 3) pe_str (nomark _))
   (pss_one (ps_for PassesOwn.never rfl (pi_tup (pv 4)) (pg_name (i := 5) sc_references.nd rfl (Or.inl rfl))
   (pss_one (ps_expr (pe_bm PySem.F.plainAttrs_list PySem.F.slot_list_extend PySem.F.type_list_extend mt_extend (pv 2) (pa_cons (pe_use U_frame_references (hr.mono (by decide)) hg rfl (pa_cons (pv 5) pa_nil)) pa_nil))))))
   (pss_one (ps_if (pt_cmpR op_notIn_seq (pv 3) (pe_tup (pa_cons pe_str (pa_cons pe_str pa_nil))) (by rfl))
   (pss_one (ps_expr (pe_bm PySem.F.plainAttrs_list PySem.F.slot_list_extend PySem.F.type_list_extend mt_extend (pv 2) (pa_cons (pe_lc (own := [("value", 6)]) (g := (gName 6)) rfl sc_references.nd (pi_tup (pe_use U_values (hr.mono (by decide)) hg rfl (pa_cons (pv 3) (pa_cons (pv 4) pa_nil)))) (blkOk_by (N := N_references) (sc := defScope s_references) (by decide +kernel)) (fun _ _ _ _ _ => (pg_name (i := 6) sc_references.nd rfl (Or.inl rfl))) (fun _ _ _ _ _ => (pts_one (pt_cmpR op_eq (pe_ix (ix_tup : IxR _ (rIxT K)) (pv 6) pe_int (fun _ _ => rfl)) pe_str (nomark _)))) (fun _ _ _ _ _ => (pe_ix (ix_tup : IxR _ (rIxT K)) (pv 6) pe_int (fun _ _ => rfl)))) pa_nil))))
   (pss_one (ps_if (pt_cmpR op_ge (pv 4) pe_int (nomark _))
   (pss_one (ps_expr (pe_bm PySem.F.plainAttrs_list PySem.F.slot_list_append PySem.F.type_list_append mt_append (pv 2) (pa_cons (pv 4) pa_nil))))
   pss_nil)))))))
  (pss_one (ps_ret (pv 2))))), ?_⟩
    obtain ⟨q0, ws, rfl, hq0, ha⟩ := dv.head
    have hal := ha.length
    rw [List.length_map] at hal
    have hfsl : fs.length = ls.length := by rw [← hls, List.length_map]
    refine ⟨sz_0, fun l hl => ?_⟩
    have S0 := Same.new (o := .lst []) hl
    refine ⟨_, rfl, _, rfl, _, rfl, ?_⟩
    refine ⟨q0, _, rfl, Same.tupl S0 hq0, fun e => absurd e.1 (tail_no _ _), fun _ q hq => ?_⟩
    rw [cut_one]
    refine ⟨S ls, q, ws, rfl, SqT.of upd_same, ?_⟩
    refine for_it (walk_zipST (z := ls) (b := q) (ys := ws) (by omega)) (fun i σ H5 => ∃ (x3 x4 x5 : Option V), σ = [some (.str (S ls)), some (.ref q0), some (.ref l), x3, x4, x5, none] ∧ H5 l = some (.lst (((fs.take i).flatMap fl2R).map V.int)) ∧ Same H H5 ∧ SqT K H5 q ws) ⟨none, none, none, rfl, Same.new hq _ _ upd_same, S0.trans (Same.new hq), SqT.of upd_same⟩ (fun _ _ _ _ h => let ⟨_, _, _, _, _, _, z⟩ := h; z) ?_ ?_
    · rintro i y σ H5 H6 hi ⟨x3, x4, x5, rfl, e5, S5, q5⟩ ⟨T, a1, a2, rfl, hT, rfl, e1, e2⟩
      have hif : i < fs.length := by omega
      have hx : fs[i]? = some fs[i] := List.getElem?_eq_getElem hif
      have hNx := hN _ (List.getElem_mem hif)
      generalize fs[i] = x at hx hNx
      have hlc : ls[i]? = some (ltr2 x) := by rw [← hls, List.getElem?_map, hx]; rfl
      have hcm := hfl _ (List.mem_of_getElem? hlc)
      obtain rfl : V.str (S [ltr2 x]) = a1 := by
        have e1 : (ls[i]?).map (fun c => V.str (S [c])) = some a1 := e1
        rw [hlc] at e1
        exact Option.some.inj e1
      obtain ⟨d, hd, dx⟩ := ha.getV (show ws[i]? = some a2 from e2)
      rw [List.getElem?_map, hx] at hd
      cases hd
      have S6 := Same.new (o := .tup [.str (S [ltr2 x]), a2]) hT
      have S56 := S5.trans S6
      have dx6 := dx.mono S56
      have e6 := S6 _ _ e5
      have q6 := Same.tupl S6 q5
      have hlen : ((fs.take i).flatMap fl2R).length ≤ 200 * i := by
        have : ∀ (n : Nat), n ≤ fs.length → ((fs.take n).flatMap fl2R).length ≤ 200 * n := fun n => by
          induction n with
          | zero => intro _; simp
          | succ n ih =>
            intro h
            have hg : fs[n]? = some fs[n] := List.getElem?_eq_getElem (by omega)
            rw [List.take_succ, hg, List.flatMap_append, List.length_append, show (some fs[n]).toList.flatMap fl2R = fl2R fs[n] by simp]
            have h1 := (hN _ (List.getElem_mem (show n < fs.length by omega))).len
            have h2 := ih (by omega)
            omega
        exact this i (by omega)
      have htk : ((fs.take (i + 1)).flatMap fl2R).map V.int = ((fs.take i).flatMap fl2R).map V.int ++ (fl2R x).map V.int := by
        rw [List.take_succ, hx, List.flatMap_append, List.map_append]
        simp
      have fin : ∀ (H7 : Hp) (zs : List V), Same H H7 → SqT K H7 q ws → H7 l = some (.lst (((fs.take i).flatMap fl2R).map V.int)) → zs = (fl2R x).map V.int → ∃ (x3 x4 x5' : Option V), ([some (.str (S ls)), some (.ref q0), some (.ref l), some (.str (S [ltr2 x])), some a2, x5, none] : L2.St) = [some (.str (S ls)), some (.ref q0), some (.ref l), x3, x4, x5', none] ∧ upd H7 l (.lst (((fs.take i).flatMap fl2R).map V.int ++ zs)) l = some (.lst (((fs.take (i + 1)).flatMap fl2R).map V.int)) ∧ Same H (upd H7 l (.lst (((fs.take i).flatMap fl2R).map V.int ++ zs))) ∧ SqT K (upd H7 l (.lst (((fs.take i).flatMap fl2R).map V.int ++ zs))) q ws := fun H7 zs S7 q7 e7 ez =>
        ⟨_, _, _, rfl, by rw [upd_same, htk, ez], fun b o hb => by rw [upd_ne (ne_of_none hb hl)]; exact S7 b o hb, KeepT.upd e7 _ _ q7⟩
      refine ⟨T, _, rfl, SqT.of upd_same, rfl, _, _, rfl, _, _, rfl, rfl, ?_⟩
      cases x with
      | fr fl =>
        refine ⟨_, rfl, rfl, _, rfl, iteTb (show decide (V.str (S [70]) = V.str "F") = true by decide +kernel) ?_⟩
        obtain ⟨qf, xsf, rfl, hqf, haf⟩ := (show Dt K _ a2 (.tuple (fl.map frD)) from dx6).tuple_inv
        have hfl2 := haf.length
        rw [List.length_map] at hfl2
        obtain ⟨hl2, hfr⟩ : fl.length ≤ 2 ∧ ∀ f ∈ fl, (f.kd, f.fs.map ltr) ∈ frTab ∧ ∀ x ∈ f.fs, FldN x := hNx
        refine ⟨_, rfl, qf, rfl, ⟨_, hqf⟩, ?_⟩
        refine for_tup (xs := xsf) (fun j σ H7 => ∃ x5, σ = [some (.str (S ls)), some (.ref q0), some (.ref l), some (.str (S [70])), some (.ref qf), x5, none] ∧ H7 l = some (.lst (((fs.take i).flatMap fl2R ++ (fl.take j).flatMap frR).map V.int)) ∧ Same H H7 ∧ SqT K H7 q ws ∧ SqT K H7 qf xsf ∧ DtAll K H7 xsf (fl.map frD)) ⟨x5, rfl, by rw [List.take_zero]; show _ = some (HO.lst ((_ ++ []).map V.int)); rw [List.append_nil]; exact e6, S56, q6, hqf, haf⟩ ?_ ?_ ?_
        · rintro j σ H7 hj ⟨x5, rfl, e7, S7, q7, f7, d7⟩
          exact f7
        · rintro j y σ H7 hy ⟨x5, rfl, e7, S7, q7, f7, d7⟩
          obtain ⟨d, hd, dy⟩ := d7.getV hy
          rw [List.getElem?_map] at hd
          obtain ⟨g, hg2, rfl⟩ := Option.map_eq_some_iff.mp hd
          obtain ⟨hm, hgN⟩ := hfr g (List.mem_of_getElem? hg2)
          have hgl : (frR g).length ≤ 100 := by
            have h10 := (frTab_ok _ hm).2
            rw [List.length_map] at h10
            exact Nat.le_trans (fr_len2 g.fs hgN) (by omega)
          refine ⟨_, rfl, .inl ⟨rfl, _, SqL.of e7⟩, ?_⟩
          refine ⟨_, rfl, y, g.kd, g.fs, rfl, dy, hm, hgN, fun l2 H8 hl2' S8 e8 => ?_⟩
          have hj2 : j < fl.length := by
            have := (List.getElem?_eq_some_iff.mp hy).1
            omega
          have hln : ((fs.take i).flatMap fl2R ++ (fl.take j).flatMap frR).length ≤ 3000 := by
            rw [List.length_append]
            have h2 : ((fl.take j).flatMap frR).length ≤ 200 := frs_len fl hl2 hfr j
            omega
          refine ⟨l, l2, _, _, rfl, rfl, S8 _ _ e7, e8, by rw [List.length_map, List.length_map]; exact Nat.le_trans (Nat.add_le_add hln hgl) (by decide), ?_⟩
          have e8l := S8 _ _ e7
          have kT : KeepT K H8 (upd H8 l (.lst (((fs.take i).flatMap fl2R ++ (fl.take j).flatMap frR).map V.int ++ (g.fs.flatMap fldR).map V.int))) := KeepT.upd e8l
          refine ⟨_, rfl, ?_, fun b o hb => by rw [upd_ne (ne_of_none hb hl)]; exact S8 _ _ (S7 _ _ hb), kT _ _ (Same.tupl S8 q7), kT _ _ (Same.tupl S8 f7), (d7.mono S8).keepT kT⟩
          rw [upd_same, List.take_succ, hg2, List.flatMap_append, ← List.append_assoc, List.map_append (l₂ := (some g).toList.flatMap frR)]
          simp [frR]
        · rintro σ H7 ⟨x5, rfl, e7, S7, q7, f7, d7⟩
          refine ⟨_, _, _, rfl, ?_, S7, q7⟩
          rw [hfl2, List.take_length] at e7
          rw [htk, ← List.map_append]
          exact e7
      | one x =>
        have hcm : ltr x ∈ flds := ltr_in x
        have hNx : FldN x := hNx
        have htk : ((fs.take (i + 1)).flatMap fl2R).map V.int = ((fs.take i).flatMap fl2R).map V.int ++ (fldR x).map V.int := htk
        have fin : ∀ (H7 : Hp) (zs : List V), Same H H7 → SqT K H7 q ws → H7 l = some (.lst (((fs.take i).flatMap fl2R).map V.int)) → zs = (fldR x).map V.int → ∃ (x3 x4 x5' : Option V), ([some (.str (S ls)), some (.ref q0), some (.ref l), some (.str (S [ltr x])), some a2, x5, none] : L2.St) = [some (.str (S ls)), some (.ref q0), some (.ref l), x3, x4, x5', none] ∧ upd H7 l (.lst (((fs.take i).flatMap fl2R).map V.int ++ zs)) l = some (.lst (((fs.take (i + 1)).flatMap fl2R).map V.int)) ∧ Same H (upd H7 l (.lst (((fs.take i).flatMap fl2R).map V.int ++ zs))) ∧ SqT K (upd H7 l (.lst (((fs.take i).flatMap fl2R).map V.int ++ zs))) q ws := fin
        have dx6 : Dt K _ a2 (fldD x) := dx6
        have dx : Dt K _ a2 (fldD x) := dx
        refine ⟨_, rfl, rfl, _, rfl, iteFb (noF _ hcm) ?_⟩
        refine ⟨_, rfl, sz_2, fun u hu => ?_⟩
        have S7 := Same.new (o := .tup [.str "a", .str "b"]) hu
        refine ⟨u, _, rfl, .inr (SqT.of upd_same), rfl, rfl, _, rfl, ?_⟩
        have hin : (if true = true then !inV (.str (S [ltr x])) [.str "a", .str "b"] else inV (.str (S [ltr x])) [.str "a", .str "b"]) = decide (ltr x ≠ 97 ∧ ltr x ≠ 98) := notAB _ hcm
        by_cases hab : ltr x ≠ 97 ∧ ltr x ≠ 98
        · refine iteTb (hin.trans (decide_eq_true hab)) ?_
          refine ⟨_, rfl, .inl ⟨rfl, _, SqL.of (S7 _ _ e6)⟩, ?_⟩
          refine ⟨_, rfl, _, rfl, a2, x, ltr x, rfl, rfl, dx6.mono S7, hab.1, hab.2, Nat.le_trans hNx (by decide), fun v' H8 S8 d8 => ?_⟩
          obtain ⟨q8, xs, rfl, hq8, ha8⟩ := d8.tuple_inv
          have hxl := ha8.length
          rw [List.length_map] at hxl
          refine ⟨q8, rfl, ⟨_, hq8⟩, fun D hD => ?_⟩
          have hDl : l ≠ D := ne_of_none (S8 _ _ (S7 _ _ e6)) hD
          refine lc_it (walk_tup (xs := xs)) (fun j H' => H' D = some (.lst ((((fldVs x).take j).flatMap valR).map V.int)) ∧ Same H8 H') ⟨upd_same, Same.new hD⟩ (fun j H' _ h => Same.tupl h.2 hq8) ?_ ?_
          · rintro j y H9 H10 hj ⟨eD, S9⟩ ⟨rfl, hy⟩
            obtain ⟨d, hd, dy⟩ := (DtAll.mono S9 ha8).getV hy
            rw [List.getElem?_map] at hd
            obtain ⟨vx, hvx, rfl⟩ := Option.map_eq_some_iff.mp hd
            have hja : (((fldVs x).take j).flatMap valR).length ≤ 10 := Nat.le_trans (valR_len _) (by rw [List.length_take]; exact Nat.le_trans (Nat.min_le_right _ _) hNx)
            have htj : (((fldVs x).take (j + 1)).flatMap valR).map V.int = (((fldVs x).take j).flatMap valR).map V.int ++ (valR vx).map V.int := by
              rw [List.take_succ, hvx, List.flatMap_append, List.map_append]
              simp
            refine ⟨rfl, ?_⟩
            obtain ⟨kv, rv, ev, hkv⟩ := valD_hd vx
            rw [ev] at dy
            obtain ⟨qy, wy, rfl, hqy, hwy⟩ := dy.head
            refine ⟨_, rfl, qy, _, _, _, rfl, rfl, hqy, at0, rfl, _, rfl, ?_⟩
            rcases hkv with ⟨hne, hnil⟩ | ⟨rfl, n, rfl, rfl⟩
            · refine iteFb (decide_eq_false fun e => hne (V.str.inj e)) ⟨?_, S9⟩
              rw [htj, hnil, List.map_nil, List.append_nil]
              exact eD
            · refine iteTb (decide_eq_true rfl) ?_
              obtain ⟨y1, w1, rfl, d1, hw1⟩ := hwy.cons_inv
              cases hw1.nil_inv
              cases d1.int_inv
              refine ⟨_, rfl, qy, _, _, _, rfl, rfl, hqy, at1, _, eD, by rw [List.length_map]; exact Nat.lt_of_le_of_lt hja (by decide), ?_, fun b o hb => by rw [upd_ne (ne_of_none hb hD)]; exact S9 _ _ hb⟩
              rw [upd_same, htj]
              rfl
          · rintro H9 ⟨eD, S9⟩
            have hw : (fldVs x).take xs.length = fldVs x := by rw [hxl]; exact List.take_length
            rw [hw] at eD
            have S10 := (S7.trans S8).trans S9
            have e9 := S10 _ _ e6
            have hz1 : ((((fs.take i).flatMap fl2R).map V.int).length + (((fldVs x).flatMap valR).map V.int).length) ≤ sizeLine := by
              rw [List.length_map, List.length_map]
              have := valR_len (fldVs x)
              have hNx' : (fldVs x).length ≤ 10 := hNx
              exact Nat.le_trans (show _ ≤ 3000 by omega) (by decide)
            exact ⟨l, D, _, _, rfl, rfl, e9, eD, hz1, fin H9 _ (S56.trans S10) (Same.tupl S10 q6) e9 (by rw [fldR_vs hab.1 hab.2])⟩
        · refine iteFb (hin.trans (decide_eq_false hab)) ?_
          have S67 := S56.trans S7
          by_cases ha97 : ltr x = 97
          · cases x with
            | a n =>
              cases dx.int_inv
              refine ⟨_, rfl, _, _, rfl, rfl, _, rfl, iteTb (decide_eq_true (by omega)) ?_⟩
              refine ⟨_, rfl, .inl ⟨rfl, _, SqL.of (S7 _ _ e6)⟩, _, rfl, l, _, _, rfl, rfl, S7 _ _ e6, by rw [List.length_map]; exact Nat.lt_of_le_of_lt (Nat.le_trans hlen (show 200 * i ≤ 2000 by omega)) (by decide), ?_⟩
              exact fin _ _ S67 (Same.tupl S7 q6) (S7 _ _ e6) rfl
            | _ => first | (cases ha97; done)
          · have hb98 : ltr x = 98 := Decidable.byContradiction fun h => hab ⟨ha97, h⟩
            cases x with
            | b n =>
              cases dx.int_inv
              refine ⟨_, rfl, _, _, rfl, rfl, _, rfl, ?_⟩
              refine ite3 (fun c => ?_) fun c => ?_
              · have c := of_decide_eq_true c
                refine ⟨_, rfl, .inl ⟨rfl, _, SqL.of (S7 _ _ e6)⟩, _, rfl, l, _, _, rfl, rfl, S7 _ _ e6, by rw [List.length_map]; exact Nat.lt_of_le_of_lt (Nat.le_trans hlen (show 200 * i ≤ 2000 by omega)) (by decide), ?_⟩
                exact fin _ _ S67 (Same.tupl S7 q6) (S7 _ _ e6) (by show _ = (if 0 ≤ n then [n] else []).map V.int; rw [if_pos c]; rfl)
              · have c := of_decide_eq_false c
                refine ⟨_, _, _, rfl, ?_, S67, Same.tupl S7 q6⟩
                rw [htk, show fldR (.b n) = [] from if_neg c, List.map_nil, List.append_nil]
                exact S7 _ _ e6
            | _ => first | (cases hb98; done)
    · rintro σ H5 ⟨x3, x4, x5, rfl, e5, S5, q5⟩
      have hw : fs.take ws.length = fs := by rw [hal]; exact List.take_length
      rw [hw] at e5
      exact ⟨_, rfl, k l H5 hl S5 e5⟩
theorem obTab_ok : TabOk (70 :: flds) obTab := by unfold TabOk; decide +kernel
def spORefs (K : PySem.W.Frag) : Sp := fun vs H Q _ => ∃ (v : V) (kd : Str) (fs : List Fl2), vs = [v] ∧ Dt K H v (.tuple (.str kd :: fs.map fl2D)) ∧ (kd, fs.map ltr2) ∈ obTab ∧ (∀ x ∈ fs, Fl2N x) ∧ ∀ l H', H l = none → Same H H' → H' l = some (.lst ((fs.flatMap fl2R).map V.int)) → Q (.ref l) H'
theorem ok_orefs {f : Addr} {fd : FuncData} (F : Fun K "object_references" "object_references" s_object_references f fd) (T : Txt K mg) (U_OBJECTS : UseD P w K mg "OBJECTS" (txtKV objectsL)) (U_references : Use P w K mg base CX0 "_references" 4 P_references (spRefs K)) : FnG P w K mg base CX0 5 f fd P_object_references (spORefs K) := by
  refine okG0 F sc_object_references (fun vs H Q E h => ?_) fun cdv A outer s H vs Q E hr hg h => ?_
  · obtain ⟨v, kd, fs, rfl, _⟩ := h
    rfl
  · obtain ⟨v, kd, fs, rfl, dv, hm, hN, k⟩ := h
    obtain ⟨aD_OBJECTS, gD_OBJECTS, kD⟩ := U_OBJECTS.ex
    refine ⟨_, (pss_one (ps_ret (pe_use U_references (hr.mono (by decide)) hg rfl (pa_cons (pe_dgetK (pe_glob (v := .ref aD_OBJECTS) (by rfl) gD_OBJECTS rfl) (pe_ix ix_tup (pv 0) pe_int (fun _ _ => rfl)) (fun _ _ => rfl)) (pa_cons (pv 0) pa_nil))))), ?_⟩
    obtain ⟨q, ws, rfl, hq, ha⟩ := (id dv).head
    obtain ⟨o1, o2⟩ := obTab_ok _ hm
    exact ⟨_, rfl, q, _, _, _, rfl, rfl, hq, at0, aD_OBJECTS, _, .inr kd, _, rfl, kD, rfl, tab_val objects_at hm, _, rfl, _, kd, fs, _, rfl, rfl, dv, hN, o1, o2, k⟩
--SPLIT
end

abbrev s_law_letters : Stmt := top 70
abbrev N_law_letters : List Str := ["table", "kind", "row"]
abbrev P_law_letters : List Str := ["table", "kind"]
theorem sc_law_letters : FnScope N_law_letters P_law_letters (defScope s_law_letters) := ⟨rfl, rfl, rfl, by decide +kernel, rfl, by decide +kernel, by decide +kernel⟩
section
variable {P : Program} {w : World} {K : PySem.W.Frag} {mg : Str → Option Value} {base : Heap}
def spLetters (K : PySem.W.Frag) : Sp := fun vs H Q _ => ∃ (tl : Addr) (tab : Tab) (kd : Str) (ls : List Nat), vs = [.ref tl, .str kd] ∧ TabAt H tl tab ∧ (kd, ls) ∈ tab ∧ (tab.map (·.1)).Nodup ∧ Q (.str (S ls)) H
theorem tab_first {tab : Tab} {i : Nat} {kd : Str} {a b : List Nat} (hn : (tab.map (·.1)).Nodup) (h1 : tab[i]? = some (kd, a)) (h2 : (kd, b) ∈ tab) : a = b := by
  obtain ⟨j, hj⟩ := List.getElem?_of_mem h2
  have e1 : (tab.map (·.1))[i]? = some kd := by rw [List.getElem?_map, h1]; rfl
  have e2 : (tab.map (·.1))[j]? = some kd := by rw [List.getElem?_map, hj]; rfl
  have hi := (List.getElem?_eq_some_iff.mp e1).1
  have : i = j := (List.getElem?_inj hi hn).mp (e1.trans e2.symm)
  subst this
  rw [h1] at hj
  exact (Prod.mk.inj (Option.some.inj hj)).2
theorem ok_letters {f : Addr} {fd : FuncData} (F : Fun K "_law_letters" "_law_letters" s_law_letters f fd) (T : Txt K mg) : FnG P w K mg base CX0 1 f fd P_law_letters (spLetters K) := by
  refine okG0 F sc_law_letters (fun vs H Q E h => ?_) fun cdv A outer s H vs Q E hr hg h => ?_
  · obtain ⟨tl, tab, kd, ls, rfl, _⟩ := h
    rfl
  · obtain ⟨tl, tab, kd, ls, rfl, ⟨rs, e1, e2, e3⟩, hm, hn, k⟩ := h
    refine ⟨_, (pss_cons (ps_for PassesOwn.never rfl (pi_list (pv 0)) (pg_name (i := 2) sc_law_letters.nd rfl (Or.inl rfl))
   (pss_one (ps_if (pt_cmpR op_eq (pe_ix ix_list (pv 2) pe_int (fun _ _ => rfl)) (pv 1) (nomark _))
   (pss_one (ps_ret (pe_ix ix_list (pv 2) pe_int (fun _ _ => rfl))))
   pss_nil)))
  (pss_one (ps_ret pe_str))), ?_⟩
    refine ⟨_, rfl, tl, rfl, ⟨_, SqL.of e1⟩, ?_⟩
    refine for_list (xs := rs.map V.ref) (fun i σ H1 => ∃ x2, σ = [some (.ref tl), some (.str kd), x2] ∧ H1 = H ∧ ∀ j, j < i → ∀ t, tab[j]? = some t → t.1 ≠ kd) ⟨none, rfl, rfl, by simp⟩ ?_ ?_ ?_
    · rintro i σ H1 hi ⟨x2, rfl, rfl, _⟩
      exact SqL.of e1
    · rintro i y σ H1 hy ⟨x2, rfl, rfl, hall⟩
      rw [List.getElem?_map] at hy
      obtain ⟨r, hr2, rfl⟩ := Option.map_eq_some_iff.mp hy
      obtain ⟨kd', ls', ht, er⟩ := e3 i r hr2
      refine ⟨_, rfl, r, _, _, _, rfl, rfl, SqL.of er, at0, _, rfl, rfl, _, rfl, ?_⟩
      refine ite3 (fun c => ?_) fun c => ?_
      · have c := V.str.inj (of_decide_eq_true c)
        subst c
        rw [← tab_first hn ht hm] at k
        exact ⟨_, rfl, r, _, _, _, rfl, rfl, SqL.of er, at1, k⟩
      · have c := of_decide_eq_false c
        refine ⟨_, rfl, rfl, fun j hj t ht2 => ?_⟩
        rcases Nat.lt_or_ge j i with h | h
        · exact hall j h t ht2
        · obtain rfl : j = i := by omega
          rw [ht] at ht2
          cases ht2
          exact fun e => c (congrArg V.str e)
    · rintro σ H1 ⟨x2, rfl, rfl, hall⟩
      obtain ⟨j, hj⟩ := List.getElem?_of_mem hm
      exact absurd rfl (hall j (by rw [List.length_map, e2]; exact (List.getElem?_eq_some_iff.mp hj).1) _ hj)
def spLValues (K : PySem.W.Frag) : Sp := fun vs H Q _ => ∃ (v : V) (x : Fld) (c : Nat), vs = [.str (S [c]), v] ∧ ltr x = c ∧ Dt K H v (fldD x) ∧ c ≠ 97 ∧ c ≠ 98 ∧ (fldVs x).length ≤ 100 ∧ ∀ l H', H l = none → Same H H' → ListAt K H' l ((fldVs x).map valD) → Q (.ref l) H'
--SPLIT
def spLRefs0 (K : PySem.W.Frag) : Sp := fun vs H Q _ => ∃ (tl : Addr) (v : V) (tab : Tab) (kd : Str) (fs : List Fld), vs = [.ref tl, v] ∧ TabAt H tl tab ∧ (tab.map (·.1)).Nodup ∧ TabOk flds tab ∧ Dt K H v (.tuple (.str kd :: fs.map fldD)) ∧ (kd, fs.map ltr) ∈ tab ∧ (∀ x ∈ fs, FldN x) ∧
  ∀ l H', H l = none → Same H H' → H' l = some (.lst ((fs.flatMap fldR).map V.int)) → Q (.ref l) H'
theorem atS {ls : List Nat} {i c : Nat} (h : ls[i]? = some c) : (S ls).cps[i]? = some c := by simpa [S] using h
theorem take_len (fs : List Fld) (hN : ∀ x ∈ fs, FldN x) (n : Nat) (hn : n ≤ fs.length) : ((fs.take n).flatMap fldR).length ≤ 10 * n := by
  have := fr_len2 (fs.take n) fun x hx => hN x (List.mem_of_mem_take hx)
  rw [List.length_take] at this
  omega
theorem same_none {H H' : Hp} {q : Addr} (S1 : Same H H') (h : H' q = none) : H q = none := by
  cases e : H q with
  | none => rfl
  | some o => rw [S1 _ _ e] at h; cases h
theorem notC : ∀ c ∈ flds, ∀ d : Nat, d = 97 ∨ d = 98 → c ≠ d → decide (V.str (S [c]) = V.str (S [d])) = false := by
  intro c _ d _ h
  refine decide_eq_false fun e => h ?_
  have := V.str.inj e
  simpa [S] using this
--SPLIT
theorem take_len2 (fs : List Fl2) (hN : ∀ x ∈ fs, Fl2N x) (n : Nat) (hn : n ≤ fs.length) : ((fs.take n).flatMap fl2R).length ≤ 200 * n := by
  revert hn
  induction n with
  | zero => intro _; simp
  | succ n ih =>
    intro h
    have hg : fs[n]? = some fs[n] := List.getElem?_eq_getElem (by omega)
    rw [List.take_succ, hg, List.flatMap_append, List.length_append, show (some fs[n]).toList.flatMap fl2R = fl2R fs[n] by simp]
    have h1 := (hN _ (List.getElem_mem (show n < fs.length by omega))).len
    have h2 := ih (by omega)
    omega
theorem frTab_nd : (frTab.map (·.1)).Nodup := by decide +kernel
def spLRefs (K : PySem.W.Frag) : Sp := fun vs H Q _ => ∃ (tl : Addr) (v : V) (tab : Tab) (kd : Str) (fs : List Fl2), vs = [.ref tl, v] ∧ TabAt H tl tab ∧ (tab.map (·.1)).Nodup ∧ TabOk (70 :: flds) tab ∧ Dt K H v (.tuple (.str kd :: fs.map fl2D)) ∧ (kd, fs.map ltr2) ∈ tab ∧ (∀ x ∈ fs, Fl2N x) ∧
  ∀ l H', H l = none → Same H H' → H' l = some (.lst ((fs.flatMap fl2R).map V.int)) → Q (.ref l) H'
--SPLIT
end

abbrev s_Machine___init__ : Stmt := inClass (top 29) 0
abbrev N_Machine___init__ : List Str := ["self", "control", "frames", "heap", "out", "active", "here", "line", "steps"]
abbrev P_Machine___init__ : List Str := ["self", "control", "frames", "heap", "out", "active", "here", "line", "steps"]
theorem sc_Machine___init__ : FnScope N_Machine___init__ P_Machine___init__ (defScope s_Machine___init__) := ⟨rfl, rfl, rfl, by decide +kernel, rfl, by decide +kernel, by decide +kernel⟩
section
variable {P : Program} {w : World} {K : PySem.W.Frag} {mg : Str → Option Value} {base : Heap}
abbrev fM : List Str := ["control", "frames", "heap", "out", "active", "here", "line", "steps"]
def mf (c f h o a e l s : V) : List (Str × V) := [("control", c), ("frames", f), ("heap", h), ("out", o), ("active", a), ("here", e), ("line", l), ("steps", s)]
theorem mf_control {c f h o a e l s : V} : (mf c f h o a e l s).lookup ("control" : Str) = some c := by rfl
theorem mf_frames {c f h o a e l s : V} : (mf c f h o a e l s).lookup ("frames" : Str) = some f := by rfl
theorem mf_heap {c f h o a e l s : V} : (mf c f h o a e l s).lookup ("heap" : Str) = some h := by rfl
theorem mf_out {c f h o a e l s : V} : (mf c f h o a e l s).lookup ("out" : Str) = some o := by rfl
theorem mf_active {c f h o a e l s : V} : (mf c f h o a e l s).lookup ("active" : Str) = some a := by rfl
theorem mf_here {c f h o a e l s : V} : (mf c f h o a e l s).lookup ("here" : Str) = some e := by rfl
theorem mf_line {c f h o a e l s : V} : (mf c f h o a e l s).lookup ("line" : Str) = some l := by rfl
theorem mf_steps {c f h o a e l s : V} : (mf c f h o a e l s).lookup ("steps" : Str) = some s := by rfl
def spMInit (C : Addr) : Sp := fun vs H Q _ => ∃ (p dx : Addr) (c f h o a e l s : V), vs = [.ref p, c, f, h, o, a, e, l, s] ∧ H p = some (.ins C dx []) ∧ ∀ H', H' p = some (.ins C dx (mf c f h o a e l s)) → (∀ b u, H b = some u → b ≠ p → H' b = some u) → Q .non H'
theorem ok_minit {C : Addr} {f : Addr} {fd : FuncData} (F : Fun K "__init__" "Machine.__init__" s_Machine___init__ f fd) (T : Txt K mg) (UC_Machine : UseC K mg "Machine" fM C) : FnOk P w K mg base CX0 1 f fd P_Machine___init__ (spMInit C) := by
  refine F.ok sc_Machine___init__ (fun vs H Q E h => ?_) fun cdv A outer s H vs Q E hr h => ?_
  · obtain ⟨p, dx, c, f, h, o, a, e, l, s, rfl, _⟩ := h
    rfl
  · obtain ⟨p, dx, c, f, hh, o, a, e, l, st, rfl, hp, k⟩ := h
    refine ⟨_, (pss_cons (ps_fd UC_Machine (by decide +kernel) (pv 0) (pv 1))
  (pss_cons (ps_fd UC_Machine (by decide +kernel) (pv 0) (pv 2))
  (pss_cons (ps_fd UC_Machine (by decide +kernel) (pv 0) (pv 3))
  (pss_cons (ps_fd UC_Machine (by decide +kernel) (pv 0) (pv 4))
  (pss_cons (ps_fd UC_Machine (by decide +kernel) (pv 0) (pv 5))
  (pss_cons (ps_fd UC_Machine (by decide +kernel) (pv 0) (pv 6))
  (pss_cons (ps_fd UC_Machine (by decide +kernel) (pv 0) (pv 7))
  (pss_one (ps_fd UC_Machine (by decide +kernel) (pv 0) (pv 8)))))))))), ?_⟩
    refine ⟨_, rfl, _, rfl, p, dx, _, rfl, hp, Nat.le_of_ble_eq_true rfl, ?_⟩
    iterate 7 refine ⟨_, rfl, _, rfl, p, dx, _, rfl, upd_same, Nat.le_of_ble_eq_true rfl, ?_⟩
    refine k _ (by rw [upd_same]; rfl) fun b u e1 hb => ?_
    iterate 8 rw [upd_ne hb]
    exact e1
/-- a machine at m -/
def MAt (C : Addr) (H : Hp) (m : Addr) (c f h o a e l s : V) : Prop := ∃ dx, H m = some (.ins C dx (mf c f h o a e l s))
theorem MAt.same {C m : Addr} {H H' : Hp} {c f h o a e l s : V} (M : MAt C H m c f h o a e l s) (S : Same H H') : MAt C H' m c f h o a e l s := let ⟨dx, q⟩ := M; ⟨dx, S _ _ q⟩
end

abbrev s_law_list_is : Stmt := top 53
abbrev N_law_list_is : List Str := ["actual", "due", "k"]
abbrev P_law_list_is : List Str := ["actual", "due"]
theorem sc_law_list_is : FnScope N_law_list_is P_law_list_is (defScope s_law_list_is) := ⟨rfl, rfl, rfl, by decide +kernel, rfl, by decide +kernel, by decide +kernel⟩
section
variable {P : Program} {w : World} {K : PySem.W.Frag} {mg : Str → Option Value} {base : Heap}
def spListIs (K : PySem.W.Frag) : Sp := fun vs H Q _ => ∃ (a b : Addr) (ns : List Int), vs = [.ref a, .ref b] ∧ H a = some (.lst (ns.map V.int)) ∧ H b = some (.lst (ns.map V.int)) ∧ ns.length ≤ 1000000 ∧ Q (.bl true) H
theorem ok_listis {f : Addr} {fd : FuncData} (F : Fun K "_law_list_is" "_law_list_is" s_law_list_is f fd) (T : Txt K mg) (U_law_is_integer : Use P w K mg base CX0 "_law_is_integer" 1 P_law_is_integer (spIsInt K)) : FnG P w K mg base CX0 2 f fd P_law_list_is (spListIs K) := by
  refine okG0 F sc_law_list_is (fun vs H Q E h => ?_) fun cdv A outer s H vs Q E hr hg h => ?_
  · obtain ⟨a, b, ns, rfl, _⟩ := h
    rfl
  · obtain ⟨a, b, ns, rfl, ea, eb, hl, k⟩ := h
    refine ⟨_, (pss_cons (ps_if (PW.pt (pw_or (pt_not (pt_val (pe_callB call_isi (by rfl) T.b_isinstance (by decide +kernel) (pa_cons (pv 0) (pa_cons (pe_bltn (v := .ty "list") (by rfl) T.b_list (by decide +kernel) rfl) pa_nil))))) (pw_or1 (pt_cmpR op_ne (pe_callB call_len (by rfl) T.b_len PySem.boot_len (pa_cons (pv 0) pa_nil)) (pe_callB call_len (by rfl) T.b_len PySem.boot_len (pa_cons (pv 1) pa_nil)) (nomark _)))))
   (pss_one (ps_ret pe_bl))
   pss_nil)
  (pss_cons (ps_for PassesOwn.never rfl (pi_range1 (by rfl) T.b_range (pa_cons (pe_callB call_len (by rfl) T.b_len PySem.boot_len (pa_cons (pv 1) pa_nil)) pa_nil)) (pg_name (i := 2) sc_law_list_is.nd rfl (Or.inl rfl))
   (pss_one (ps_if (PW.pt (pw_or (pt_not (pt_val (pe_use U_law_is_integer (hr.mono (by decide)) hg rfl (pa_cons (pe_ix ix_list (pv 0) (pv 2) (fun _ _ => rfl)) pa_nil)))) (pw_or1 (pt_cmpR op_ne (pe_ix ix_list (pv 0) (pv 2) (fun _ _ => rfl)) (pe_ix ix_list (pv 1) (pv 2) (fun _ _ => rfl)) (nomark _)))))
   (pss_one (ps_ret pe_bl))
   pss_nil)))
  (pss_one (ps_ret pe_bl)))), ?_⟩
    refine ⟨_, rfl, _, _, _, _, true, rfl, .ty _, .base (.lst ea), if_pos (beq_self_eq_true _), _, rfl, iteFb rfl ?_⟩
    refine ⟨_, rfl, _, _, rfl, .inl ⟨_, SqL.of ea, rfl⟩, _, rfl, _, _, rfl, .inl ⟨_, SqL.of eb, rfl⟩, rfl, _, rfl, ?_⟩
    rw [decide_eq_true rfl]
    refine iteFb rfl ?_
    refine ⟨_, rfl, _, _, rfl, .inl ⟨_, SqL.of eb, rfl⟩, _, rfl, by omega, by rw [List.length_map]; omega, ?_⟩
    rw [Int.toNat_natCast]
    refine for_range (lo := 0) (n := (ns.map V.int).length) (fun i σ H1 => ∃ x2, σ = [some (.ref a), some (.ref b), x2] ∧ H1 = H) ⟨none, rfl, rfl⟩ ?_ ?_
    · rintro i σ H1 hi ⟨x2, rfl, rfl⟩
      have hx : (ns.map V.int)[i]? = some (ns.map V.int)[i] := List.getElem?_eq_getElem hi
      have hv : (ns.map V.int)[i] = V.int (ns[i]'(by simpa using hi)) := List.getElem_map ..
      rw [hv] at hx
      generalize ns[i]'(by simpa using hi) = z at hx
      refine ⟨_, rfl, _, rfl, a, _, _, _, rfl, rfl, SqL.of ea, at_of' (j := i) (by omega) hx, z, rfl, true, rfl, iteFb rfl ?_⟩
      refine ⟨_, rfl, _, rfl, a, _, _, _, rfl, rfl, SqL.of ea, at_of' (j := i) (by omega) hx, _, rfl, _, rfl, b, _, _, _, rfl, rfl, SqL.of eb, at_of' (j := i) (by omega) hx, rfl, _, rfl, ?_⟩
      rw [decide_eq_true rfl]
      exact iteFb rfl ⟨_, rfl, rfl⟩
    · rintro σ H1 ⟨x2, rfl, rfl⟩
      exact k
end

section
--SPLIT
end
abbrev s_law_heap : Stmt := top 71
abbrev N_law_heap : List Str := ["box", "many", "heap", "bases", "k"]
abbrev P_law_heap : List Str := ["box", "many"]
theorem sc_law_heap : FnScope N_law_heap P_law_heap (defScope s_law_heap) := ⟨rfl, rfl, rfl, by decide +kernel, rfl, by decide +kernel, by decide +kernel⟩
abbrev s_law_parts : Stmt := top 72
abbrev N_law_parts : List Str := ["box", "many", "control", "frames", "k", "heap", "numbers"]
abbrev P_law_parts : List Str := ["box"]
theorem sc_law_parts : FnScope N_law_parts P_law_parts (defScope s_law_parts) := ⟨rfl, rfl, rfl, by decide +kernel, rfl, by decide +kernel, by decide +kernel⟩
section
variable {P : Program} {w : World} {K : PySem.W.Frag} {mg : Str → Option Value} {base : Heap}
def spShape2 (K : PySem.W.Frag) : Sp := fun vs H Q _ => ∃ (p dl tl : Addr) (tab : Tab) (m : Nat), vs = [.ref p, .ref tl, .int (m : Int)] ∧ TabAt H tl tab ∧ tab ≠ [] ∧ tab.length ≤ 100 ∧ TabOk (70 :: flds) tab ∧ 0 < m ∧ m ≤ 10 ^ 6 ∧ BoxAt H p dl ∧
  ∀ v (kd : Str) (fs : List Fl2) H', (kd, fs.map ltr2) ∈ tab → Dt K H' v (.tuple (.str kd :: fs.map fl2D)) → (∀ f ∈ fs, Fl2Sm m f) → BoxAt H' p dl → Keep p H H' → Q v H'
theorem ok_shape2 {f : Addr} {fd : FuncData} (F : Fun K "_law_shape" "_law_shape" s_law_shape f fd) (T : Txt K mg) (U_law_draw : Use P w K mg base CX0 "_law_draw" 1 P_law_draw (spDraw K)) (U_law_shape_of : Use P w K mg base CX0 "_law_shape_of" 11 P_law_shape_of (spShapeOf K)) : FnG P w K mg base CX0 12 f fd P_law_shape (spShape2 K) := by
  refine okG0 F sc_law_shape (fun vs H Q E h => ?_) fun cdv A outer s H vs Q E hr hg h => ?_
  · obtain ⟨p, dl, tl, tab, m, rfl, _⟩ := h
    rfl
  · obtain ⟨p, dl, tl, tab, m, rfl, hT, hne, htl, hok, hm0, hm, B, k⟩ := h
    refine ⟨_, (pss_cons (ps_set (i := 3) sc_law_shape.nd rfl (Or.inl rfl) (pe_ix ix_list (pv 1) (pe_op op_mod (pe_callTy call_int1 (by rfl) T.b_int (by decide +kernel) (pa_cons (pe_op op_add (pe_op op_mul (pe_use U_law_draw (hr.mono (by decide)) hg rfl (pa_cons (pv 0) (pa_cons pe_int pa_nil))) pe_int) (pe_use U_law_draw (hr.mono (by decide)) hg rfl (pa_cons (pv 0) (pa_cons pe_int pa_nil)))) pa_nil)) (pe_callB call_len (by rfl) T.b_len PySem.boot_len (pa_cons (pv 1) pa_nil))) (fun _ _ => rfl)))
  (pss_one (ps_ret (pe_use U_law_shape_of (hr.mono (by decide)) hg rfl (pa_cons (pv 0) (pa_cons (pv 3) (pa_cons (pv 2) pa_nil))))))), ?_⟩
    refine ⟨_, rfl, _, rfl, p, dl, 1000, rfl, B, by decide, fun r1 H1 q0 q1 B1 K1 => ?_⟩
    refine ⟨_, _, rfl, rfl, .inr ⟨by decide, by decide⟩, _, rfl, p, dl, 1000, rfl, B1, by decide, fun r2 H2 q2 q3 B2 K2 => ?_⟩
    have hT2 := (hT.keep B K1).keep B1 K2
    obtain ⟨rs, e1, e2, e3⟩ := id hT2
    have hrl : 0 < rs.length := by rw [e2]; exact List.length_pos_iff.mpr hne
    refine ⟨_, _, rfl, rfl, .inl ⟨_, rfl, _, rfl, _, _, rfl, .inl ⟨_, SqL.of e1, rfl⟩, _, _, rfl, rfl, by rw [List.length_map]; omega, ?_⟩⟩
    obtain ⟨j, hj⟩ : ∃ j : Nat, (r1 * 1000 + r2) % (((rs.map V.ref).length : Nat) : Int) = (j : Int) := ⟨_, (Int.toNat_of_nonneg (Int.emod_nonneg _ (by rw [List.length_map]; omega))).symm⟩
    have hjm := Int.emod_lt_of_pos (r1 * 1000 + r2) (show (0 : Int) < (((rs.map V.ref).length : Nat) : Int) by rw [List.length_map]; omega)
    rw [hj, List.length_map] at hjm
    have hr2 : rs[j]? = some rs[j] := List.getElem?_eq_getElem (by omega)
    obtain ⟨kd, ls, et, er⟩ := e3 j _ hr2
    have hmem := List.mem_of_getElem? et
    obtain ⟨o1, o2⟩ := hok _ hmem
    dsimp only
    rw [hj]
    refine ⟨tl, _, _, _, rfl, rfl, SqL.of e1, atI_nat (by rw [List.getElem?_map, hr2]; rfl), ?_⟩
    refine ⟨_, rfl, _, rfl, _, rfl, p, dl, _, kd, ls, m, rfl, er, o1, o2, hm0, hm, B2, fun v fs H3 dv hf hfs B3 K3 => ?_⟩
    exact k v kd fs H3 (by rw [hf]; exact hmem) dv hfs B3 ((K1.trans K2).trans K3)
structure Ob where
  kd : Str
  fs : List Fl2
def obD (o : Ob) : PyData := .tuple (.str o.kd :: o.fs.map fl2D)
def ObSm (m : Nat) (o : Ob) : Prop := (o.kd, o.fs.map ltr2) ∈ obTab ∧ ∀ x ∈ o.fs, Fl2Sm m x
def obR (o : Ob) : List Int := o.fs.flatMap fl2R
def kS (k : Nat) : Str := "K" ++ Str.ofString (toString (k : Int))
def kJs (k : Nat) : List Nat := (kS k).cps.toList.map fun c => chC.idxOf c
theorem kJs_ok : ∀ k < 16, tx (kJs k) = kS k ∧ (kJs k).length ≤ 12 ∧ ∀ j ∈ kJs k, j < 95 := by decide +kernel
def basesL : List Int := [-1, 1, 2, 2, 1, 5, 5, 1, 1, 1, 1, 1, 1, 13, 1, 1]
theorem basesL_ok : ∀ b ∈ basesL, -1 ≤ b ∧ b < 17 := by decide
def clsO (k : Nat) : Ob := ⟨"class", [.one (.x (kJs k)), .one (.b (basesL.getD k 0)), .one (.X [])]⟩
theorem clsO_sm {m k : Nat} (hm : 17 ≤ m) (hk : k < 16) : ObSm m (clsO k) := by
  refine ⟨by simp [clsO, ltr2, ltr, obTab], fun x hx => ?_⟩
  simp only [clsO, List.mem_cons, List.not_mem_nil, or_false] at hx
  rcases hx with rfl | rfl | rfl
  · exact ⟨(kJs_ok k hk).2.1, (kJs_ok k hk).2.2⟩
  · have h : basesL.getD k 0 ∈ basesL := by
      have : k < basesL.length := hk
      rw [List.getD_eq_getElem?_getD, List.getElem?_eq_getElem this]
      exact List.getElem_mem this
    have := basesL_ok _ h
    exact ⟨this.1, by omega⟩
  · exact ⟨by decide, by simp⟩
theorem clsO_D {k : Nat} (hk : k < 16) : obD (clsO k) = .tuple [.str "class", .str (kS k), .int (basesL.getD k 0), .tuple []] := by
  simp [obD, clsO, fl2D, fldD, (kJs_ok k hk).1]
def spHeap (K : PySem.W.Frag) : Sp := fun vs H Q _ => ∃ (p dl : Addr) (m : Nat), vs = [.ref p, .int (m : Int)] ∧ BoxAt H p dl ∧ 17 ≤ m ∧ m ≤ 100 ∧
  ∀ hl (obs : List Ob) H', H hl = none → ListAt K H' hl (obs.map obD) → obs.length = m → (∀ o ∈ obs, ObSm m o) → BoxAt H' p dl → Keep p H H' → Q (.ref hl) H'
theorem ok_heap {f : Addr} {fd : FuncData} (F : Fun K "_law_heap" "_law_heap" s_law_heap f fd) (T : Txt K mg) (U_law_field : Use P w K mg base CX0 "_law_field" 10 P_law_field (spField K)) (U_law_objects : Use P w K mg base CX0 "_law_objects" 1 P_law_objects (spTab obTab)) (U_law_shape : Use P w K mg base CX0 "_law_shape" 12 P_law_shape (spShape2 K)) : FnG P w K mg base CX0 13 f fd P_law_heap (spHeap K) := by
  refine okG0 F sc_law_heap (fun vs H Q E h => ?_) fun cdv A outer s H vs Q E hr hg h => ?_
  · obtain ⟨p, dl, m, rfl, _⟩ := h
    rfl
  · obtain ⟨p, dl, m, rfl, B, hm, hm2, k⟩ := h
    refine ⟨_, (pss_cons (ps_set (i := 2) sc_law_heap.nd rfl (Or.inl rfl) (pe_lst (pa_cons (pe_tup (pa_cons pe_str (pa_cons (pe_use U_law_field (hr.mono (by decide)) hg rfl (pa_cons (pv 0) (pa_cons pe_str (pa_cons (pv 1) pa_nil)))) (pa_cons (pe_tup pa_nil) (pa_cons (pe_tup pa_nil) (pa_cons (pe_un un_neg pe_int) (pa_cons pe_bl pa_nil))))))) pa_nil)))
  (pss_cons (ps_set (i := 3) sc_law_heap.nd rfl (Or.inl rfl) (pe_lst (pa_cons (pe_un un_neg pe_int) (pa_cons pe_int (pa_cons pe_int (pa_cons pe_int (pa_cons pe_int (pa_cons pe_int (pa_cons pe_int (pa_cons pe_int (pa_cons pe_int (pa_cons pe_int (pa_cons pe_int (pa_cons pe_int (pa_cons pe_int (pa_cons pe_int (pa_cons pe_int (pa_cons pe_int pa_nil))))))))))))))))))
  (pss_cons (ps_for PassesOwn.never rfl (pi_range1 (by rfl) T.b_range (pa_cons pe_int pa_nil)) (pg_name (i := 4) sc_law_heap.nd rfl (Or.inl rfl))
   (pss_one (ps_expr (pe_bm PySem.F.plainAttrs_list PySem.F.slot_list_append PySem.F.type_list_append mt_append (pv 2) (pa_cons (pe_tup (pa_cons pe_str (pa_cons (pe_op op_add_str pe_str (pe_callTy call_str_int (by rfl) T.b_str (by decide +kernel) (pa_cons (pv 4) pa_nil))) (pa_cons (pe_ix ix_list (pv 3) (pv 4) (fun _ _ => rfl)) (pa_cons (pe_tup pa_nil) pa_nil))))) pa_nil)))))
  (pss_cons (ps_for PassesOwn.never rfl (pi_range1 (by rfl) T.b_range (pa_cons (pe_op op_sub (pv 1) pe_int) pa_nil)) (pg_name (i := 4) sc_law_heap.nd rfl (Or.inl rfl))
   (pss_one (ps_expr (pe_bm PySem.F.plainAttrs_list PySem.F.slot_list_append PySem.F.type_list_append mt_append (pv 2) (pa_cons (pe_use U_law_shape (hr.mono (by decide)) hg rfl (pa_cons (pv 0) (pa_cons (pe_use0 U_law_objects (hr.mono (by decide)) hg rfl) (pa_cons (pv 1) pa_nil)))) pa_nil)))))
  (pss_one (ps_ret (pv 2))))))), ?_⟩
    refine ⟨_, rfl, _, rfl, p, dl, 88, m, rfl, by decide, by omega, by omega, B, fun v x H1 dv hl' hx B1 K1 => ?_⟩
    have nx : ∀ {q : Addr}, H1 q = none → H q = none := fun h => none_back0 K1 B1.at_ h
    refine ⟨sz_0, fun u1 h1 => ⟨sz_0, fun u2 h2 => ⟨_, rfl, Nat.le_of_ble_eq_true rfl, fun o0 ho0 => ⟨sz_1, fun hl hhl => ?_⟩⟩⟩⟩
    have S1 := Same.new (o := .tup []) h1
    have d1 := Dt.made (K := K) h1 .nil
    have S2 := Same.new (o := .tup []) h2
    have d2 := Dt.made (K := K) h2 .nil
    have S3 := Same.new (o := .tup [.str "scope", v, .ref u1, .ref u2, .int (-1), .bl false]) ho0
    have d3 := Dt.made (K := K) ho0 (.cons (.str "scope") (.cons (dv.mono (S1.trans S2)) (.cons (d1.mono S2) (.cons d2 (.cons (.int (-1)) (.cons (.bl false) .nil))))))
    have S4 := Same.new (o := .lst [.ref o0]) hhl
    have S14 := ((S1.trans S2).trans S3).trans S4
    have hn1 : H1 hl = none := same_none ((S1.trans S2).trans S3) hhl
    have hhn := nx hn1
    have hne := B1.ne_new hn1
    generalize ho : (⟨"scope", [x, .one (.t (.tuple [])), .one (.t (.tuple [])), .one (.b (-1)), .one (.t (.bool false))]⟩ : Ob) = ob0
    have sm0 : ObSm m ob0 := by
      subst ho
      refine ⟨by show (("scope" : Str), ltr2 x :: [116, 116, 98, 116]) ∈ obTab; rw [hl']; decide +kernel, fun y hy => ?_⟩
      simp only [List.mem_cons, List.not_mem_nil, or_false] at hy
      rcases hy with rfl | rfl | rfl | rfl | rfl
      · exact hx
      · exact .tup [] (by decide) (by simp)
      · exact .tup [] (by decide) (by simp)
      · exact ⟨by decide, by omega⟩
      · exact .bool false
    have L4 : ListAt K (upd _ hl (.lst [.ref o0])) hl [obD ob0] := ⟨_, upd_same, .cons (by subst ho; exact d3.mono S4) .nil⟩
    have B4 := B1.same S14
    have K4 := K1.trans (Same.keep S14)
    generalize upd _ hl (.lst [.ref o0]) = H4 at S14 L4 B4 K4
    clear S1 S2 S3 S4 d1 d2 d3 dv hhl ho0 h1 h2 S14
    -- bases
    refine ⟨_, rfl, Nat.le_of_ble_eq_true rfl, fun bl hbl => ?_⟩
    have ebl := upd_same (H := H4) (a := bl) (o := HO.lst (basesL.map V.int))
    have S5 := Same.new (o := HO.lst (basesL.map V.int)) hbl
    have hbl0 : bl ≠ hl := fun e => by
      obtain ⟨_, e1, _⟩ := L4
      subst e
      rw [e1] at hbl
      cases hbl
    have hblp := B4.ne_new hbl
    have L5 := listAt_mono L4 S5
    have B5 := B4.same S5
    have K5 := K4.trans (Same.keep S5)
    clear hbl L4 B4 K4 S5
    refine ⟨_, rfl, by decide, by decide, ?_⟩
    have put : ∀ {H8 : Hp} {t : V} {o : Ob} {obs : List Ob} {acc : List V}, ListAt K H8 hl (obs.map obD) → BoxAt H8 p dl → Keep p H H8 → H8 bl = some (.lst (basesL.map V.int)) → H8 hl = some (.lst acc) → Dt K H8 t (obD o) → obs.length ≤ 200 →
        acc.length < sizeLine ∧ ListAt K (upd H8 hl (.lst (acc ++ [t]))) hl ((obs ++ [o]).map obD) ∧ BoxAt (upd H8 hl (.lst (acc ++ [t]))) p dl ∧ Keep p H (upd H8 hl (.lst (acc ++ [t]))) ∧ (upd H8 hl (.lst (acc ++ [t]))) bl = some (.lst (basesL.map V.int)) := fun L8 B8 K8 eb8 e8 d8 hl8 => by
      obtain ⟨acc', e', a'⟩ := id L8
      rw [e'] at e8
      obtain rfl := HO.lst.inj (Option.some.inj e8)
      have := a'.length
      rw [List.length_map] at this
      refine ⟨Nat.lt_of_le_of_lt (show _ ≤ 200 by omega) (by decide), by rw [List.map_append]; exact listAt_app L8 e' d8, B8.upd hne.1 hne.2, fun b o hb nb => ?_, by rw [upd_ne hbl0]; exact eb8⟩
      rw [upd_ne (ne_of_none hb hhn)]
      exact K8 b o hb nb
    refine for_range (lo := 0) (n := 16) (fun i σ H' => ∃ x4, ListAt K H' hl ((ob0 :: (List.range i).map clsO).map obD) ∧ BoxAt H' p dl ∧ Keep p H H' ∧ H' bl = some (.lst (basesL.map V.int)) ∧ σ = [some (.ref p), some (.int (m : Int)), some (.ref hl), some (.ref bl), x4]) ⟨none, L5, B5, K5, ebl, rfl⟩ ?_ ?_
    · rintro i σ H6 hi ⟨x4, L6, B6, K6, eb6, rfl⟩
      rw [Int.zero_add]
      obtain ⟨acc, e6, _⟩ := id L6
      obtain ⟨q1, q2, q3⟩ := (show ∀ i : Nat, i < 16 → (i : Int).natAbs.log2 < 1920 ∧ ("K" : Str).length + (Str.ofString (toString (i : Int))).length ≤ sizeLine ∧ basesL[i]? = some (basesL.getD i 0) by decide +kernel) i hi
      refine ⟨_, rfl, .inl ⟨rfl, _, SqL.of e6⟩, _, rfl, _, rfl, q1, _, _, rfl, rfl, q2, _, rfl, _, rfl, bl, _, _, _, rfl, rfl, SqL.of eb6, atI_nat (by rw [List.getElem?_map, q3]; rfl), sz_0, fun u hu => ⟨sz_4, fun t ht => ?_⟩⟩
      have S7 := (Same.new (o := .tup []) hu).trans (Same.new (o := .tup [.str "class", .str (kS i), .int (basesL.getD i 0), .ref u]) ht)
      have d7 : Dt K (upd (upd H6 u (.tup [])) t (.tup [.str "class", .str (kS i), .int (basesL.getD i 0), .ref u])) (.ref t) (obD (clsO i)) := by
        rw [clsO_D hi]
        exact Dt.made (K := K) ht (.cons (.str "class") (.cons (.str (kS i)) (.cons (.int (basesL.getD i 0)) (.cons (Dt.made (K := K) hu .nil) .nil))))
      obtain ⟨w1, w2, w3, w4, w5⟩ := put (listAt_mono L6 S7) (B6.same S7) (K6.trans (Same.keep S7)) (S7 _ _ eb6) (S7 _ _ e6) d7 (by simp; omega)
      refine ⟨hl, _, _, rfl, rfl, S7 _ _ e6, w1, some (.int i), ?_, w3, w4, w5, rfl⟩
      rw [List.range_succ, List.map_append]
      exact w2
    rintro σ H6 ⟨x4, L6, B6, K6, eb6, rfl⟩
    clear L5 B5 K5 ebl
    refine ⟨_, rfl, _, _, rfl, rfl, _, rfl, by omega, by omega, ?_⟩
    refine for_range (lo := 0) (n := ((m : Int) - 17).toNat) (fun i σ H' => ∃ (more : List Ob) (x4 : Option V), more.length = i ∧ (∀ o ∈ more, ObSm m o) ∧ ListAt K H' hl (((ob0 :: (List.range 16).map clsO) ++ more).map obD) ∧ BoxAt H' p dl ∧ Keep p H H' ∧ H' bl = some (.lst (basesL.map V.int)) ∧ σ = [some (.ref p), some (.int (m : Int)), some (.ref hl), some (.ref bl), x4]) ⟨[], x4, rfl, by simp, by rw [List.append_nil]; exact L6, B6, K6, eb6, rfl⟩ ?_ ?_
    · rintro i σ H7 hi ⟨more, x4, hml, hms, L7, B7, K7, eb7, rfl⟩
      obtain ⟨acc, e7, _⟩ := id L7
      refine ⟨_, rfl, .inl ⟨rfl, _, SqL.of e7⟩, _, rfl, rfl, fun tl H8 S8 T8 => ⟨_, rfl, p, dl, tl, obTab, m, rfl, T8, by decide, by decide, obTab_ok, by omega, by omega, B7.same S8, fun w kd fs H9 hmem dw hfs B9 K9 => ?_⟩⟩
      have L9 := listAt_keep (listAt_mono L7 S8) K9 hne.1 (B7.same S8).at_
      have eb9 := K9 _ _ (S8 _ _ eb7) hblp.1
      have e9 := K9 _ _ (S8 _ _ e7) hne.1
      obtain ⟨w1, w2, w3, w4, w5⟩ := put (o := ⟨kd, fs⟩) L9 B9 ((K7.trans (Same.keep S8)).trans K9) eb9 e9 dw (by simp; omega)
      refine ⟨hl, _, _, rfl, rfl, e9, w1, more ++ [⟨kd, fs⟩], _, by rw [List.length_append, hml]; rfl, fun o ho => ?_, by rw [← List.append_assoc]; exact w2, w3, w4, w5, rfl⟩
      rcases List.mem_append.mp ho with h | h
      · exact hms o h
      · rw [List.mem_singleton.mp h]; exact ⟨hmem, hfs⟩
    rintro σ H7 ⟨more, x4, hml, hms, L7, B7, K7, eb7, rfl⟩
    refine ⟨_, rfl, k hl _ H7 hhn L7 (by simp; omega) (fun o ho => ?_) B7 K7⟩
    rcases List.mem_append.mp ho with h | h
    · rcases List.mem_cons.mp h with rfl | h
      · exact sm0
      · obtain ⟨i, hi, rfl⟩ := List.mem_map.mp h
        exact clsO_sm hm (List.mem_range.mp hi)
    · exact hms o h
structure Pt where
  c : Fr
  frs : List Fr
  obs : List Ob
  out : Str
  act : Int
  here : Str
  line : Int
  steps : Int
structure PtSm (m : Nat) (P : Pt) : Prop where
  c : (P.c.kd, P.c.fs.map ltr) ∈ coTab ∧ ∀ x ∈ P.c.fs, FldSm m x
  fl : P.frs.length ≤ 5
  f : ∀ f ∈ P.frs, FrSm m f
  ol : P.obs.length = m
  o : ∀ o ∈ P.obs, ObSm m o
structure PtAt (K : PySem.W.Frag) (H : Hp) (lp fl hl : Addr) (P : Pt) : Prop where
  ex : ∃ vc, H lp = some (.lst [vc, .ref fl, .ref hl, .str P.out, .int P.act, .str P.here, .int P.line, .int P.steps]) ∧ Dt K H vc (frD P.c)
  f : ListAt K H fl (P.frs.map frD)
  h : ListAt K H hl (P.obs.map obD)
theorem PtAt.same {H H' : Hp} {lp fl hl : Addr} {P : Pt} (A : PtAt K H lp fl hl P) (S : Same H H') : PtAt K H' lp fl hl P := ⟨let ⟨v, e, d⟩ := A.ex; ⟨v, S _ _ e, d.mono S⟩, listAt_mono A.f S, listAt_mono A.h S⟩
theorem PtAt.lp_ne {H : Hp} {lp fl hl : Addr} {P : Pt} (A : PtAt K H lp fl hl P) : lp ≠ hl ∧ lp ≠ fl := by
  obtain ⟨vc, e, d⟩ := A.ex
  constructor
  · obtain ⟨xs, e2, a⟩ := A.h
    intro h; subst h
    rw [e] at e2
    have e2 := HO.lst.inj (Option.some.inj e2)
    rw [← e2] at a
    obtain ⟨_, h1, h2⟩ := a.getV (i := 1) rfl
    rw [List.getElem?_map] at h1
    obtain ⟨o, _, rfl⟩ := Option.map_eq_some_iff.mp h1
    obtain ⟨_, h1, h2⟩ := a.getV (i := 3) rfl
    rw [List.getElem?_map] at h1
    obtain ⟨o, _, rfl⟩ := Option.map_eq_some_iff.mp h1
    cases h2
  · obtain ⟨xs, e2, a⟩ := A.f
    intro h; subst h
    rw [e] at e2
    have e2 := HO.lst.inj (Option.some.inj e2)
    rw [← e2] at a
    obtain ⟨_, h1, h2⟩ := a.getV (i := 3) rfl
    rw [List.getElem?_map] at h1
    obtain ⟨o, _, rfl⟩ := Option.map_eq_some_iff.mp h1
    cases h2
structure PtV (M : Pt) (out here : List Nat) (a l s : Nat) : Prop where
  eo : M.out = tx out
  eh : M.here = tx here
  ea : M.act = (a : Int)
  el : M.line = (l : Int)
  es : M.steps = (s : Int)
  o1 : out.length ≤ 1000
  o2 : ∀ j ∈ out, j < 95
  h1 : here.length ≤ 30
  h2 : ∀ j ∈ here, j < 95
  a1 : a ≤ 60
  l1 : l ≤ 10 ^ 6
  s1 : s ≤ 10 ^ 6
def PtX (M : Pt) : Prop := ∃ out here a l s, PtV M out here a l s
theorem ptx {c : Fr} {frs : List Fr} {obs : List Ob} {js js2 : List Nat} {m1 m2 m3 m4 : Int} (h1 : js.length ≤ 40) (h2 : ∀ j ∈ js, j < 95) (h3 : js2.length ≤ 5) (h4 : ∀ j ∈ js2, j < 95) (u0 : 0 ≤ m1) (u1 : m1 < 61) (v0 : 0 ≤ m2) (v1 : m2 < 1000) (q0 : 0 ≤ m3) (q1 : m3 < 1000) (q2 : 0 ≤ m4) (q3 : m4 < 1000) :
    PtX ⟨c, frs, obs, tx js, m1, tx js2, m2, m3 * m4⟩ := by
  obtain ⟨a, rfl⟩ := Int.eq_ofNat_of_zero_le u0
  obtain ⟨b, rfl⟩ := Int.eq_ofNat_of_zero_le v0
  obtain ⟨d, rfl⟩ := Int.eq_ofNat_of_zero_le q0
  obtain ⟨e, rfl⟩ := Int.eq_ofNat_of_zero_le q2
  have := Nat.mul_le_mul (show d ≤ 1000 by omega) (show e ≤ 1000 by omega)
  exact ⟨js, js2, a, b, d * e, rfl, rfl, rfl, rfl, (Int.natCast_mul d e).symm, by omega, h2, by omega, h4, by omega, by omega, by omega⟩
def spParts (K : PySem.W.Frag) : Sp := fun vs H Q _ => ∃ (p dl : Addr), vs = [.ref p] ∧ BoxAt H p dl ∧ ∀ lp fl hl m (P : Pt) H', PtAt K H' lp fl hl P → PtSm m P → 17 ≤ m → m ≤ 29 → PtX P → H lp = none → H hl = none → H fl = none → hl ≠ fl → BoxAt H' p dl → Keep p H H' → Q (.ref lp) H'
theorem ok_parts {f : Addr} {fd : FuncData} (F : Fun K "_law_parts" "_law_parts" s_law_parts f fd) (T : Txt K mg) (U_law_draw : Use P w K mg base CX0 "_law_draw" 1 P_law_draw (spDraw K)) (U_law_shape : Use P w K mg base CX0 "_law_shape" 9 P_law_shape (spShape K)) (U_law_controls : Use P w K mg base CX0 "_law_controls" 1 P_law_controls (spTab coTab)) (U_law_frames : Use P w K mg base CX0 "_law_frames" 1 P_law_frames (spTab frTab))
    (U_law_heap : Use P w K mg base CX0 "_law_heap" 13 P_law_heap (spHeap K)) (U_law_text : Use P w K mg base CX0 "_law_text" 2 P_law_text (spText K)) (U_law_name : Use P w K mg base CX0 "_law_name" 2 P_law_name (spName K)) : FnG P w K mg base CX0 14 f fd P_law_parts (spParts K) := by
  refine okG0 F sc_law_parts (fun vs H Q E h => ?_) fun cdv A outer s H vs Q E hr hg h => ?_
  · obtain ⟨p, dl, rfl, _⟩ := h
    rfl
  · obtain ⟨p, dl, rfl, B, k⟩ := h
    refine ⟨_, (pss_cons (ps_set (i := 1) sc_law_parts.nd rfl (Or.inr rfl) (pe_op op_add pe_int (pe_use U_law_draw (hr.mono (by decide)) hg rfl (pa_cons (pv 0) (pa_cons pe_int pa_nil)))))
  (pss_cons (ps_set (i := 2) sc_law_parts.nd rfl (Or.inl rfl) (pe_use U_law_shape (hr.mono (by decide)) hg rfl (pa_cons (pv 0) (pa_cons (pe_use0 U_law_controls (hr.mono (by decide)) hg rfl) (pa_cons (pv 1) pa_nil)))))
  (pss_cons (ps_setLc (i := 3) (own := [("k", 4)]) (g := (gName 4)) rfl sc_law_parts.nd rfl rfl (sw_true rfl rfl rfl (by decide +kernel)) (pi_range1 (by rfl) T.b_range (pa_cons (pe_use U_law_draw (hr.mono (by decide)) hg rfl (pa_cons (pv 0) (pa_cons pe_int pa_nil))) pa_nil)) (blkOk_by (N := N_law_parts) (sc := defScope s_law_parts) (by decide +kernel)) (fun _ _ _ _ _ => (pg_name (i := 4) sc_law_parts.nd rfl (Or.inl rfl))) (fun _ _ _ _ _ => pts_nil) (fun _ _ _ _ _ => (pe_use U_law_shape (hr.mono (by decide)) hg rfl (pa_cons (pv 0) (pa_cons (pe_use0 U_law_frames (hr.mono (by decide)) hg rfl) (pa_cons (pv 1) pa_nil))))))
  (pss_cons (ps_set (i := 5) sc_law_parts.nd rfl (Or.inl rfl) (pe_use U_law_heap (hr.mono (by decide)) hg rfl (pa_cons (pv 0) (pa_cons (pv 1) pa_nil))))
  (pss_cons (ps_set (i := 6) sc_law_parts.nd rfl (Or.inl rfl) (pe_lst (pa_cons (pe_use U_law_draw (hr.mono (by decide)) hg rfl (pa_cons (pv 0) (pa_cons pe_int pa_nil))) (pa_cons (pe_use U_law_draw (hr.mono (by decide)) hg rfl (pa_cons (pv 0) (pa_cons pe_int pa_nil))) (pa_cons (pe_op op_mul (pe_use U_law_draw (hr.mono (by decide)) hg rfl (pa_cons (pv 0) (pa_cons pe_int pa_nil))) (pe_use U_law_draw (hr.mono (by decide)) hg rfl (pa_cons (pv 0) (pa_cons pe_int pa_nil)))) pa_nil)))))
  (pss_one (ps_ret (pe_lst (pa_cons (pv 2) (pa_cons (pv 3) (pa_cons (pv 5) (pa_cons (pe_use U_law_text (hr.mono (by decide)) hg rfl (pa_cons (pv 0) (pa_cons pe_int pa_nil))) (pa_cons (pe_ix ix_list (pv 6) pe_int (fun _ _ => rfl)) (pa_cons (pe_use U_law_name (hr.mono (by decide)) hg rfl (pa_cons (pv 0) pa_nil)) (pa_cons (pe_ix ix_list (pv 6) pe_int (fun _ _ => rfl)) (pa_cons (pe_ix ix_list (pv 6) pe_int (fun _ _ => rfl)) pa_nil)))))))))))))))), ?_⟩
    refine ⟨_, rfl, p, dl, 13, rfl, B, by decide, fun r H1 r0 r1 B1 K1 => ⟨_, _, rfl, rfl, ?_⟩⟩
    obtain ⟨m, hm⟩ : ∃ m : Nat, (17 : Int) + r = (m : Int) := ⟨(17 + r).toNat, by omega⟩
    dsimp only
    rw [hm]
    refine ⟨_, rfl, rfl, fun tl H2 S2 T2 => ⟨_, rfl, p, dl, tl, coTab, m, rfl, T2, by decide, by decide, coTab_ok, by omega, by omega, B1.same S2, fun vc kc fc H3 hmc dvc hfc B3 K3 => ?_⟩⟩
    have K13 := (K1.trans (Same.keep S2)).trans K3
    -- frames
    refine ⟨_, rfl, p, dl, 6, rfl, B3, by decide, fun n H4 n0 n1 B4 K4 => ?_⟩
    obtain ⟨n, rfl⟩ := Int.eq_ofNat_of_zero_le n0
    refine ⟨n, rfl, by omega, by omega, fun fl hfl => ?_⟩
    rw [Int.toNat_natCast]
    refine lc_it (walk_range (lo := 0) (n := n)) (fun i H' => Acc K H4 fl p dl (fun d => ∃ x, d = frD x ∧ FrSm m x) i H') (Acc.start hfl B4) (fun _ _ _ _ => trivial) ?_ ?_
    · rintro i x H5 H6 hi A ⟨rfl, rfl⟩
      refine ⟨rfl, tYes_of ?_⟩
      obtain ⟨_, _, _, _, _, _, B5, _⟩ := id A
      refine ⟨_, rfl, rfl, fun tl H7 S7 T7 => ⟨_, rfl, p, dl, tl, frTab, m, rfl, T7, frTab_ne, frTab_len, frTab_ok, by omega, by omega, B5.same S7, fun v kd fs H8 hmem dv hfs B8 K8 => ?_⟩⟩
      exact A.put (by omega) hfl B4 B8 ((Same.keep S7).trans K8) dv ⟨⟨kd, fs⟩, rfl, hmem, hfs⟩
    rintro H5 ⟨acc, ds, e5, a5, hl5, hp5, B5, K5⟩
    obtain ⟨frs, rfl, hfrs⟩ := ex_map hp5
    rw [List.length_map] at hl5
    have flp : fl ≠ p := (B4.ne_new hfl).1
    have hfln : H fl = none := none_back0 (K13.trans K4) B4.at_ hfl
    have dvc5 := (dvc.keepT (K4.keepT B3.at_)).keepT (K5.keepT B4.at_)
    have K15 := (K13.trans K4).trans K5
    have LF : ListAt K H5 fl (frs.map frD) := ⟨acc, e5, a5⟩
    -- heap
    refine ⟨_, rfl, _, rfl, p, dl, m, rfl, B5, by omega, by omega, fun hl obs H6 hhl L6 hol hos B6 K6 => ?_⟩
    have hhln : H hl = none := none_back0 K15 B5.at_ hhl
    have hlf : hl ≠ fl := fun e => by rw [e, e5] at hhl; cases hhl
    have hlp : hl ≠ p := (B5.ne_new hhl).1
    have LF6 := listAt_keep LF K6 flp B5.at_
    have dvc6 := dvc5.keepT (K6.keepT B5.at_)
    have K16 := K15.trans K6
    clear LF dvc dvc5 K13 K15 e5 a5 K4 K5 K6 B1 B3 B4 B5 B hfl hhl K1 K3 S2 T2
    -- numbers
    refine ⟨_, rfl, p, dl, 61, rfl, B6, by decide, fun m1 H7 u0 u1 B7 K7 => ⟨_, rfl, p, dl, 1000, rfl, B7, by decide, fun m2 H8 v0 v1 B8 K8 => ⟨_, rfl, p, dl, 1000, rfl, B8, by decide, fun m3 H9 q0 q1 B9 K9 => ⟨_, rfl, p, dl, 1000, rfl, B9, by decide, fun m4 H10 q2 q3 B10 K10 => ⟨_, _, rfl, rfl, .inl ⟨by omega, by omega⟩, sz_3, fun nl hnl => ?_⟩⟩⟩⟩⟩
    have K610 := ((K7.trans K8).trans K9).trans K10
    have S11 := Same.new (o := .lst [.int m1, .int m2, .int (m3 * m4)]) hnl
    have en := upd_same (H := H10) (a := nl) (o := HO.lst [.int m1, .int m2, .int (m3 * m4)])
    have nlp := (B10.ne_new hnl).1
    have B11 := B10.same S11
    have L11 := listAt_mono (listAt_keep L6 K610 hlp B6.at_) S11
    have LF11 := listAt_mono (listAt_keep LF6 K610 flp B6.at_) S11
    have dvc11 := (dvc6.keepT (K610.keepT B6.at_)).mono S11
    have K11 := (K16.trans K610).trans (Same.keep S11)
    generalize upd H10 nl (.lst [.int m1, .int m2, .int (m3 * m4)]) = H11 at en S11 B11 L11 LF11 dvc11 K11
    clear S11 hnl K610 K7 K8 K9 K10 B7 B8 B9 B10 L6 LF6 dvc6 K16 B6
    -- the list
    refine ⟨_, rfl, _, rfl, _, rfl, _, rfl, p, dl, 40, rfl, B11, by decide, fun js H12 hjs1 hjs2 B12 K12 => ?_⟩
    have en12 := K12 _ _ en nlp
    refine ⟨_, rfl, nl, _, _, _, rfl, rfl, SqL.of en12, at0, _, rfl, p, dl, rfl, B12, fun js2 H13 hj1 hj2 B13 K13 => ?_⟩
    have en13 := K13 _ _ en12 nlp
    refine ⟨_, rfl, nl, _, _, _, rfl, rfl, SqL.of en13, at1, _, rfl, nl, _, _, _, rfl, rfl, SqL.of en13, at2, Nat.le_of_ble_eq_true rfl, fun lp hlp2 => ?_⟩
    have S14 := Same.new (o := .lst [vc, .ref fl, .ref hl, .str (tx js), .int m1, .str (tx js2), .int m2, .int (m3 * m4)]) hlp2
    have K1113 := K12.trans K13
    refine k lp fl hl m ⟨⟨kc, fc⟩, frs, obs, tx js, m1, tx js2, m2, m3 * m4⟩ _ ⟨⟨vc, upd_same, (dvc11.keepT (K1113.keepT B11.at_)).mono S14⟩, listAt_mono (listAt_keep LF11 K1113 flp B11.at_) S14, listAt_mono (listAt_keep L11 K1113 hlp B11.at_) S14⟩
      ⟨⟨hmc, hfc⟩, by show frs.length ≤ 5; omega, hfrs, hol, hos⟩ (by omega) (by omega) (ptx hjs1 hjs2 hj1 hj2 u0 u1 v0 v1 q0 q1 q2 q3) (none_back0 (K11.trans K1113) B13.at_ hlp2) hhln hfln hlf (B13.same S14) ((K11.trans K1113).trans (Same.keep S14))
--SPLIT
end

abbrev s_law_made : Stmt := top 73
abbrev N_law_made : List Str := ["parts", "heap"]
abbrev P_law_made : List Str := ["parts"]
theorem sc_law_made : FnScope N_law_made P_law_made (defScope s_law_made) := ⟨rfl, rfl, rfl, by decide +kernel, rfl, by decide +kernel, by decide +kernel⟩
abbrev s_law_machine_is : Stmt := top 74
abbrev N_law_machine_is : List Str := ["actual", "parts", "rest"]
abbrev P_law_machine_is : List Str := ["actual", "parts"]
theorem sc_law_machine_is : FnScope N_law_machine_is P_law_machine_is (defScope s_law_machine_is) := ⟨rfl, rfl, rfl, by decide +kernel, rfl, by decide +kernel, by decide +kernel⟩
section
variable {P : Program} {w : World} {K : PySem.W.Frag} {mg : Str → Option Value} {base : Heap}
theorem ValSm.up {m n : Nat} (h : m ≤ n) : ∀ {x : Val}, ValSm m x → ValSm n x
  | .none, _ => trivial
  | .bool _, _ => trivial
  | .int _, a => a
  | .text _, a => a
  | .span _ _, a => a
  | .built _, a => a
  | .host _, a => a
  | .ref _, a => Nat.lt_of_lt_of_le a h
theorem FldSm.up {m n : Nat} (h : m ≤ n) : ∀ {x : Fld}, FldSm m x → FldSm n x
  | .v _, a => ValSm.up h a
  | .V _, a => ⟨a.1, fun x hx => (a.2 x hx).up h⟩
  | .W _, a => ⟨a.1, fun x hx => ⟨(a.2 x hx).1.up h, (a.2 x hx).2.up h⟩⟩
  | .X _, a => ⟨a.1, fun x hx => ⟨(a.2 x hx).1, (a.2 x hx).2.up h⟩⟩
  | .t _, a => a
  | .a _, a => Nat.lt_of_lt_of_le a h
  | .b _, a => ⟨a.1, Int.lt_of_lt_of_le a.2 (by omega)⟩
  | .n _, a => a
  | .x _, a => a
  | .s0, a => a
  | .s1 _, a => a
  | .s2 _ _, a => ⟨a.1, a.2.up h⟩
theorem FrSm.up {m n : Nat} (h : m ≤ n) {f : Fr} (a : FrSm m f) : FrSm n f := ⟨a.1, fun x hx => (a.2 x hx).up h⟩
theorem Fl2Sm.up {m n : Nat} (h : m ≤ n) : ∀ {x : Fl2}, Fl2Sm m x → Fl2Sm n x
  | .one _, a => FldSm.up h a
  | .fr _, a => ⟨a.1, fun f hf => (a.2 f hf).up h⟩
theorem ObSm.up {m n : Nat} (h : m ≤ n) {o : Ob} (a : ObSm m o) : ObSm n o := ⟨a.1, fun x hx => (a.2 x hx).up h⟩
/-! what a machine's parts are as data -/
theorem wd_val {n : Nat} (x : Val) : Wd (n + 1) (valD x) := by
  cases x <;> exact .tup (by simp) fun d hd => by
    simp only [List.mem_cons, List.not_mem_nil, or_false] at hd
    first
      | (subst hd; first | exact .str _ | exact .int _ | exact .bool _)
      | (rcases hd with rfl | rfl <;> first | exact .str _ | exact .int _ | exact .bool _)
      | (rcases hd with rfl | rfl | rfl <;> first | exact .str _ | exact .int _ | exact .bool _)
theorem wd_tree {n : Nat} {d : PyData} (h : TreeD n d) : Wd n d := by
  induction h with
  | str js _ _ => exact .str _
  | int i _ => exact .int i
  | bool b => exact .bool b
  | tup ds h1 _ ih => exact .tup (by omega) ih
theorem wd_fld {m : Nat} : ∀ {x : Fld}, FldSm m x → Wd 3 (fldD x)
  | .v x, _ => wd_val x
  | .V xs, h => .tup (by rw [List.length_map]; have := h.1; omega) fun d hd => by obtain ⟨x, _, rfl⟩ := List.mem_map.mp hd; exact wd_val x
  | .W ps, h => .tup (by rw [List.length_map]; have := h.1; omega) fun d hd => by
      obtain ⟨x, _, rfl⟩ := List.mem_map.mp hd
      refine .tup (by simp) fun d hd => ?_
      simp only [List.mem_cons, List.not_mem_nil, or_false] at hd
      rcases hd with rfl | rfl <;> exact wd_val _
  | .X ps, h => .tup (by rw [List.length_map]; have := h.1; omega) fun d hd => by
      obtain ⟨x, _, rfl⟩ := List.mem_map.mp hd
      refine .tup (by simp) fun d hd => ?_
      simp only [List.mem_cons, List.not_mem_nil, or_false] at hd
      rcases hd with rfl | rfl
      · exact .str _
      · exact wd_val _
  | .t d, h => wd_tree h
  | .a k, _ => .int _
  | .b k, _ => .int _
  | .n k, _ => .int _
  | .x js, _ => .str _
  | .s0, _ => .tup (by simp) (by simp)
  | .s1 z, _ => .tup (by simp) fun d hd => by rw [List.mem_singleton.mp hd]; exact .str _
  | .s2 z x, _ => .tup (by simp) fun d hd => by
      simp only [List.mem_cons, List.not_mem_nil, or_false] at hd
      rcases hd with rfl | rfl
      · exact .str _
      · exact wd_val _
theorem wd_row {n m : Nat} {kd : Str} {ds : List PyData} (hl : ds.length ≤ 20) (h : ∀ d ∈ ds, Wd n d) (hm : n + 1 ≤ m) : Wd m (.tuple (.str kd :: ds)) :=
  (Wd.tup (n := n) (by simp; omega) fun d hd => by
    rcases List.mem_cons.mp hd with rfl | hd
    · exact .str _
    · exact h d hd).up hm
theorem coTab_len {kd : Str} {ls : List Nat} (h : (kd, ls) ∈ coTab) : ls.length ≤ 10 := (coTab_ok _ h).2
theorem frTab_len10 {kd : Str} {ls : List Nat} (h : (kd, ls) ∈ frTab) : ls.length ≤ 10 := (frTab_ok _ h).2
theorem obTab_len10 {kd : Str} {ls : List Nat} (h : (kd, ls) ∈ obTab) : ls.length ≤ 10 := (obTab_ok _ h).2
theorem wd_fr {m : Nat} {f : Fr} (hl : f.fs.length ≤ 20) (h : ∀ x ∈ f.fs, FldSm m x) : Wd 4 (frD f) :=
  wd_row (by rw [List.length_map]; exact hl) (fun d hd => by obtain ⟨x, hx, rfl⟩ := List.mem_map.mp hd; exact wd_fld (h x hx)) (by decide)
theorem FrSm.wd {m : Nat} {f : Fr} (h : FrSm m f) : Wd 4 (frD f) := wd_fr (by have := frTab_len10 h.1; rw [List.length_map] at this; omega) h.2
theorem wd_fl2 {m : Nat} : ∀ {x : Fl2}, Fl2Sm m x → Wd 5 (fl2D x)
  | .one _, h => (wd_fld h).up (by decide)
  | .fr _, h => .tup (by rw [List.length_map]; have := h.1; omega) fun d hd => by obtain ⟨f, hf, rfl⟩ := List.mem_map.mp hd; exact (h.2 f hf).wd
theorem ObSm.wd {m : Nat} {o : Ob} (h : ObSm m o) : Wd 6 (obD o) :=
  wd_row (by rw [List.length_map]; have := obTab_len10 h.1; rw [List.length_map] at this; omega) (fun d hd => by obtain ⟨x, hx, rfl⟩ := List.mem_map.mp hd; exact wd_fl2 (h.2 x hx)) (by decide)
/-- a machine that holds the parts -/
structure MacAt (K : PySem.W.Frag) (C : Addr) (H : Hp) (ma fl hl : Addr) (P : Pt) : Prop where
  ex : ∃ vc, MAt C H ma vc (.ref fl) (.ref hl) (.str P.out) (.int P.act) (.str P.here) (.int P.line) (.int P.steps) ∧ Dt K H vc (frD P.c)
  f : ListAt K H fl (P.frs.map frD)
  h : ListAt K H hl (P.obs.map obD)
theorem MacAt.same {C : Addr} {H H' : Hp} {ma fl hl : Addr} {P : Pt} (A : MacAt K C H ma fl hl P) (S : Same H H') : MacAt K C H' ma fl hl P := ⟨let ⟨v, e, d⟩ := A.ex; ⟨v, e.same S, d.mono S⟩, listAt_mono A.f S, listAt_mono A.h S⟩
def spMadeM (K : PySem.W.Frag) (C : Addr) : Sp := fun vs H Q _ => ∃ (lp fl hl : Addr) (P : Pt), vs = [.ref lp] ∧ PtAt K H lp fl hl P ∧ ∀ ma fl' hl' H', MacAt K C H' ma fl' hl' P → Same H H' → H ma = none → H fl' = none → H hl' = none → fl' ≠ hl' → Q (.ref ma) H'
theorem ok_made {C : Addr} {f : Addr} {fd : FuncData} (F : Fun K "_law_made" "_law_made" s_law_made f fd) (T : Txt K mg) (UC_Machine : UseC K mg "Machine" fM C) (U_Machine___init__ : UseK P w K mg base "Machine" C 1 P_Machine___init__ (spMInit C)) : FnG P w K mg base CX0 3 f fd P_law_made (spMadeM K C) := by
  refine okG0 F sc_law_made (fun vs H Q E h => ?_) fun cdv A outer s H vs Q E hr hg h => ?_
  · obtain ⟨lp, fl, hl, P, rfl, _⟩ := h
    rfl
  · obtain ⟨lp, fl, hl, P, rfl, PA, k⟩ := h
    refine ⟨_, (pss_cons (ps_set (i := 1) sc_law_made.nd rfl (Or.inl rfl) (pe_callTy call_list_of (by rfl) T.b_list (by decide +kernel) (pa_cons (pe_ix ix_list (pv 0) pe_int (fun _ _ => rfl)) pa_nil)))
  (pss_one (ps_ret (pe_mk U_Machine___init__ (hr.mono (by decide)) rfl (pa_cons (pe_ix ix_list (pv 0) pe_int (fun _ _ => rfl)) (pa_cons (pe_callTy call_list_of (by rfl) T.b_list (by decide +kernel) (pa_cons (pe_ix ix_list (pv 0) pe_int (fun _ _ => rfl)) pa_nil)) (pa_cons (pv 1) (pa_cons (pe_ix ix_list (pv 0) pe_int (fun _ _ => rfl)) (pa_cons (pe_ix ix_list (pv 0) pe_int (fun _ _ => rfl)) (pa_cons (pe_ix ix_list (pv 0) pe_int (fun _ _ => rfl)) (pa_cons (pe_ix ix_list (pv 0) pe_int (fun _ _ => rfl)) (pa_cons (pe_ix ix_list (pv 0) pe_int (fun _ _ => rfl)) pa_nil)))))))))))), ?_⟩
    obtain ⟨vc, e, dvc⟩ := PA.ex
    obtain ⟨xs, ex, ax⟩ := PA.h
    obtain ⟨ys, ey, ay⟩ := PA.f
    refine ⟨_, rfl, lp, _, _, _, rfl, rfl, SqL.of e, at2, hl, xs, rfl, .inl (SqL.of ex), fun h2 hh2 => ?_⟩
    have S1 := Same.new (o := .lst xs) hh2
    have eh2 := upd_same (H := H) (a := h2) (o := HO.lst xs)
    generalize upd H h2 (.lst xs) = H1 at S1 eh2
    have e1 := S1 _ _ e
    refine ⟨_, rfl, lp, _, _, _, rfl, rfl, SqL.of e1, at0, _, rfl, lp, _, _, _, rfl, rfl, SqL.of e1, at1, fl, ys, rfl, .inl (SqL.of (S1 _ _ ey)), fun f2 hf2 => ?_⟩
    have S2 := Same.new (o := .lst ys) hf2
    have ef2 := upd_same (H := H1) (a := f2) (o := HO.lst ys)
    have hf2n : H f2 = none := same_none S1 hf2
    have hfh : f2 ≠ h2 := Ne.symm (ne_of_none eh2 hf2)
    generalize upd H1 f2 (.lst ys) = H2 at S2 ef2
    have e2 := S2 _ _ e1
    refine ⟨_, rfl, _, rfl, lp, _, _, _, rfl, rfl, SqL.of e2, at_of' (j := 3) rfl rfl, _, rfl, lp, _, _, _, rfl, rfl, SqL.of e2, at_of' (j := 4) rfl rfl, _, rfl, lp, _, _, _, rfl, rfl, SqL.of e2, at_of' (j := 5) rfl rfl, _, rfl, lp, _, _, _, rfl, rfl, SqL.of e2, at_of' (j := 6) rfl rfl, _, rfl, lp, _, _, _, rfl, rfl, SqL.of e2, at_of' (j := 7) rfl rfl, ?_⟩
    intro m dx nm ndx ne
    have S4 : Same H2 (upd (upd H2 dx (.own m)) m (.ins C dx [])) := fun b o e => by rw [upd_ne (ne_of_none e nm), upd_ne (ne_of_none e ndx)]; exact e
    refine ⟨m, dx, _, _, _, _, _, _, _, _, rfl, upd_same, fun H3 hm keep => ⟨rfl, ?_⟩⟩
    have S5 : Same H2 H3 := fun b o e => keep _ _ (S4 _ _ e) (ne_of_none e nm)
    have S25 := S2.trans S5
    have S15 := S1.trans S25
    exact k m f2 h2 H3 ⟨⟨_, ⟨dx, hm⟩, dvc.mono S15⟩, ⟨ys, S5 _ _ ef2, ay.mono S15⟩, ⟨xs, S25 _ _ eh2, ax.mono S15⟩⟩ S15 (same_none (S1.trans S2) nm) hf2n hh2 hfh
def spMis (K : PySem.W.Frag) (C : Addr) : Sp := fun vs H Q _ => ∃ (ma fl hl lp fl' hl' : Addr) (P : Pt) (m : Nat), vs = [.ref ma, .ref lp] ∧ MacAt K C H ma fl hl P ∧ PtAt K H lp fl' hl' P ∧ PtSm m P ∧ m ≤ 500 ∧ ∀ H', Same H H' → Q (.bl true) H'
theorem ok_mis {C : Addr} {f : Addr} {fd : FuncData} (F : Fun K "_law_machine_is" "_law_machine_is" s_law_machine_is f fd) (T : Txt K mg) (UC_Machine : UseC K mg "Machine" fM C) (U_law_same : Use P w K mg base CX0 "_law_same" 9 P_law_same (spSameD K 7)) : FnG P w K mg base CX0 10 f fd P_law_machine_is (spMis K C) := by
  refine okG0 F sc_law_machine_is (fun vs H Q E h => ?_) fun cdv A outer s H vs Q E hr hg h => ?_
  · obtain ⟨ma, fl, hl, lp, fl', hl', P, m, rfl, _⟩ := h
    rfl
  · obtain ⟨ma, fl, hl, lp, fl', hl', P, m, rfl, MA, PA, sm, hm, k⟩ := h
    refine ⟨_, (pss_cons (ps_if (pt_not (pt_val (pe_use U_law_same (hr.mono (by decide)) hg rfl (pa_cons (pe_fd UC_Machine (by decide +kernel) (pv 0)) (pa_cons (pe_ix ix_list (pv 1) pe_int (fun _ _ => rfl)) pa_nil)))))
   (pss_one (ps_ret pe_bl))
   pss_nil)
  (pss_cons (ps_if (PW.pt (pw_or (pt_not (pt_val (pe_callB call_isi (by rfl) T.b_isinstance (by decide +kernel) (pa_cons (pe_fd UC_Machine (by decide +kernel) (pv 0)) (pa_cons (pe_bltn (v := .ty "list") (by rfl) T.b_list (by decide +kernel) rfl) pa_nil))))) (pw_or1 (pt_not (pt_val (pe_use U_law_same (hr.mono (by decide)) hg rfl (pa_cons (pe_callTy call_tuple_of (by rfl) T.b_tuple (by decide +kernel) (pa_cons (pe_fd UC_Machine (by decide +kernel) (pv 0)) pa_nil)) (pa_cons (pe_callTy call_tuple_of (by rfl) T.b_tuple (by decide +kernel) (pa_cons (pe_ix ix_list (pv 1) pe_int (fun _ _ => rfl)) pa_nil)) pa_nil))))))))
   (pss_one (ps_ret pe_bl))
   pss_nil)
  (pss_cons (ps_if (PW.pt (pw_or (pt_not (pt_val (pe_callB call_isi (by rfl) T.b_isinstance (by decide +kernel) (pa_cons (pe_fd UC_Machine (by decide +kernel) (pv 0)) (pa_cons (pe_bltn (v := .ty "list") (by rfl) T.b_list (by decide +kernel) rfl) pa_nil))))) (pw_or1 (pt_not (pt_val (pe_use U_law_same (hr.mono (by decide)) hg rfl (pa_cons (pe_callTy call_tuple_of (by rfl) T.b_tuple (by decide +kernel) (pa_cons (pe_fd UC_Machine (by decide +kernel) (pv 0)) pa_nil)) (pa_cons (pe_callTy call_tuple_of (by rfl) T.b_tuple (by decide +kernel) (pa_cons (pe_ix ix_list (pv 1) pe_int (fun _ _ => rfl)) pa_nil)) pa_nil))))))))
   (pss_one (ps_ret pe_bl))
   pss_nil)
  (pss_cons (ps_set (i := 2) sc_law_machine_is.nd rfl (Or.inl rfl) (pe_tup (pa_cons (pe_fd UC_Machine (by decide +kernel) (pv 0)) (pa_cons (pe_fd UC_Machine (by decide +kernel) (pv 0)) (pa_cons (pe_fd UC_Machine (by decide +kernel) (pv 0)) (pa_cons (pe_fd UC_Machine (by decide +kernel) (pv 0)) (pa_cons (pe_fd UC_Machine (by decide +kernel) (pv 0)) pa_nil)))))))
  (pss_one (ps_ret (pe_use U_law_same (hr.mono (by decide)) hg rfl (pa_cons (pv 2) (pa_cons (pe_tup (pa_cons (pe_ix ix_list (pv 1) pe_int (fun _ _ => rfl)) (pa_cons (pe_ix ix_list (pv 1) pe_int (fun _ _ => rfl)) (pa_cons (pe_ix ix_list (pv 1) pe_int (fun _ _ => rfl)) (pa_cons (pe_ix ix_list (pv 1) pe_int (fun _ _ => rfl)) (pa_cons (pe_ix ix_list (pv 1) pe_int (fun _ _ => rfl)) pa_nil)))))) pa_nil))))))))), ?_⟩
    obtain ⟨vc, ⟨dx, em⟩, dvc⟩ := MA.ex
    obtain ⟨vc', e, dvc'⟩ := PA.ex
    obtain ⟨xs, ex, ax⟩ := MA.h
    obtain ⟨ys, ey, ay⟩ := MA.f
    obtain ⟨xs', ex', ax'⟩ := PA.h
    obtain ⟨ys', ey', ay'⟩ := PA.f
    refine ⟨_, rfl, ma, dx, _, _, rfl, em, mf_control, _, rfl, lp, _, _, _, rfl, rfl, SqL.of e, at0, vc, vc', frD P.c, rfl, dvc, dvc', ?_, true, rfl, iteFb rfl ?_⟩
    · exact (wd_fr (by have := coTab_len sm.c.1; rw [List.length_map] at this; omega) sm.c.2).up (by decide)
    refine ⟨_, rfl, ma, dx, _, _, rfl, em, mf_frames, _, _, _, _, true, rfl, .ty _, .base (.lst ey), if_pos (beq_self_eq_true _), _, rfl, iteFb rfl ?_⟩
    refine ⟨_, rfl, ma, dx, _, _, rfl, em, mf_frames, fl, ys, rfl, .inl ⟨SqL.of ey, fun t1 h1 => ?_⟩⟩
    have S1 := Same.new (o := .tup ys) h1
    refine ⟨_, rfl, lp, _, _, _, rfl, rfl, SqL.of (S1 _ _ e), at1, fl', ys', rfl, .inl ⟨SqL.of (S1 _ _ ey'), fun t2 h2 => ?_⟩⟩
    have S2 := Same.new (o := .tup ys') h2
    have S12 := S1.trans S2
    refine ⟨.ref t1, .ref t2, .tuple (P.frs.map frD), rfl, (Dt.made h1 ay).mono S2, Dt.made h2 (ay'.mono S1), ?_, true, rfl, iteFb rfl ?_⟩
    · exact (Wd.tup (n := 4) (by rw [List.length_map]; have := sm.fl; omega) fun d hd => by obtain ⟨x, hx, rfl⟩ := List.mem_map.mp hd; exact (sm.f x hx).wd).up (by decide)
    have em2 := S12 _ _ em
    have e2 := S12 _ _ e
    have ex2 := S12 _ _ ex
    have ex2' := S12 _ _ ex'
    have ax2 := ax.mono S12
    have ax2' := ax'.mono S12
    generalize upd (upd H t1 (.tup ys)) t2 (.tup ys') = H2 at S12 em2 e2 ex2 ex2' ax2 ax2'
    clear S1 S2 h1 h2
    refine ⟨_, rfl, ma, dx, _, _, rfl, em2, mf_heap, _, _, _, _, true, rfl, .ty _, .base (.lst ex2), if_pos (beq_self_eq_true _), _, rfl, iteFb rfl ?_⟩
    refine ⟨_, rfl, ma, dx, _, _, rfl, em2, mf_heap, hl, xs, rfl, .inl ⟨SqL.of ex2, fun t1 h1 => ?_⟩⟩
    have S1 := Same.new (o := .tup xs) h1
    refine ⟨_, rfl, lp, _, _, _, rfl, rfl, SqL.of (S1 _ _ e2), at2, hl', xs', rfl, .inl ⟨SqL.of (S1 _ _ ex2'), fun t2 h2 => ?_⟩⟩
    have S2 := Same.new (o := .tup xs') h2
    have S13 := S1.trans S2
    refine ⟨.ref t1, .ref t2, .tuple (P.obs.map obD), rfl, (Dt.made h1 ax2).mono S2, Dt.made h2 (ax2'.mono S1), ?_, true, rfl, iteFb rfl ?_⟩
    · exact Wd.tup (n := 6) (by rw [List.length_map, sm.ol]; omega) fun d hd => by obtain ⟨x, hx, rfl⟩ := List.mem_map.mp hd; exact (sm.o x hx).wd
    have em3 := S13 _ _ em2
    have e3 := S13 _ _ e2
    have S03 := S12.trans S13
    generalize upd (upd H2 t1 (.tup xs)) t2 (.tup xs') = H3 at S03 em3 e3
    refine ⟨_, rfl, ma, dx, _, _, rfl, em3, mf_out, _, rfl, ma, dx, _, _, rfl, em3, mf_active, _, rfl, ma, dx, _, _, rfl, em3, mf_here, _, rfl, ma, dx, _, _, rfl, em3, mf_line, _, rfl, ma, dx, _, _, rfl, em3, mf_steps, sz_5, fun u hu => ?_⟩
    have S4 := Same.new (o := .tup [.str P.out, .int P.act, .str P.here, .int P.line, .int P.steps]) hu
    have e4 := S4 _ _ e3
    have d4 := Dt.made (K := K) hu (.cons (.str P.out) (.cons (.int P.act) (.cons (.str P.here) (.cons (.int P.line) (.cons (.int P.steps) .nil)))))
    refine ⟨_, rfl, _, rfl, lp, _, _, _, rfl, rfl, SqL.of e4, at_of' (j := 3) rfl rfl, _, rfl, lp, _, _, _, rfl, rfl, SqL.of e4, at_of' (j := 4) rfl rfl, _, rfl, lp, _, _, _, rfl, rfl, SqL.of e4, at_of' (j := 5) rfl rfl, _, rfl, lp, _, _, _, rfl, rfl, SqL.of e4, at_of' (j := 6) rfl rfl, _, rfl, lp, _, _, _, rfl, rfl, SqL.of e4, at_of' (j := 7) rfl rfl, sz_5, fun u2 hu2 => ?_⟩
    have S5 := Same.new (o := .tup [.str P.out, .int P.act, .str P.here, .int P.line, .int P.steps]) hu2
    refine ⟨.ref u, .ref u2, _, rfl, d4.mono S5, Dt.made (K := K) hu2 (.cons (.str P.out) (.cons (.int P.act) (.cons (.str P.here) (.cons (.int P.line) (.cons (.int P.steps) .nil))))), ?_, k _ ((S03.trans S4).trans S5)⟩
    refine (Wd.tup (n := 0) (by simp) fun d hd => ?_).up (by decide)
    simp only [List.mem_cons, List.not_mem_nil, or_false] at hd
    rcases hd with rfl | rfl | rfl | rfl | rfl
    · exact .str _
    · exact .int _
    · exact .str _
    · exact .int _
    · exact .int _
--SPLIT
end

section
--SPLIT
end
abbrev s_add_new : Stmt := top 37
abbrev N_add_new : List Str := ["found", "known", "references", "k"]
abbrev P_add_new : List Str := ["found", "known", "references"]
theorem sc_add_new : FnScope N_add_new P_add_new (defScope s_add_new) := ⟨rfl, rfl, rfl, by decide +kernel, rfl, by decide +kernel, by decide +kernel⟩
abbrev s_reached : Stmt := top 34
abbrev N_reached : List Str := ["machine", "found", "known", "k", "frame", "at"]
abbrev P_reached : List Str := ["machine"]
theorem sc_reached : FnScope N_reached P_reached (defScope s_reached) := ⟨rfl, rfl, rfl, by decide +kernel, rfl, by decide +kernel, by decide +kernel⟩
section
variable {P : Program} {w : World} {K : PySem.W.Frag} {mg : Str → Option Value} {base : Heap}
def spAddNew (K : PySem.W.Frag) : Sp := fun vs H Q _ => ∃ (fa ka ra : Addr) (fnd rs : List Int), vs = [.ref fa, .ref ka, .ref ra] ∧ H fa = some (.lst (fnd.map V.int)) ∧ KnAt H ka fnd ∧ H ra = some (.lst (rs.map V.int)) ∧ ra ≠ fa ∧ fnd.length + rs.length ≤ 1000000 ∧
  ∀ H', H' fa = some (.lst ((addN fnd rs).map V.int)) → KnAt H' ka (addN fnd rs) → (∀ b o, H b = some o → b ≠ fa → b ≠ ka → H' b = some o) → Q .non H'
theorem ok_addnew {f : Addr} {fd : FuncData} (F : Fun K "_add_new" "_add_new" s_add_new f fd) (T : Txt K mg) : FnG P w K mg base CX0 1 f fd P_add_new (spAddNew K) := by
  refine okG0 F sc_add_new (fun vs H Q E h => ?_) fun cdv A outer s H vs Q E hr hg h => ?_
  · obtain ⟨fa, ka, ra, fnd, rs, rfl, _⟩ := h
    rfl
  · obtain ⟨fa, ka, ra, fnd, rs, rfl, ef, KA, er, hne, hl, k⟩ := h
    have hu : (A.deeper (envOfC "_add_new" (defScope s_add_new) s.heap.objs.size f cdv)).units + 1 < cLine := Nat.lt_of_le_of_lt (by omega) hr.units
    refine ⟨_, (pss_one (ps_for PassesOwn.never rfl (pi_list (pv 2)) (pg_name (i := 3) sc_add_new.nd rfl (Or.inl rfl))
   (pss_one (ps_if (pt_cmp (pc_dnotin hu (pv 3) (pv 1)))
   (pss_cons (ps_dput hu (pv 1) (pv 3) pe_bl rfl)
  (pss_one (ps_expr (pe_bm PySem.F.plainAttrs_list PySem.F.slot_list_append PySem.F.type_list_append mt_append (pv 0) (pa_cons (pv 3) pa_nil)))))
   pss_nil)))), ?_⟩
    have hfk : fa ≠ ka := fun e => by obtain ⟨kvs, e1, _⟩ := KA; subst e; rw [ef] at e1; cases e1
    have hrk : ra ≠ ka := fun e => by obtain ⟨kvs, e1, _⟩ := KA; subst e; rw [er] at e1; cases e1
    refine ⟨_, rfl, ra, rfl, ⟨_, SqL.of er⟩, ?_⟩
    refine for_list (xs := rs.map V.int) (fun i σ H1 => ∃ x3, σ = [some (.ref fa), some (.ref ka), some (.ref ra), x3] ∧ H1 fa = some (.lst ((addN fnd (rs.take i)).map V.int)) ∧ KnAt H1 ka (addN fnd (rs.take i)) ∧ H1 ra = some (.lst (rs.map V.int)) ∧ (∀ b o, H b = some o → b ≠ fa → b ≠ ka → H1 b = some o)) ⟨none, rfl, ef, KA, er, fun _ _ h _ _ => h⟩ ?_ ?_ ?_
    · rintro i σ H1 _ ⟨x3, rfl, _, _, e3, _⟩
      exact SqL.of e3
    · rintro i x σ H1 hx ⟨x3, rfl, e1, KA1, e3, kp⟩
      rw [List.getElem?_map] at hx
      obtain ⟨z, hz, rfl⟩ := Option.map_eq_some_iff.mp hx
      have hil : i < rs.length := (List.getElem?_eq_some_iff.mp hz).1
      have hstep : addN fnd (rs.take (i + 1)) = if z ∈ addN fnd (rs.take i) then addN fnd (rs.take i) else addN fnd (rs.take i) ++ [z] := by
        rw [List.take_succ, hz, addN_app]
        rfl
      obtain ⟨kvs, ek, hkl, hk⟩ := id KA1
      have hlen := addN_len fnd (rs.take i)
      rw [List.length_take] at hlen
      refine ⟨_, rfl, _, rfl, ka, _, rfl, DGet.k (k := .inl z) ek, ?_⟩
      rw [hk z]
      by_cases c : z ∈ addN fnd (rs.take i)
      · rw [decide_eq_true c]
        rw [if_pos c] at hstep
        exact ⟨_, rfl, _, rfl, by rw [hstep]; exact e1, by rw [hstep]; exact KA1, e3, kp⟩
      · rw [decide_eq_false c]
        rw [if_neg c] at hstep
        refine ⟨_, rfl, ?_⟩
        refine ⟨_, rfl, _, rfl, ka, _, rfl, DPut.k (k := .inl z) ek (Nat.lt_of_le_of_lt (show _ ≤ 1000000 by omega) (by decide)), ?_⟩
        have e1' : upd H1 ka (.dK (putK kvs (.inl z) (.bl true))) fa = some (.lst ((addN fnd (rs.take i)).map V.int)) := by rw [upd_ne hfk]; exact e1
        refine ⟨_, rfl, .inl ⟨rfl, _, SqL.of e1'⟩, _, rfl, fa, _, _, rfl, rfl, e1', by rw [List.length_map]; exact Nat.lt_of_le_of_lt (show _ ≤ 1000000 by omega) (by decide), ?_⟩
        refine ⟨_, rfl, ?_, ?_, ?_, fun b o hb h1 h2 => ?_⟩
        · rw [upd_same, hstep, List.map_append]; rfl
        · rw [hstep]
          obtain ⟨kv2, a1, a2, a3⟩ := KA1.put (v := .bl true) (k := z) ek
          exact ⟨kv2, by rw [upd_ne (Ne.symm hfk)]; exact a1, a2, a3⟩
        · rw [upd_ne hne, upd_ne hrk]; exact e3
        · rw [upd_ne h1, upd_ne h2]; exact kp b o hb h1 h2
    · rintro σ H1 ⟨x3, rfl, e1, KA1, e3, kp⟩
      rw [List.length_map, List.take_length] at e1 KA1
      exact k _ e1 KA1 kp
def Pt.R (P : Pt) (k : Int) : List Int := match P.obs[k.toNat]? with
  | some o => obR o
  | none => []
def Pt.roots (P : Pt) : List Int := P.c.fs.flatMap fldR ++ P.frs.flatMap frR
theorem FldSm.r {m : Nat} {x : Fld} (h : FldSm m x) : ∀ k ∈ fldR x, 0 ≤ k ∧ k < (m : Int) := by
  have vr : ∀ {y : Val}, ValSm m y → ∀ k ∈ valR y, 0 ≤ k ∧ k < (m : Int) := fun {y} hy k hk => by
    cases y with
    | ref n =>
      rw [show valR (.ref n) = [(n : Int)] from rfl, List.mem_singleton] at hk
      have : n < m := hy
      omega
    | _ => cases hk
  have fv : (∀ y ∈ fldVs x, ValSm m y) → ∀ k ∈ (fldVs x).flatMap valR, 0 ≤ k ∧ k < (m : Int) := fun hv k hk => by
    obtain ⟨y, hy, hk⟩ := List.mem_flatMap.mp hk
    exact vr (hv y hy) k hk
  cases x with
  | v x => exact fv fun y hy => by rw [List.mem_singleton.mp (show y ∈ [x] from hy)]; exact h
  | V xs => exact fv h.2
  | W ps =>
    refine fv fun y hy => ?_
    · obtain ⟨p, hp, hy⟩ := List.mem_flatMap.mp (show y ∈ ps.flatMap fun p => [p.1, p.2] from hy)
      simp only [List.mem_cons, List.not_mem_nil, or_false] at hy
      rcases hy with rfl | rfl
      · exact (h.2 p hp).1
      · exact (h.2 p hp).2
  | X ps =>
    refine fv fun y hy => ?_
    · obtain ⟨p, hp, rfl⟩ := List.mem_map.mp (show y ∈ ps.map (·.2) from hy)
      exact (h.2 p hp).2
  | s2 z x => exact fv fun y hy => by rw [List.mem_singleton.mp (show y ∈ [x] from hy)]; exact h.2
  | a k => intro j hj; rw [List.mem_singleton.mp (show j ∈ [(k : Int)] from hj)]; have : k < m := h; omega
  | b k =>
    intro j hj
    have hj : j ∈ (if 0 ≤ k then [k] else []) := hj
    split at hj
    · rw [List.mem_singleton.mp hj]; exact ⟨by assumption, h.2⟩
    · cases hj
  | _ => intro j hj; cases hj
theorem FrSm.r {m : Nat} {f : Fr} (h : ∀ x ∈ f.fs, FldSm m x) : ∀ k ∈ frR f, 0 ≤ k ∧ k < (m : Int) := fun k hk => by
  obtain ⟨x, hx, hk⟩ := List.mem_flatMap.mp hk
  exact (h x hx).r k hk
theorem ObSm.r {m : Nat} {o : Ob} (h : ObSm m o) : ∀ k ∈ obR o, 0 ≤ k ∧ k < (m : Int) := fun k hk => by
  obtain ⟨x, hx, hk⟩ := List.mem_flatMap.mp hk
  have := h.2 x hx
  cases x with
  | one y => exact FldSm.r this k hk
  | fr l =>
    obtain ⟨g, hg, hk⟩ := List.mem_flatMap.mp (show k ∈ l.flatMap frR from hk)
    exact FrSm.r (this.2 g hg).2 k hk
theorem PtSm.R {m : Nat} {P : Pt} (h : PtSm m P) : ∀ j k, k ∈ P.R j → 0 ≤ k ∧ k < (m : Int) := fun j k hk => by
  unfold Pt.R at hk
  split at hk
  · rename_i o e
    exact (h.o o (List.mem_of_getElem? e)).r k hk
  · cases hk
theorem PtSm.roots {m : Nat} {P : Pt} (h : PtSm m P) : ∀ k ∈ P.roots, 0 ≤ k ∧ k < (m : Int) := fun k hk => by
  rcases List.mem_append.mp hk with hk | hk
  · obtain ⟨x, hx, hk⟩ := List.mem_flatMap.mp hk
    exact (h.c.2 x hx).r k hk
  · obtain ⟨g, hg, hk⟩ := List.mem_flatMap.mp hk
    exact FrSm.r (h.f g hg).2 k hk
theorem FrSm.n {m : Nat} {f : Fr} (h : FrSm m f) : (f.kd, f.fs.map ltr) ∈ frTab ∧ ∀ x ∈ f.fs, FldN x := ⟨h.1, fun x hx => (h.2 x hx).n⟩
theorem Fl2Sm.n {m : Nat} : ∀ {x : Fl2}, Fl2Sm m x → Fl2N x
  | .one _, h => FldSm.n h
  | .fr _, h => ⟨h.1, fun f hf => (h.2 f hf).n⟩
/-- what is found after t rounds -/
abbrev Pt.st (P : Pt) (t : Nat) : List Int := St P.R P.roots t
theorem obR_len {m : Nat} {o : Ob} (h : ObSm m o) : (obR o).length ≤ 2000 := by
  have h1 := take_len2 o.fs (fun x hx => (h.2 x hx).n) o.fs.length (Nat.le_refl _)
  rw [List.take_length] at h1
  have := obTab_len10 h.1
  rw [List.length_map] at this
  exact Nat.le_trans h1 (by omega)
theorem PtSm.Rlen {m : Nat} {P : Pt} (h : PtSm m P) (j : Int) : (P.R j).length ≤ 2000 := by
  unfold Pt.R
  split
  · rename_i o e
    exact obR_len (h.o o (List.mem_of_getElem? e))
  · simp
theorem PtSm.stlen {m : Nat} {P : Pt} (h : PtSm m P) (hm : 17 ≤ m) (t : Nat) : (P.st t).length ≤ m := nodup_len m _ (St_nodup t) (St_lt_m hm h.R h.roots t)
theorem PtSm.at {m : Nat} {P : Pt} (h : PtSm m P) (hm : 17 ≤ m) {t i : Nat} {k : Int} (e : (P.st t)[i]? = some k) : ∃ (j : Nat) (o : Ob), k = (j : Int) ∧ P.obs[j]? = some o ∧ ObSm m o ∧ P.R k = obR o := by
  obtain ⟨h0, h1⟩ := St_lt_m hm h.R h.roots t k (List.mem_of_getElem? e)
  obtain ⟨j, rfl⟩ := Int.eq_ofNat_of_zero_le h0
  have hj : j < P.obs.length := by rw [h.ol]; omega
  have ho : P.obs[j]? = some P.obs[j] := List.getElem?_eq_getElem hj
  refine ⟨j, _, rfl, ho, h.o _ (List.getElem_mem hj), ?_⟩
  unfold Pt.R
  rw [Int.toNat_natCast, ho]
def spReached (K : PySem.W.Frag) (C : Addr) : Sp := fun vs H Q _ => ∃ (ma fl hl : Addr) (P : Pt) (m : Nat), vs = [.ref ma] ∧ MacAt K C H ma fl hl P ∧ PtSm m P ∧ 17 ≤ m ∧ m ≤ 500 ∧
  ∀ l H' t, H l = none → Same H H' → StEnd P.R P.roots t → H' l = some (.lst ((P.st t).map V.int)) → Q (.ref l) H'
theorem ok_reached {C : Addr} {f : Addr} {fd : FuncData} (F : Fun K "reached" "reached" s_reached f fd) (T : Txt K mg) (UC_Machine : UseC K mg "Machine" fM C) (U_add_new : Use P w K mg base CX0 "_add_new" 1 P_add_new (spAddNew K)) (U_control_references : Use P w K mg base CX0 "control_references" 3 P_control_references (spRefsOf K coTab))
    (U_frame_references : Use P w K mg base CX0 "frame_references" 3 P_frame_references (spRefsOf K frTab)) (U_object_references : Use P w K mg base CX0 "object_references" 5 P_object_references (spORefs K)) : FnG P w K mg base CX0 6 f fd P_reached (spReached K C) := by
  refine okG0 F sc_reached (fun vs H Q E h => ?_) fun cdv A outer s H vs Q E hr hg h => ?_
  · obtain ⟨ma, fl, hl, P, m, rfl, _⟩ := h
    rfl
  · obtain ⟨ma, fl, hl, P, m, rfl, MA, sm, hm, hm2, k⟩ := h
    have hu : (A.deeper (envOfC "reached" (defScope s_reached) s.heap.objs.size f cdv)).units + 1 < cLine := Nat.lt_of_le_of_lt (by omega) hr.units
    refine ⟨_, (pss_cons (ps_set (i := 1) sc_reached.nd rfl (Or.inl rfl) (pe_listRg rfl (by rfl) T.b_list (prg_1 (by rfl) T.b_range (pe_globI T.c_FIRST_OBJECTS (by rfl)))))
  (pss_cons (ps_setDc (i := 2) (own := [("k", 3)]) (g := (gName 3)) rfl sc_reached.nd rfl rfl (swd_true rfl rfl rfl (by decide +kernel)) (pi_list (pv 1)) (blkOk_by (N := N_reached) (sc := defScope s_reached) (by decide +kernel)) (fun _ _ _ _ _ => (pg_name (i := 3) sc_reached.nd rfl (Or.inl rfl))) (fun _ _ _ _ _ => pts_nil) (fun _ _ _ _ _ => (pv 3)) (fun _ _ _ _ _ => pe_bl))
  (pss_cons (ps_expr (pe_use U_add_new (hr.mono (by decide)) hg rfl (pa_cons (pv 1) (pa_cons (pv 2) (pa_cons (pe_use U_control_references (hr.mono (by decide)) hg rfl (pa_cons (pe_fd UC_Machine (by decide +kernel) (pv 0)) pa_nil)) pa_nil)))))
  (pss_cons (ps_for PassesOwn.never rfl (pi_list (pe_fd UC_Machine (by decide +kernel) (pv 0))) (pg_name (i := 4) sc_reached.nd rfl (Or.inl rfl))
   (pss_one (ps_expr (pe_use U_add_new (hr.mono (by decide)) hg rfl (pa_cons (pv 1) (pa_cons (pv 2) (pa_cons (pe_use U_frame_references (hr.mono (by decide)) hg rfl (pa_cons (pv 4) pa_nil)) pa_nil)))))))
  (pss_cons (ps_set (i := 5) sc_reached.nd rfl (Or.inl rfl) pe_int)
  (pss_cons (ps_while PassesOwn.never (pt_up (pt_cmpR op_lt (pv 5) (pe_callB call_len (by rfl) T.b_len PySem.boot_len (pa_cons (pv 1) pa_nil)) (nomark _)))
   (pss_cons (ps_expr (pe_use U_add_new (hr.mono (by decide)) hg rfl (pa_cons (pv 1) (pa_cons (pv 2) (pa_cons (pe_use U_object_references (hr.mono (by decide)) hg rfl (pa_cons (pe_ix ix_list (pe_fd UC_Machine (by decide +kernel) (pv 0)) (pe_ix ix_list (pv 1) (pv 5) (fun _ _ => rfl)) (fun _ _ => rfl)) pa_nil)) pa_nil)))))
  (pss_one (ps_aug (i := 5) sc_reached.nd rfl (Or.inl rfl) pe_int ip_add))))
  (pss_one (ps_ret (pv 1))))))))), ?_⟩
    obtain ⟨vc, ⟨dx, em⟩, dvc⟩ := MA.ex
    obtain ⟨ys, ey, ay⟩ := id MA.f
    obtain ⟨xs, ex, ax⟩ := id MA.h
    -- found, known
    refine ⟨_, rfl, RgOk.of_le (by decide) (by decide) (by decide) (by decide), fun fa hfa => ?_⟩
    have S1 := Same.new (o := .lst (rgV 0 17)) hfa
    have ef := upd_same (H := H) (a := fa) (o := HO.lst (rgV 0 17))
    have erg : rgV 0 17 = (((List.range 17).map fun (i : Nat) => (i : Int))).map V.int := by decide
    generalize upd H fa (.lst (rgV 0 17)) = H1 at S1 ef
    rw [erg] at ef
    generalize hf17 : ((List.range 17).map fun (i : Nat) => (i : Int)) = f17 at ef
    have l17 : f17.length = 17 := by subst hf17; rfl
    refine ⟨_, rfl, fa, rfl, ⟨_, SqL.of ef⟩, fun ka hka => ?_⟩
    have hfk : fa ≠ ka := ne_of_none ef hka
    have hkn : H ka = none := same_none S1 hka
    refine dc_it (walk_list (xs := f17.map V.int)) (fun i H' => KnAt H' ka (f17.take i) ∧ (∀ b o, H1 b = some o → b ≠ ka → H' b = some o)) ⟨KnAt.nil, fun b o hb hn => by rw [upd_ne hn]; exact hb⟩ (fun i H' _ h => SqL.of (h.2 fa _ ef hfk)) ?_ ?_
    · rintro i x H5 H6 hi ⟨KA, kp⟩ ⟨rfl, hx⟩
      rw [List.getElem?_map] at hx
      obtain ⟨z, hz, rfl⟩ := Option.map_eq_some_iff.mp hx
      obtain ⟨kvs, ek, hkl, hk⟩ := id KA
      rw [List.length_take] at hkl
      refine ⟨rfl, tYes_of ⟨_, rfl, kvs, .inl z, rfl, ek, Nat.lt_of_le_of_lt (show _ ≤ 17 by omega) (by decide), ?_, fun b o hb hn => by rw [upd_ne hn]; exact kp b o hb hn⟩⟩
      have := KA.put (k := z) (v := .bl true) ek
      rw [List.take_succ, hz]
      exact this
    rintro H5 ⟨KA, kp⟩
    rw [List.length_map, List.take_length] at KA
    have ef5 := kp _ _ ef hfk
    have S5 : Same H H5 := fun b o hb => kp b o (S1 _ _ hb) (ne_of_none hb hkn)
    clear kp S1 ef hka
    have hc10 := coTab_len sm.c.1
    rw [List.length_map] at hc10
    have hcl : (P.c.fs.flatMap fldR).length ≤ 200 := by
      have := take_len P.c.fs (fun x hx => (sm.c.2 x hx).n) P.c.fs.length (Nat.le_refl _)
      rw [List.take_length] at this
      omega
    -- one more row of references
    have add : ∀ {H6 : Hp} {fnd : List Int}, H6 fa = some (.lst (fnd.map V.int)) → KnAt H6 ka fnd → Same H H6 → ∀ {H7 : Hp} {rl : Addr} {rs : List Int}, H6 rl = none → Same H6 H7 → H7 rl = some (.lst (rs.map V.int)) → fnd.length + rs.length ≤ 1000000 → ∀ (Q' : VK),
        (∀ H', H' fa = some (.lst ((addN fnd rs).map V.int)) → KnAt H' ka (addN fnd rs) → Same H H' → Q' .non H') → spAddNew K [.ref fa, .ref ka, .ref rl] H7 Q' E0 := by
      intro H6 fnd e6 k6 s6 H7 rl rs nl s7 el hln Q' kq
      exact ⟨fa, ka, rl, _, rs, rfl, s7 _ _ e6, k6.same s7, el, Ne.symm (ne_of_none e6 nl), hln, fun H' a b c => kq H' a b fun q o hq => c q o (s7 _ _ (s6 _ _ hq)) (ne_of_none hq hfa) (ne_of_none hq hkn)⟩
    refine ⟨_, rfl, _, rfl, _, rfl, ma, dx, _, _, rfl, S5 _ _ em, mf_control, vc, P.c.kd, P.c.fs, rfl, dvc.mono S5, sm.c.1, fun x hx => (sm.c.2 x hx).n, fun rl H6 hrl S6 erl => ?_⟩
    dsimp only [tNil]
    refine add ef5 KA S5 hrl S6 erl (by omega) _ fun H7 ef7 KA7 S7 => ?_
    clear hrl S6 erl H6 S5 ef5 KA H5
    -- frames
    refine ⟨_, rfl, ma, dx, _, _, rfl, S7 _ _ em, mf_frames, fl, rfl, ⟨_, SqL.of (S7 _ _ ey)⟩, ?_⟩
    have hfrl : ∀ i, ((P.frs.take i).flatMap frR).length ≤ 2000 := fun i => by
      have key : ∀ l : List Fr, (∀ f ∈ l, FrSm m f) → (l.flatMap frR).length ≤ 200 * l.length := fun l => by
        induction l with
        | nil => intro _; simp
        | cons f r ih =>
          intro h
          have h1 := ih fun g hg => h g (List.mem_cons_of_mem _ hg)
          have h2 : (frR f).length ≤ 200 := by
            have h3 := frTab_len10 (h f (by simp)).1
            have h4 := take_len f.fs (fun x hx => ((h f (by simp)).2 x hx).n) f.fs.length (Nat.le_refl _)
            rw [List.take_length] at h4
            rw [List.length_map] at h3
            exact Nat.le_trans h4 (by omega)
          rw [List.flatMap_cons, List.length_append, List.length_cons]; omega
      have h1 := key (P.frs.take i) fun f hf => sm.f f (List.mem_of_mem_take hf)
      have := sm.fl
      rw [List.length_take] at h1
      omega
    refine for_list (xs := ys) (fun i σ H' => ∃ x4, σ = [some (.ref ma), some (.ref fa), some (.ref ka), none, x4, none] ∧ H' fa = some (.lst ((addN (addN f17 (P.c.fs.flatMap fldR)) ((P.frs.take i).flatMap frR)).map V.int)) ∧ KnAt H' ka (addN (addN f17 (P.c.fs.flatMap fldR)) ((P.frs.take i).flatMap frR)) ∧ Same H H') ⟨none, rfl, ef7, KA7, S7⟩ ?_ ?_ ?_
    · rintro i σ H' _ ⟨x4, rfl, _, _, S'⟩
      exact SqL.of (S' _ _ ey)
    · rintro i v σ H8 hv ⟨x4, rfl, e8, K8, S8⟩
      obtain ⟨d, hd, dv⟩ := ay.getV hv
      rw [List.getElem?_map] at hd
      obtain ⟨g, hg', rfl⟩ := Option.map_eq_some_iff.mp hd
      have hgm := List.mem_of_getElem? hg'
      have hgs := sm.f g hgm
      refine ⟨_, rfl, _, rfl, _, rfl, v, g.kd, g.fs, rfl, dv.mono S8, hgs.1, fun x hx => (hgs.2 x hx).n, fun rl H6 hrl S6 erl => ?_⟩
      dsimp only [tNil]
      have hst : (P.frs.take (i + 1)).flatMap frR = (P.frs.take i).flatMap frR ++ g.fs.flatMap fldR := by
        rw [List.take_succ, hg', List.flatMap_append]
        simp [frR]
      have h1 := addN_len (addN f17 (P.c.fs.flatMap fldR)) ((P.frs.take i).flatMap frR)
      have h2 := addN_len f17 (P.c.fs.flatMap fldR)
      have h3 := hfrl i
      have h4 : (g.fs.flatMap fldR).length ≤ 2000 := by
        have h4 := hfrl (i + 1)
        rw [hst, List.length_append] at h4
        omega
      refine add e8 K8 S8 hrl S6 erl (by omega) _ fun H9 e9 K9 S9 => ⟨_, rfl, ?_, ?_, S9⟩
      · rw [hst, addN_app]; exact e9
      · rw [hst, addN_app]; exact K9
    rintro σ H8 ⟨x4, rfl, e8, K8, S8⟩
    have hyl : ys.length = P.frs.length := by rw [ay.length, List.length_map]
    rw [hyl, List.take_length, ← addN_app] at e8 K8
    have hst0 : addN f17 (P.c.fs.flatMap fldR ++ P.frs.flatMap frR) = P.st 0 := by subst hf17; rfl
    rw [hst0] at e8 K8
    -- the objects
    refine while_up (fun σ H' => ∃ (t : Nat), σ = [some (.ref ma), some (.ref fa), some (.ref ka), none, x4, some (.int (t : Int))] ∧ H' fa = some (.lst ((P.st t).map V.int)) ∧ KnAt H' ka (P.st t) ∧ Same H H' ∧ ∀ j < t, j < (P.st j).length) (fun (σ : L2.St) (_ : Hp) => match σ[5]? with | some (some (V.int j)) => (m + 1 - j).toNat | _ => 0) ⟨0, rfl, e8, K8, S8, by simp⟩ ?_
    rintro σ H9 ⟨t, rfl, e9, K9, S9, hgo⟩
    refine ⟨_, rfl, _, rfl, _, _, rfl, .inl ⟨_, SqL.of e9, rfl⟩, _, _, rfl, rfl, _, rfl, ?_⟩
    rw [List.length_map]
    refine ite3 (fun c => ?_) fun c => ?_
    · have c : t < (P.st t).length := by have := of_decide_eq_true c; omega
      have hz : (P.st t)[t]? = some (P.st t)[t] := List.getElem?_eq_getElem c
      generalize (P.st t)[t] = z at hz
      obtain ⟨j, o, rfl, ho, hos, hR⟩ := sm.at hm hz
      have hlm := sm.stlen hm t
      obtain ⟨v, hv, dv⟩ := ax.get (i := j) (d := obD o) (by rw [List.getElem?_map, ho]; rfl)
      refine ⟨_, rfl, _, rfl, _, rfl, ma, dx, _, _, rfl, S9 _ _ em, mf_heap, _, rfl, _, rfl, fa, _, _, _, rfl, rfl, SqL.of e9, atI_nat (by rw [List.getElem?_map, hz]; rfl), hl, _, _, _, rfl, rfl, SqL.of (S9 _ _ ex), atI_nat hv, ?_⟩
      refine ⟨v, o.kd, o.fs, rfl, dv.mono S9, hos.1, fun x hx => (hos.2 x hx).n, fun rl H6 hrl S6 erl => ?_⟩
      dsimp only [tNil]
      have hol := obR_len hos
      have hst := St_lt hz
      rw [hR] at hst
      refine add e9 K9 S9 hrl S6 (rs := obR o) erl (by omega) _ fun H10 e10 K10 S10 => ?_
      rw [← hst] at e10 K10
      refine ⟨_, rfl, _, _, rfl, rfl, ⟨t + 1, rfl, e10, K10, S10, fun i hi => ?_⟩, ?_⟩
      · by_cases h : i = t
        · subst h; exact c
        · exact hgo i (by omega)
      · show (m + 1 - ((t : Int) + 1)).toNat < (m + 1 - (t : Int)).toNat
        omega
    · have c : (P.st t).length ≤ t := by have := of_decide_eq_false c; omega
      exact ⟨_, rfl, k fa H9 t hfa S9 ⟨c, hgo⟩ e9⟩
--SPLIT
theorem ones_D (gs : List Fld) : (gs.map Fl2.one).map fl2D = gs.map fldD := by rw [List.map_map]; rfl
theorem ones_R (gs : List Fld) : (gs.map Fl2.one).flatMap fl2R = gs.flatMap fldR := by rw [List.flatMap_map]; rfl
theorem ones_l (gs : List Fld) : (gs.map Fl2.one).map ltr2 = gs.map ltr := by rw [List.map_map]; rfl
theorem ones_N {gs : List Fld} (h : ∀ x ∈ gs, FldN x) : ∀ x ∈ gs.map Fl2.one, Fl2N x := fun x hx => by
  obtain ⟨y, hy, rfl⟩ := List.mem_map.mp hx
  exact h y hy
theorem obTab_nd : (obTab.map (·.1)).Nodup := by decide +kernel
theorem coTab_nd : (coTab.map (·.1)).Nodup := by decide +kernel
theorem tabOk_up {tab : Tab} (h : TabOk flds tab) : TabOk (70 :: flds) tab := fun t ht => ⟨fun c hc => List.mem_cons_of_mem _ ((h t ht).1 c hc), (h t ht).2⟩
theorem inV_int (z : Int) (l : List Int) : inV (.int z) (l.map V.int) = decide (z ∈ l) := by
  induction l with
  | nil => simp [inV]
  | cons a r ih =>
    have h : inV (.int z) ((a :: r).map V.int) = (eqV (.int a) (.int z) || inV (.int z) (r.map V.int)) := by simp [inV]
    rw [h, ih]
    by_cases e : a = z
    · subst e; simp [eqV]
    · have : eqV (.int a) (.int z) = false := by simpa [eqV] using e
      rw [this]
      simp [Ne.symm e]
theorem flat_int (l : List Int) : (l.map V.int).all flatV = true := by
  rw [List.all_map]; exact List.all_eq_true.mpr fun x _ => rfl
theorem PtSm.rootlen {m : Nat} {P : Pt} (sm : PtSm m P) : P.roots.length ≤ 5000 ∧ (P.c.fs.flatMap fldR).length ≤ 200 ∧ ∀ i, ((P.frs.take i).flatMap frR).length ≤ 2000 := by
  have hc10 := coTab_len sm.c.1
  rw [List.length_map] at hc10
  have hcl : (P.c.fs.flatMap fldR).length ≤ 200 := by
    have := take_len P.c.fs (fun x hx => (sm.c.2 x hx).n) P.c.fs.length (Nat.le_refl _)
    rw [List.take_length] at this
    omega
  have hfrl : ∀ i, ((P.frs.take i).flatMap frR).length ≤ 2000 := fun i => by
    have key : ∀ l : List Fr, (∀ f ∈ l, FrSm m f) → (l.flatMap frR).length ≤ 200 * l.length := fun l => by
      induction l with
      | nil => intro _; simp
      | cons f r ih =>
        intro h
        have h1 := ih fun g hg => h g (List.mem_cons_of_mem _ hg)
        have h2 : (frR f).length ≤ 200 := by
          have h3 := frTab_len10 (h f (by simp)).1
          have h4 := take_len f.fs (fun x hx => ((h f (by simp)).2 x hx).n) f.fs.length (Nat.le_refl _)
          rw [List.take_length] at h4
          rw [List.length_map] at h3
          exact Nat.le_trans h4 (by omega)
        rw [List.flatMap_cons, List.length_append, List.length_cons]; omega
    have h1 := key (P.frs.take i) fun f hf => sm.f f (List.mem_of_mem_take hf)
    have := sm.fl
    rw [List.length_take] at h1
    omega
  refine ⟨?_, hcl, hfrl⟩
  have := hfrl P.frs.length
  rw [List.take_length] at this
  show (P.c.fs.flatMap fldR ++ P.frs.flatMap frR).length ≤ _
  rw [List.length_append]; omega
def spLReached (K : PySem.W.Frag) : Sp := fun vs H Q _ => ∃ (lp fl hl : Addr) (P : Pt) (m : Nat), vs = [.ref lp] ∧ PtAt K H lp fl hl P ∧ PtSm m P ∧ 17 ≤ m ∧ m ≤ 500 ∧
  ∀ l H' t, H l = none → Same H H' → StEnd P.R P.roots t → H' l = some (.lst ((P.st t).map V.int)) → Q (.ref l) H'
--SPLIT
end

section
--SPLIT
end
abbrev s_new_value : Stmt := top 42
abbrev N_new_value : List Str := ["value", "numbers"]
abbrev P_new_value : List Str := ["value", "numbers"]
theorem sc_new_value : FnScope N_new_value P_new_value (defScope s_new_value) := ⟨rfl, rfl, rfl, by decide +kernel, rfl, by decide +kernel, by decide +kernel⟩
abbrev s_with_numbers : Stmt := top 41
abbrev N_with_numbers : List Str := ["letter", "field", "numbers", "value", "key", "worth", "name", "frame"]
abbrev P_with_numbers : List Str := ["letter", "field", "numbers"]
theorem sc_with_numbers : FnScope N_with_numbers P_with_numbers (defScope s_with_numbers) := ⟨rfl, rfl, rfl, by decide +kernel, rfl, by decide +kernel, by decide +kernel⟩
abbrev s_renumbered : Stmt := top 40
abbrev N_renumbered : List Str := ["letters", "item", "numbers", "fields", "letter", "field"]
abbrev P_renumbered : List Str := ["letters", "item", "numbers"]
theorem sc_renumbered : FnScope N_renumbered P_renumbered (defScope s_renumbered) := ⟨rfl, rfl, rfl, by decide +kernel, rfl, by decide +kernel, by decide +kernel⟩
section
variable {P : Program} {w : World} {K : PySem.W.Frag} {mg : Str → Option Value} {base : Heap}
/-! new numbers: the place of a number in a row -/
def tv (l : List Int) : Val → Val
  | .ref n => .ref (l.idxOf (n : Int))
  | x => x
def tf (l : List Int) : Fld → Fld
  | .v x => .v (tv l x)
  | .V xs => .V (xs.map (tv l))
  | .W ps => .W (ps.map fun p => (tv l p.1, tv l p.2))
  | .X ps => .X (ps.map fun p => (p.1, tv l p.2))
  | .a k => .a (l.idxOf (k : Int))
  | .b k => .b (if 0 ≤ k then ((l.idxOf k : Nat) : Int) else k)
  | .s2 z x => .s2 z (tv l x)
  | x => x
theorem ltr_tf (l : List Int) (x : Fld) : ltr (tf l x) = ltr x := by cases x <;> rfl
def NumAt (H : Hp) (na : Addr) (l : List Int) : Prop := ∃ kvs : List (Key × V), H na = some (.dK kvs) ∧ ∀ k ∈ l, valV kvs (.inl k) = some (.int ((l.idxOf k : Nat) : Int))
theorem NumAt.same {H H' : Hp} {na : Addr} {l : List Int} (h : NumAt H na l) (e : Same H H') : NumAt H' na l := let ⟨x, a, b⟩ := h; ⟨x, e _ _ a, b⟩
theorem NumAt.get {H : Hp} {na : Addr} {l : List Int} (h : NumAt H na l) {k : Int} (hk : k ∈ l) : DGet H na (.int k) (some (.int ((l.idxOf k : Nat) : Int))) := by
  obtain ⟨kvs, e, p⟩ := h
  rw [← p k hk]
  exact DGet.k (k := .inl k) e
def spNewV (K : PySem.W.Frag) : Sp := fun vs H Q _ => ∃ (v : V) (na : Addr) (l : List Int) (x : Val), vs = [v, .ref na] ∧ NumAt H na l ∧ Dt K H v (valD x) ∧ (∀ k ∈ valR x, k ∈ l) ∧ ∀ r H', Same H H' → Dt K H' r (valD (tv l x)) → Q r H'
theorem ok_newv {f : Addr} {fd : FuncData} (F : Fun K "_new_value" "_new_value" s_new_value f fd) (T : Txt K mg) : FnG P w K mg base CX0 1 f fd P_new_value (spNewV K) := by
  refine okG0 F sc_new_value (fun vs H Q E h => ?_) fun cdv A outer s H vs Q E hr hg h => ?_
  · obtain ⟨v, na, l, x, rfl, _⟩ := h
    rfl
  · obtain ⟨v, na, l, x, rfl, NA, dv, hm, k⟩ := h
    have hu : (A.deeper (envOfC "_new_value" (defScope s_new_value) s.heap.objs.size f cdv)).units + 1 < cLine := Nat.lt_of_le_of_lt (by omega) hr.units
    refine ⟨_, (pss_cons (ps_if (pt_cmpR op_eq (pe_ix ix_tup (pv 0) pe_int (fun _ _ => rfl)) pe_str (nomark _))
   (pss_one (ps_ret (pe_tup (pa_cons pe_str (pa_cons (pe_dget hu (pv 1) (pe_ix ix_tup (pv 0) pe_int (fun _ _ => rfl)) (fun _ _ => rfl)) pa_nil)))))
   pss_nil)
  (pss_one (ps_ret (pv 0)))), ?_⟩
    have dv0 := dv
    obtain ⟨kv, rv, ev, hkv⟩ := valD_hd x
    rw [ev] at dv
    obtain ⟨q, ws, rfl, hq, hw⟩ := dv.head
    refine ⟨_, rfl, q, _, _, _, rfl, rfl, hq, at0, rfl, _, rfl, ?_⟩
    rcases hkv with ⟨hne, hnil⟩ | ⟨rfl, n, rfl, rfl⟩
    · refine iteFb (decide_eq_false fun e => hne (V.str.inj e)) ?_
      have : tv l x = x := by
        cases x with
        | ref n => cases hnil
        | _ => rfl
      exact ⟨_, rfl, k _ _ (Same.refl _) (by rw [this]; exact dv0)⟩
    · refine iteTb (decide_eq_true rfl) ?_
      obtain ⟨y1, w1, rfl, d1, hw1⟩ := hw.cons_inv
      cases hw1.nil_inv
      cases d1.int_inv
      refine ⟨_, rfl, _, rfl, q, _, _, _, rfl, rfl, hq, at1, na, _, rfl, NA.get (hm _ (by simp [valR])), sz_2, fun u hu => ?_⟩
      exact k _ _ (Same.new hu) (Dt.made hu (.cons (.str _) (.cons (.int _) .nil)))
/-- a row that a comprehension makes -/
def LAcc (K : PySem.W.Frag) (H1 : Hp) (D : Addr) (ds : List PyData) (H : Hp) : Prop := ∃ acc, H D = some (.lst acc) ∧ DtAll K H acc ds ∧ Same H1 H
theorem LAcc.start {H1 : Hp} {D : Addr} (hD : H1 D = none) : LAcc K H1 D [] (upd H1 D (.lst [])) := ⟨[], upd_same, .nil, Same.new hD⟩
theorem LAcc.put {H1 H5 H7 : Hp} {D : Addr} {ds : List PyData} {v : V} {d : PyData} (A : LAcc K H1 D ds H5) (hD : H1 D = none) (S : Same H5 H7) (dv : Dt K H7 v d) (hl : ds.length ≤ 1000) :
    ∃ acc, H7 D = some (.lst acc) ∧ acc.length < sizeLine ∧ LAcc K H1 D (ds ++ [d]) (upd H7 D (.lst (acc ++ [v]))) := by
  obtain ⟨acc, e, a, S1⟩ := A
  have e7 := S _ _ e
  have := a.length
  exact ⟨acc, e7, Nat.lt_of_le_of_lt (show _ ≤ 1000 by omega) (by decide), acc ++ [v], upd_same, DtAll.app (DtAll.keepT (KeepT.upd e7) (a.mono S)) (.cons (Dt.keepT (KeepT.upd e7) dv) .nil), fun b o hb => by rw [upd_ne (ne_of_none hb hD)]; exact S _ _ (S1 _ _ hb)⟩
theorem LAcc.fin {H1 H : Hp} {D : Addr} {ds : List PyData} (A : LAcc K H1 D ds H) : ∃ acc, H D = some (.lst acc) ∧ DtAll K H acc ds ∧ Same H1 H := A
theorem cut_l1 {α : Type} (a b : α) : cutG [a, b] none (some 1) = [a] ∧ cutG [a, b] (some 1) none = [b] ∧ cutG [a] none (some 1) = [a] ∧ cutG [a] (some 1) none = [] ∧ cutG ([] : List α) none (some 1) = [] ∧ cutG ([] : List α) (some 1) none = [] := ⟨rfl, rfl, rfl, rfl, rfl, rfl⟩
def FldL (l : List Int) (x : Fld) : Prop := ∀ k ∈ fldR x, k ∈ l
def spWithN0 (K : PySem.W.Frag) : Sp := fun vs H Q _ => ∃ (v : V) (na : Addr) (l : List Int) (x : Fld) (c : Nat), vs = [.str (S [c]), v, .ref na] ∧ ltr x = c ∧ NumAt H na l ∧ Dt K H v (fldD x) ∧ FldN x ∧ FldL l x ∧ ∀ r H', Same H H' → Dt K H' r (fldD (tf l x)) → Q r H'
theorem ok_withn0 {f : Addr} {fd : FuncData} (F : Fun K "_with_numbers" "_with_numbers" s_with_numbers f fd) (T : Txt K mg) (U_new_value : Use P w K mg base CX0 "_new_value" 1 P_new_value (spNewV K)) : FnG P w K mg base CX0 2 f fd P_with_numbers (spWithN0 K) := by
  refine okG0 F sc_with_numbers (fun vs H Q E h => ?_) fun cdv A outer s H vs Q E hr hg h => ?_
  · obtain ⟨v, na, l, x, c, rfl, _⟩ := h
    rfl
  · obtain ⟨v, na, l, x, c, rfl, hc, NA, dv, hN, hL, k⟩ := h
    have hu : (A.deeper (envOfC "_with_numbers" (defScope s_with_numbers) s.heap.objs.size f cdv)).units + 1 < cLine := Nat.lt_of_le_of_lt (by omega) hr.units
    refine ⟨_, (pss_cons (ps_if (pt_cmpR op_eq (pv 0) pe_str (nomark _))
   (pss_one (ps_ret (pe_use U_new_value (hr.mono (by decide)) hg rfl (pa_cons (pv 1) (pa_cons (pv 2) pa_nil)))))
   pss_nil)
  (pss_cons (ps_if (pt_cmpR op_eq (pv 0) pe_str (nomark _))
   (pss_one (ps_ret (pe_callTy call_tuple_of (by rfl) T.b_tuple (by decide +kernel) (pa_cons (pe_lc (own := [("value", 3)]) (g := (gName 3)) rfl sc_with_numbers.nd (pi_tup (pv 1)) (blkOk_by (N := N_with_numbers) (sc := defScope s_with_numbers) (by decide +kernel)) (fun _ _ _ _ _ => (pg_name (i := 3) sc_with_numbers.nd rfl (Or.inl rfl))) (fun _ _ _ _ _ => pts_nil) (fun _ _ _ _ _ => (pe_use U_new_value (hr.mono (by decide)) hg rfl (pa_cons (pv 3) (pa_cons (pv 2) pa_nil))))) pa_nil))))
   pss_nil)
  (pss_cons (ps_if (pt_cmpR op_eq (pv 0) pe_str (nomark _))
   (pss_one (ps_ret (pe_callTy call_tuple_of (by rfl) T.b_tuple (by decide +kernel) (pa_cons (pe_lc (own := [("key", 4), ("worth", 5)]) (g := (gTup K 2 (gCons (gName 4) (gCons (gName 5) gNil)))) rfl sc_with_numbers.nd (pi_tup (pv 1)) (blkOk_by (N := N_with_numbers) (sc := defScope s_with_numbers) (by decide +kernel)) (fun _ _ _ _ _ => (pg_tup (by rfl) (pgs_cons (pg_name (i := 4) sc_with_numbers.nd rfl (Or.inl rfl)) (pgs_cons (pg_name (i := 5) sc_with_numbers.nd rfl (Or.inl rfl)) pgs_nil)))) (fun _ _ _ _ _ => pts_nil) (fun _ _ _ _ _ => (pe_tup (pa_cons (pe_use U_new_value (hr.mono (by decide)) hg rfl (pa_cons (pv 4) (pa_cons (pv 2) pa_nil))) (pa_cons (pe_use U_new_value (hr.mono (by decide)) hg rfl (pa_cons (pv 5) (pa_cons (pv 2) pa_nil))) pa_nil))))) pa_nil))))
   pss_nil)
  (pss_cons (ps_if (pt_cmpR op_eq (pv 0) pe_str (nomark _))
   (pss_one (ps_ret (pe_callTy call_tuple_of (by rfl) T.b_tuple (by decide +kernel) (pa_cons (pe_lc (own := [("name", 6), ("value", 3)]) (g := (gTup K 2 (gCons (gName 6) (gCons (gName 3) gNil)))) rfl sc_with_numbers.nd (pi_tup (pv 1)) (blkOk_by (N := N_with_numbers) (sc := defScope s_with_numbers) (by decide +kernel)) (fun _ _ _ _ _ => (pg_tup (by rfl) (pgs_cons (pg_name (i := 6) sc_with_numbers.nd rfl (Or.inl rfl)) (pgs_cons (pg_name (i := 3) sc_with_numbers.nd rfl (Or.inl rfl)) pgs_nil)))) (fun _ _ _ _ _ => pts_nil) (fun _ _ _ _ _ => (pe_tup (pa_cons (pv 6) (pa_cons (pe_use U_new_value (hr.mono (by decide)) hg rfl (pa_cons (pv 3) (pa_cons (pv 2) pa_nil))) pa_nil))))) pa_nil))))
   pss_nil)
  (pss_cons (ps_if (pt_cmpR op_eq (pv 0) pe_str (nomark _))
   (pss_one (ps_ret (pe_op op_catTD (pe_slice sl_row (pv 1) po_none (po_some pe_int)) (pe_callTy call_tuple_of (by rfl) T.b_tuple (by decide +kernel) (pa_cons (pe_lc (own := [("value", 3)]) (g := (gName 3)) rfl sc_with_numbers.nd (pi_tup (pe_slice sl_row (pv 1) (po_some pe_int) po_none)) (blkOk_by (N := N_with_numbers) (sc := defScope s_with_numbers) (by decide +kernel)) (fun _ _ _ _ _ => (pg_name (i := 3) sc_with_numbers.nd rfl (Or.inl rfl))) (fun _ _ _ _ _ => pts_nil) (fun _ _ _ _ _ => (pe_use U_new_value (hr.mono (by decide)) hg rfl (pa_cons (pv 3) (pa_cons (pv 2) pa_nil))))) pa_nil)))))
   pss_nil)
  (pss_cons (ps_if (pt_cmpR op_eq (pv 0) pe_str (nomark _))
   pss_never
   pss_nil)
  (pss_cons (ps_if (PW.pt (pw_and (pt_cmpR op_in_seq (pv 0) (pe_tup (pa_cons pe_str (pa_cons pe_str pa_nil))) (by rfl)) (pw_and1 (pt_cmpR op_ge (pv 1) pe_int (nomark _)))))
   (pss_one (ps_ret (pe_dget hu (pv 2) (pv 1) (fun _ _ => rfl))))
   pss_nil)
  (pss_one (ps_ret (pv 1)))))))))), ?_⟩
    cases x with
    | v x =>
      obtain rfl : 118 = c := hc
      refine ⟨_, rfl, rfl, _, rfl, iteTb (by decide +kernel) ?_⟩
      exact ⟨_, rfl, _, rfl, v, na, l, x, rfl, NA, dv, fun j hj => hL j (by simpa [fldR, fldVs] using hj), k⟩
    | V xs =>
      obtain rfl : 86 = c := hc
      refine ⟨_, rfl, rfl, _, rfl, iteFb (by decide +kernel) ?_⟩
      refine ⟨_, rfl, rfl, _, rfl, iteTb (by decide +kernel) ?_⟩
      obtain ⟨q, ws, rfl, hq, ha⟩ := (show Dt K H v (.tuple (xs.map valD)) from dv).tuple_inv
      have hal := ha.length
      rw [List.length_map] at hal
      have hN : xs.length ≤ 10 := hN
      refine ⟨_, rfl, q, rfl, ⟨_, hq⟩, fun D hD => ?_⟩
      refine lc_it (walk_tup (xs := ws)) (fun j H' => LAcc K H D ((xs.take j).map fun x => valD (tv l x)) H') (LAcc.start hD) (fun j H' _ h => let ⟨_, _, _, S'⟩ := h; Same.tupl S' hq) ?_ ?_
      · rintro j y H5 H6 hj Z ⟨rfl, hy⟩
        obtain ⟨_, _, _, S5⟩ := id Z
        obtain ⟨d, hd, dy⟩ := ha.getV hy
        rw [List.getElem?_map] at hd
        obtain ⟨vx, hvx, rfl⟩ := Option.map_eq_some_iff.mp hd
        refine ⟨rfl, tYes_of ⟨_, rfl, _, rfl, y, na, l, vx, rfl, NA.same S5, dy.mono S5, fun z hz => hL z ?_, fun r H7 S7 dr => ?_⟩⟩
        · exact List.mem_flatMap.mpr ⟨vx, List.mem_of_getElem? hvx, hz⟩
        · obtain ⟨acc, e7, hl7, Z7⟩ := Z.put hD S7 dr (by rw [List.length_map, List.length_take]; omega)
          refine ⟨acc, e7, hl7, ?_⟩
          rw [List.take_succ, hvx, List.map_append]
          exact Z7
      · rintro H5 ⟨acc, e5, a5, S5⟩
        rw [hal, List.take_length] at a5
        refine ⟨D, _, rfl, .inl ⟨SqL.of e5, fun t ht => k _ _ (S5.trans (Same.new ht)) (Dt.made ht ?_)⟩⟩
        show DtAll K H5 acc ((xs.map (tv l)).map valD)
        rw [List.map_map]
        exact a5
    | W ps =>
      obtain rfl : 87 = c := hc
      refine ⟨_, rfl, rfl, _, rfl, iteFb (by decide +kernel) ?_⟩
      refine ⟨_, rfl, rfl, _, rfl, iteFb (by decide +kernel) ?_⟩
      refine ⟨_, rfl, rfl, _, rfl, iteTb (by decide +kernel) ?_⟩
      obtain ⟨q, ws, rfl, hq, ha⟩ := (show Dt K H v (.tuple (ps.map fun p => .tuple [valD p.1, valD p.2])) from dv).tuple_inv
      have hal := ha.length
      rw [List.length_map] at hal
      have hN : (ps.flatMap fun p => [p.1, p.2]).length ≤ 10 := hN
      rw [fm_len] at hN
      refine ⟨_, rfl, q, rfl, ⟨_, hq⟩, fun D hD => ?_⟩
      refine lc_it (walk_tup (xs := ws)) (fun j H' => LAcc K H D ((ps.take j).map fun p => PyData.tuple [valD (tv l p.1), valD (tv l p.2)]) H') (LAcc.start hD) (fun j H' _ h => let ⟨_, _, _, S'⟩ := h; Same.tupl S' hq) ?_ ?_
      · rintro j y H5 H6 hj Z ⟨rfl, hy⟩
        obtain ⟨_, _, _, S5⟩ := id Z
        obtain ⟨d, hd, dy⟩ := ha.getV hy
        rw [List.getElem?_map] at hd
        obtain ⟨pr, hpr, rfl⟩ := Option.map_eq_some_iff.mp hd
        obtain ⟨q2, xs2, rfl, hq2, h2⟩ := (dy.mono S5).tuple_inv
        obtain ⟨y1, w1, rfl, dk, h3⟩ := h2.cons_inv
        obtain ⟨y2, w2, rfl, dw, h4⟩ := h3.cons_inv
        cases h4.nil_inv
        have hin : ∀ z, z ∈ valR pr.1 ∨ z ∈ valR pr.2 → z ∈ l := fun z hz => hL z (by
          show z ∈ (ps.flatMap fun p => [p.1, p.2]).flatMap valR
          rcases hz with hz | hz
          · exact List.mem_flatMap.mpr ⟨pr.1, List.mem_flatMap.mpr ⟨pr, List.mem_of_getElem? hpr, by simp⟩, hz⟩
          · exact List.mem_flatMap.mpr ⟨pr.2, List.mem_flatMap.mpr ⟨pr, List.mem_of_getElem? hpr, by simp⟩, hz⟩)
        refine ⟨q2, _, rfl, hq2, rfl, _, _, rfl, _, _, rfl, rfl, rfl, tYes_of ?_⟩
        refine ⟨_, rfl, _, rfl, y1, na, l, pr.1, rfl, NA.same S5, dk, fun z hz => hin z (.inl hz), fun r1 H7 S7 d1 => ?_⟩
        refine ⟨_, rfl, _, rfl, y2, na, l, pr.2, rfl, NA.same (S5.trans S7), dw.mono S7, fun z hz => hin z (.inr hz), fun r2 H8 S8 d2 => ⟨sz_2, fun u hu => ?_⟩⟩
        obtain ⟨acc, e7, hl7, Z7⟩ := Z.put hD ((S7.trans S8).trans (Same.new hu)) (Dt.made hu (.cons (d1.mono S8) (.cons d2 .nil))) (by rw [List.length_map, List.length_take]; omega)
        refine ⟨acc, e7, hl7, ?_⟩
        rw [List.take_succ, hpr, List.map_append]
        exact Z7
      · rintro H5 ⟨acc, e5, a5, S5⟩
        rw [hal, List.take_length] at a5
        refine ⟨D, _, rfl, .inl ⟨SqL.of e5, fun t ht => k _ _ (S5.trans (Same.new ht)) (Dt.made ht ?_)⟩⟩
        show DtAll K H5 acc ((ps.map fun p => (tv l p.1, tv l p.2)).map fun p => PyData.tuple [valD p.1, valD p.2])
        rw [List.map_map]
        exact a5
    | X ps =>
      obtain rfl : 88 = c := hc
      refine ⟨_, rfl, rfl, _, rfl, iteFb (by decide +kernel) ?_⟩
      refine ⟨_, rfl, rfl, _, rfl, iteFb (by decide +kernel) ?_⟩
      refine ⟨_, rfl, rfl, _, rfl, iteFb (by decide +kernel) ?_⟩
      refine ⟨_, rfl, rfl, _, rfl, iteTb (by decide +kernel) ?_⟩
      obtain ⟨q, ws, rfl, hq, ha⟩ := (show Dt K H v (.tuple (ps.map fun p => .tuple [.str (tx p.1), valD p.2])) from dv).tuple_inv
      have hal := ha.length
      rw [List.length_map] at hal
      have hN : (ps.map (·.2)).length ≤ 10 := hN
      rw [List.length_map] at hN
      refine ⟨_, rfl, q, rfl, ⟨_, hq⟩, fun D hD => ?_⟩
      refine lc_it (walk_tup (xs := ws)) (fun j H' => LAcc K H D ((ps.take j).map fun p => PyData.tuple [.str (tx p.1), valD (tv l p.2)]) H') (LAcc.start hD) (fun j H' _ h => let ⟨_, _, _, S'⟩ := h; Same.tupl S' hq) ?_ ?_
      · rintro j y H5 H6 hj Z ⟨rfl, hy⟩
        obtain ⟨_, _, _, S5⟩ := id Z
        obtain ⟨d, hd, dy⟩ := ha.getV hy
        rw [List.getElem?_map] at hd
        obtain ⟨pr, hpr, rfl⟩ := Option.map_eq_some_iff.mp hd
        obtain ⟨q2, xs2, rfl, hq2, h2⟩ := (dy.mono S5).tuple_inv
        obtain ⟨y1, w1, rfl, dk, h3⟩ := h2.cons_inv
        obtain ⟨y2, w2, rfl, dw, h4⟩ := h3.cons_inv
        cases h4.nil_inv
        cases dk.str_inv
        have hin : ∀ z, z ∈ valR pr.2 → z ∈ l := fun z hz => hL z (List.mem_flatMap.mpr ⟨pr.2, List.mem_map.mpr ⟨pr, List.mem_of_getElem? hpr, rfl⟩, hz⟩)
        refine ⟨q2, _, rfl, hq2, rfl, _, _, rfl, _, _, rfl, rfl, rfl, tYes_of ?_⟩
        refine ⟨_, rfl, _, rfl, _, rfl, y2, na, l, pr.2, rfl, NA.same S5, dw, hin, fun r2 H8 S8 d2 => ⟨sz_2, fun u hu => ?_⟩⟩
        obtain ⟨acc, e7, hl7, Z7⟩ := Z.put hD (S8.trans (Same.new hu)) (Dt.made hu (.cons (.str (tx pr.1)) (.cons d2 .nil))) (by rw [List.length_map, List.length_take]; omega)
        refine ⟨acc, e7, hl7, ?_⟩
        rw [List.take_succ, hpr, List.map_append]
        exact Z7
      · rintro H5 ⟨acc, e5, a5, S5⟩
        rw [hal, List.take_length] at a5
        refine ⟨D, _, rfl, .inl ⟨SqL.of e5, fun t ht => k _ _ (S5.trans (Same.new ht)) (Dt.made ht ?_)⟩⟩
        show DtAll K H5 acc ((ps.map fun p => (p.1, tv l p.2)).map fun p => PyData.tuple [.str (tx p.1), valD p.2])
        rw [List.map_map]
        exact a5
    | s2 z x =>
      obtain rfl : 115 = c := hc
      iterate 4 refine ⟨_, rfl, rfl, _, rfl, iteFb (by decide +kernel) ?_⟩
      refine ⟨_, rfl, rfl, _, rfl, iteTb (by decide +kernel) ?_⟩
      have dv : Dt K H v (.tuple [.str z, valD x]) := dv
      refine ⟨_, rfl, _, rfl, .tup [.str z, valD x], dv, Nat.le_of_ble_eq_true rfl, fun v1 H1 S1 d1 => ?_⟩
      refine ⟨_, rfl, _, rfl, .tup [.str z, valD x], dv.mono S1, Nat.le_of_ble_eq_true rfl, fun v2 H2 S2 d2 => ?_⟩
      obtain ⟨q2, ws, rfl, hq2, ha2⟩ := (show Dt K H2 v2 (.tuple [valD x]) from d2).tuple_inv
      obtain ⟨y, w1, rfl, dy, h3⟩ := ha2.cons_inv
      cases h3.nil_inv
      have S12 := S1.trans S2
      refine ⟨q2, rfl, ⟨_, hq2⟩, fun D hD => ?_⟩
      refine lc_it (walk_tup (xs := [y])) (fun j H' => LAcc K H2 D (([valD (tv l x)] : List PyData).take j) H') (LAcc.start hD) (fun j H' _ h => let ⟨_, _, _, S'⟩ := h; Same.tupl S' hq2) ?_ ?_
      · rintro j y' H5 H6 hj Z ⟨rfl, hy⟩
        obtain rfl : j = 0 := by simp at hj; omega
        cases hy
        obtain ⟨_, _, _, S5⟩ := id Z
        refine ⟨rfl, tYes_of ⟨_, rfl, _, rfl, y, na, l, x, rfl, NA.same (S12.trans S5), dy.mono S5, fun z hz => hL z (by simpa [fldR, fldVs] using hz), fun r H7 S7 dr => ?_⟩⟩
        exact Z.put hD S7 dr (Nat.zero_le _)
      · rintro H5 ⟨acc, e5, a5, S5⟩
        refine ⟨D, _, rfl, .inl ⟨SqL.of e5, fun t ht => ?_⟩⟩
        have S6 := Same.new (o := .tup acc) ht
        exact ⟨[.str z], [valD (tv l x)], (d1.mono (S2.trans S5)).mono S6, Dt.made ht a5, Nat.le_of_ble_eq_true rfl, fun v3 H7 S7 d7 => k _ _ (((S12.trans S5).trans S6).trans S7) d7⟩
    | s1 z =>
      obtain rfl : 115 = c := hc
      iterate 4 refine ⟨_, rfl, rfl, _, rfl, iteFb (by decide +kernel) ?_⟩
      refine ⟨_, rfl, rfl, _, rfl, iteTb (by decide +kernel) ?_⟩
      have dv : Dt K H v (.tuple [.str z]) := dv
      refine ⟨_, rfl, _, rfl, .tup [.str z], dv, Nat.le_of_ble_eq_true rfl, fun v1 H1 S1 d1 => ?_⟩
      refine ⟨_, rfl, _, rfl, .tup [.str z], dv.mono S1, Nat.le_of_ble_eq_true rfl, fun v2 H2 S2 d2 => ?_⟩
      obtain ⟨q2, ws, rfl, hq2, ha2⟩ := (show Dt K H2 v2 (.tuple []) from d2).tuple_inv
      cases ha2.nil_inv
      have S12 := S1.trans S2
      refine ⟨q2, rfl, ⟨_, hq2⟩, fun D hD => ?_⟩
      refine lc_it (walk_tup (xs := [])) (fun j H' => LAcc K H2 D [] H') (LAcc.start hD) (fun j H' _ h => let ⟨_, _, _, S'⟩ := h; Same.tupl S' hq2) (fun j y H5 H6 hj _ _ => absurd hj (by simp)) ?_
      rintro H5 ⟨acc, e5, a5, S5⟩
      refine ⟨D, _, rfl, .inl ⟨SqL.of e5, fun t ht => ?_⟩⟩
      have S6 := Same.new (o := .tup acc) ht
      exact ⟨[.str z], [], (d1.mono (S2.trans S5)).mono S6, Dt.made ht a5, Nat.le_of_ble_eq_true rfl, fun v3 H7 S7 d7 => k _ _ (((S12.trans S5).trans S6).trans S7) d7⟩
    | s0 =>
      obtain rfl : 115 = c := hc
      iterate 4 refine ⟨_, rfl, rfl, _, rfl, iteFb (by decide +kernel) ?_⟩
      refine ⟨_, rfl, rfl, _, rfl, iteTb (by decide +kernel) ?_⟩
      have dv : Dt K H v (.tuple []) := dv
      refine ⟨_, rfl, _, rfl, .tup [], dv, by decide, fun v1 H1 S1 d1 => ?_⟩
      refine ⟨_, rfl, _, rfl, .tup [], dv.mono S1, by decide, fun v2 H2 S2 d2 => ?_⟩
      obtain ⟨q2, ws, rfl, hq2, ha2⟩ := (show Dt K H2 v2 (.tuple []) from d2).tuple_inv
      cases ha2.nil_inv
      have S12 := S1.trans S2
      refine ⟨q2, rfl, ⟨_, hq2⟩, fun D hD => ?_⟩
      refine lc_it (walk_tup (xs := [])) (fun j H' => LAcc K H2 D [] H') (LAcc.start hD) (fun j H' _ h => let ⟨_, _, _, S'⟩ := h; Same.tupl S' hq2) (fun j y H5 H6 hj _ _ => absurd hj (by simp)) ?_
      rintro H5 ⟨acc, e5, a5, S5⟩
      refine ⟨D, _, rfl, .inl ⟨SqL.of e5, fun t ht => ?_⟩⟩
      have S6 := Same.new (o := .tup acc) ht
      exact ⟨[], [], (d1.mono (S2.trans S5)).mono S6, Dt.made ht a5, Nat.le_of_ble_eq_true rfl, fun v3 H7 S7 d7 => k _ _ (((S12.trans S5).trans S6).trans S7) d7⟩
    | a n =>
      obtain rfl : 97 = c := hc
      iterate 6 refine ⟨_, rfl, rfl, _, rfl, iteFb (by decide +kernel) ?_⟩
      cases (show Dt K H v (.int (n : Int)) from dv).int_inv
      refine ⟨_, rfl, sz_2, fun u hu' => ⟨u, _, rfl, .inr (SqT.of upd_same), rfl, rfl, _, rfl, iteTb (by decide +kernel) ?_⟩⟩
      have S1 := Same.new (o := .tup [.str "a", .str "b"]) hu'
      refine ⟨_, rfl, _, _, rfl, rfl, _, rfl, iteTb (decide_eq_true (by omega)) ?_⟩
      exact ⟨_, rfl, _, rfl, na, _, rfl, (NA.same S1).get (hL _ (by simp [fldR])), k _ _ S1 (.int _)⟩
    | b n =>
      obtain rfl : 98 = c := hc
      iterate 6 refine ⟨_, rfl, rfl, _, rfl, iteFb (by decide +kernel) ?_⟩
      cases (show Dt K H v (.int n) from dv).int_inv
      refine ⟨_, rfl, sz_2, fun u hu' => ⟨u, _, rfl, .inr (SqT.of upd_same), rfl, rfl, _, rfl, iteTb (by decide +kernel) ?_⟩⟩
      have S1 := Same.new (o := .tup [.str "a", .str "b"]) hu'
      refine ⟨_, rfl, _, _, rfl, rfl, _, rfl, ?_⟩
      by_cases c : 0 ≤ n
      · refine iteTb (decide_eq_true c) ?_
        refine ⟨_, rfl, _, rfl, na, _, rfl, (NA.same S1).get (hL _ (by simp [fldR, c])), k _ _ S1 ?_⟩
        show Dt K _ _ (.int (if 0 ≤ n then ((l.idxOf n : Nat) : Int) else n))
        rw [if_pos c]
        exact .int _
      · refine iteFb (decide_eq_false c) ?_
        refine ⟨_, rfl, k _ _ S1 ?_⟩
        show Dt K _ _ (.int (if 0 ≤ n then ((l.idxOf n : Nat) : Int) else n))
        rw [if_neg c]
        exact .int _
    | t d =>
      obtain rfl : 116 = c := hc
      iterate 6 refine ⟨_, rfl, rfl, _, rfl, iteFb (by decide +kernel) ?_⟩
      refine ⟨_, rfl, sz_2, fun u hu' => ⟨u, _, rfl, .inr (SqT.of upd_same), rfl, rfl, _, rfl, iteFb (by decide +kernel) ?_⟩⟩
      have S1 := Same.new (o := .tup [.str "a", .str "b"]) hu'
      exact ⟨_, rfl, k _ _ S1 (dv.mono S1)⟩
    | n d =>
      obtain rfl : 110 = c := hc
      iterate 6 refine ⟨_, rfl, rfl, _, rfl, iteFb (by decide +kernel) ?_⟩
      refine ⟨_, rfl, sz_2, fun u hu' => ⟨u, _, rfl, .inr (SqT.of upd_same), rfl, rfl, _, rfl, iteFb (by decide +kernel) ?_⟩⟩
      have S1 := Same.new (o := .tup [.str "a", .str "b"]) hu'
      exact ⟨_, rfl, k _ _ S1 (dv.mono S1)⟩
    | x d =>
      obtain rfl : 120 = c := hc
      iterate 6 refine ⟨_, rfl, rfl, _, rfl, iteFb (by decide +kernel) ?_⟩
      refine ⟨_, rfl, sz_2, fun u hu' => ⟨u, _, rfl, .inr (SqT.of upd_same), rfl, rfl, _, rfl, iteFb (by decide +kernel) ?_⟩⟩
      have S1 := Same.new (o := .tup [.str "a", .str "b"]) hu'
      exact ⟨_, rfl, k _ _ S1 (dv.mono S1)⟩
--SPLIT
def spRenumd0 (K : PySem.W.Frag) : Sp := fun vs H Q _ => ∃ (v : V) (na : Addr) (l : List Int) (kd : Str) (fs : List Fld) (ls : List Nat), vs = [.str (S ls), v, .ref na] ∧ fs.map ltr = ls ∧ ls.length ≤ 10 ∧ NumAt H na l ∧ Dt K H v (.tuple (.str kd :: fs.map fldD)) ∧ (∀ x ∈ fs, FldN x ∧ FldL l x) ∧
  ∀ r H', Same H H' → Dt K H' r (.tuple (.str kd :: (fs.map (tf l)).map fldD)) → Q r H'
theorem ok_renumd0 {f : Addr} {fd : FuncData} (F : Fun K "_renumbered" "_renumbered" s_renumbered f fd) (T : Txt K mg) (U_with_numbers : Use P w K mg base CX0 "_with_numbers" 2 P_with_numbers (spWithN0 K)) : FnG P w K mg base CX0 3 f fd P_renumbered (spRenumd0 K) := by
  refine okG0 F sc_renumbered (fun vs H Q E h => ?_) fun cdv A outer s H vs Q E hr hg h => ?_
  · obtain ⟨v, na, l, kd, fs, ls, rfl, _⟩ := h
    rfl
  · obtain ⟨v, na, l, kd, fs, ls, rfl, hls, hll, NA, dv, hN, k⟩ := h
    refine ⟨_, (pss_cons (ps_setLc (i := 3) (own := [("letter", 4), ("field", 5)]) (g := (gTup K 2 (gCons (gName 4) (gCons (gName 5) gNil)))) rfl sc_renumbered.nd rfl rfl (sw_true rfl rfl rfl (by decide +kernel)) (pi_zipST (by rfl) T.b_zip (pa_cons (pv 0) (pa_cons (pe_slice sl_tupA (pv 1) (po_some pe_int) po_none) pa_nil))) (blkOk_by (N := N_renumbered) (sc := defScope s_renumbered) (by decide +kernel)) (fun _ _ _ _ _ => (pg_tup (by rfl) (pgs_cons (pg_name (i := 4) sc_renumbered.nd rfl (Or.inl rfl)) (pgs_cons (pg_name (i := 5) sc_renumbered.nd rfl (Or.inl rfl)) pgs_nil)))) (fun _ _ _ _ _ => pts_nil) (fun _ _ _ _ _ => (pe_use U_with_numbers (hr.mono (by decide)) hg rfl (pa_cons (pv 4) (pa_cons (pv 5) (pa_cons (pv 2) pa_nil))))))
  (pss_one (ps_ret (pe_op op_catTD (pe_tup (pa_cons (pe_ix ix_tup (pv 1) pe_int (fun _ _ => rfl)) pa_nil)) (pe_callTy call_tuple_of (by rfl) T.b_tuple (by decide +kernel) (pa_cons (pv 3) pa_nil)))))), ?_⟩
    obtain ⟨q0, ws, rfl, hq0, ha⟩ := dv.head
    have hal := ha.length
    rw [List.length_map] at hal
    have hfsl : fs.length = ls.length := by rw [← hls, List.length_map]
    refine ⟨_, rfl, _, rfl, _, rfl, ?_⟩
    refine ⟨q0, _, rfl, hq0, fun e => absurd e.1 (tail_no _ _), fun _ q hq => ?_⟩
    rw [cut_one]
    refine ⟨S ls, q, ws, rfl, SqT.of upd_same, fun D hD => ?_⟩
    have S1 := Same.new (o := .tup ws) hq
    have hq1 : SqT K (upd H q (.tup ws)) q ws := SqT.of upd_same
    generalize upd H q (.tup ws) = H1 at S1 hq1 hD
    refine lc_it (walk_zipST (z := ls) (b := q) (ys := ws) (by omega)) (fun i H' => LAcc K H1 D ((fs.take i).map fun x => fldD (tf l x)) H') (LAcc.start hD) (fun j H' _ h => let ⟨_, _, _, S'⟩ := h; Same.tupl S' hq1) ?_ ?_
    · rintro i y H5 H6 hi Z ⟨T, a1, a2, rfl, hT, rfl, e1, e2⟩
      obtain ⟨_, _, _, S5⟩ := id Z
      have hif : i < fs.length := by omega
      have hx : fs[i]? = some fs[i] := List.getElem?_eq_getElem hif
      obtain ⟨hNx, hLx⟩ := hN _ (List.getElem_mem hif)
      generalize fs[i] = x at hx hNx hLx
      have hlc : ls[i]? = some (ltr x) := by rw [← hls, List.getElem?_map, hx]; rfl
      obtain rfl : V.str (S [ltr x]) = a1 := by
        have e1 : (ls[i]?).map (fun c => V.str (S [c])) = some a1 := e1
        rw [hlc] at e1
        exact Option.some.inj e1
      obtain ⟨d, hd, dx⟩ := ha.getV (show ws[i]? = some a2 from e2)
      rw [List.getElem?_map, hx] at hd
      cases hd
      have S6 := Same.new (o := .tup [.str (S [ltr x]), a2]) hT
      have S16 := (S1.trans S5).trans S6
      refine ⟨T, _, rfl, SqT.of upd_same, rfl, _, _, rfl, _, _, rfl, rfl, rfl, tYes_of ?_⟩
      refine ⟨_, rfl, _, rfl, _, rfl, a2, na, l, x, ltr x, rfl, rfl, NA.same S16, dx.mono S16, hNx, hLx, fun r H7 S7 dr => ?_⟩
      obtain ⟨acc, e7, hl7, Z7⟩ := Z.put hD (S6.trans S7) dr (by rw [List.length_map, List.length_take]; omega)
      refine ⟨acc, e7, hl7, ?_⟩
      rw [List.take_succ, hx, List.map_append]
      exact Z7
    rintro H5 ⟨acc, e5, a5, S5⟩
    have hw : fs.take ws.length = fs := by rw [hal]; exact List.take_length
    rw [hw] at a5
    have S15 := S1.trans S5
    refine ⟨_, rfl, q0, _, _, _, rfl, rfl, Same.tupl S15 hq0, at0, sz_1, fun u hu => ⟨_, rfl, D, _, rfl, .inl ⟨SqL.of ((Same.new hu) _ _ e5), fun t ht => ?_⟩⟩⟩
    have S6 := Same.new (o := .tup [.str kd]) hu
    have S7 := Same.new (o := .tup acc) ht
    refine ⟨[.str kd], fs.map fun x => fldD (tf l x), (Dt.made hu (.cons (.str kd) .nil)).mono S7, Dt.made ht (a5.mono S6), by rw [List.length_map]; simp; omega, fun v H8 S8 d8 => ?_⟩
    refine k _ _ (((S15.trans S6).trans S7).trans S8) ?_
    rw [List.map_map]
    exact d8
def tfr (l : List Int) (f : Fr) : Fr := ⟨f.kd, f.fs.map (tf l)⟩
def tf2 (l : List Int) : Fl2 → Fl2
  | .one x => .one (tf l x)
  | .fr fl => .fr (fl.map (tfr l))
theorem ltr2_tf (l : List Int) (x : Fl2) : ltr2 (tf2 l x) = ltr2 x := by
  cases x with
  | one x => exact ltr_tf l x
  | fr _ => rfl
def Fl2L (l : List Int) (x : Fl2) : Prop := ∀ k ∈ fl2R x, k ∈ l
theorem frD_t (l : List Int) (f : Fr) : frD (tfr l f) = .tuple (.str f.kd :: (f.fs.map (tf l)).map fldD) := rfl
def spWithNF (K : PySem.W.Frag) : Sp := fun vs H Q _ => ∃ (v : V) (na : Addr) (l : List Int) (fl : List Fr), vs = [.str (S [70]), v, .ref na] ∧ NumAt H na l ∧ Dt K H v (.tuple (fl.map frD)) ∧ Fl2N (.fr fl) ∧ Fl2L l (.fr fl) ∧ ∀ r H', Same H H' → Dt K H' r (.tuple ((fl.map (tfr l)).map frD)) → Q r H'
theorem ok_withnf {f : Addr} {fd : FuncData} (F : Fun K "_with_numbers" "_with_numbers" s_with_numbers f fd) (T : Txt K mg) (U_new_value : Use P w K mg base CX0 "_new_value" 1 P_new_value (spNewV K)) (U_renumbered : Use P w K mg base CX0 "_renumbered" 3 P_renumbered (spRenumd0 K)) (U_FIELDS : UseD P w K mg "FIELDS" (txtKV fieldsL)) : FnG P w K mg base CX0 4 f fd P_with_numbers (spWithNF K) := by
  refine okG0 F sc_with_numbers (fun vs H Q E h => ?_) fun cdv A outer s H vs Q E hr hg h => ?_
  · obtain ⟨v, na, l, fl, rfl, _⟩ := h
    rfl
  · obtain ⟨v, na, l, fl, rfl, NA, dv, hN, hL, k⟩ := h
    have hu : (A.deeper (envOfC "_with_numbers" (defScope s_with_numbers) s.heap.objs.size f cdv)).units + 1 < cLine := Nat.lt_of_le_of_lt (by omega) hr.units
    obtain ⟨aD_FIELDS, gD_FIELDS, kD⟩ := U_FIELDS.ex
    refine ⟨_, (pss_cons (ps_if (pt_cmpR op_eq (pv 0) pe_str (nomark _))
   (pss_one (ps_ret (pe_use U_new_value (hr.mono (by decide)) hg rfl (pa_cons (pv 1) (pa_cons (pv 2) pa_nil)))))
   pss_nil)
  (pss_cons (ps_if (pt_cmpR op_eq (pv 0) pe_str (nomark _))
   (pss_one (ps_ret (pe_callTy call_tuple_of (by rfl) T.b_tuple (by decide +kernel) (pa_cons (pe_lc (own := [("value", 3)]) (g := (gName 3)) rfl sc_with_numbers.nd (pi_tup (pv 1)) (blkOk_by (N := N_with_numbers) (sc := defScope s_with_numbers) (by decide +kernel)) (fun _ _ _ _ _ => (pg_name (i := 3) sc_with_numbers.nd rfl (Or.inl rfl))) (fun _ _ _ _ _ => pts_nil) (fun _ _ _ _ _ => (pe_use U_new_value (hr.mono (by decide)) hg rfl (pa_cons (pv 3) (pa_cons (pv 2) pa_nil))))) pa_nil))))
   pss_nil)
  (pss_cons (ps_if (pt_cmpR op_eq (pv 0) pe_str (nomark _))
   (pss_one (ps_ret (pe_callTy call_tuple_of (by rfl) T.b_tuple (by decide +kernel) (pa_cons (pe_lc (own := [("key", 4), ("worth", 5)]) (g := (gTup K 2 (gCons (gName 4) (gCons (gName 5) gNil)))) rfl sc_with_numbers.nd (pi_tup (pv 1)) (blkOk_by (N := N_with_numbers) (sc := defScope s_with_numbers) (by decide +kernel)) (fun _ _ _ _ _ => (pg_tup (by rfl) (pgs_cons (pg_name (i := 4) sc_with_numbers.nd rfl (Or.inl rfl)) (pgs_cons (pg_name (i := 5) sc_with_numbers.nd rfl (Or.inl rfl)) pgs_nil)))) (fun _ _ _ _ _ => pts_nil) (fun _ _ _ _ _ => (pe_tup (pa_cons (pe_use U_new_value (hr.mono (by decide)) hg rfl (pa_cons (pv 4) (pa_cons (pv 2) pa_nil))) (pa_cons (pe_use U_new_value (hr.mono (by decide)) hg rfl (pa_cons (pv 5) (pa_cons (pv 2) pa_nil))) pa_nil))))) pa_nil))))
   pss_nil)
  (pss_cons (ps_if (pt_cmpR op_eq (pv 0) pe_str (nomark _))
   (pss_one (ps_ret (pe_callTy call_tuple_of (by rfl) T.b_tuple (by decide +kernel) (pa_cons (pe_lc (own := [("name", 6), ("value", 3)]) (g := (gTup K 2 (gCons (gName 6) (gCons (gName 3) gNil)))) rfl sc_with_numbers.nd (pi_tup (pv 1)) (blkOk_by (N := N_with_numbers) (sc := defScope s_with_numbers) (by decide +kernel)) (fun _ _ _ _ _ => (pg_tup (by rfl) (pgs_cons (pg_name (i := 6) sc_with_numbers.nd rfl (Or.inl rfl)) (pgs_cons (pg_name (i := 3) sc_with_numbers.nd rfl (Or.inl rfl)) pgs_nil)))) (fun _ _ _ _ _ => pts_nil) (fun _ _ _ _ _ => (pe_tup (pa_cons (pv 6) (pa_cons (pe_use U_new_value (hr.mono (by decide)) hg rfl (pa_cons (pv 3) (pa_cons (pv 2) pa_nil))) pa_nil))))) pa_nil))))
   pss_nil)
  (pss_cons (ps_if (pt_cmpR op_eq (pv 0) pe_str (nomark _))
   (pss_one (ps_ret (pe_op op_catTD (pe_slice sl_row (pv 1) po_none (po_some pe_int)) (pe_callTy call_tuple_of (by rfl) T.b_tuple (by decide +kernel) (pa_cons (pe_lc (own := [("value", 3)]) (g := (gName 3)) rfl sc_with_numbers.nd (pi_tup (pe_slice sl_row (pv 1) (po_some pe_int) po_none)) (blkOk_by (N := N_with_numbers) (sc := defScope s_with_numbers) (by decide +kernel)) (fun _ _ _ _ _ => (pg_name (i := 3) sc_with_numbers.nd rfl (Or.inl rfl))) (fun _ _ _ _ _ => pts_nil) (fun _ _ _ _ _ => (pe_use U_new_value (hr.mono (by decide)) hg rfl (pa_cons (pv 3) (pa_cons (pv 2) pa_nil))))) pa_nil)))))
   pss_nil)
  (pss_cons (ps_if (pt_cmpR op_eq (pv 0) pe_str (nomark _))
   (pss_one (ps_ret (pe_callTy call_tuple_of (by rfl) T.b_tuple (by decide +kernel) (pa_cons (pe_lc (own := [("frame", 7)]) (g := (gName 7)) rfl sc_with_numbers.nd (pi_tup (pv 1)) (blkOk_by (N := N_with_numbers) (sc := defScope s_with_numbers) (by decide +kernel)) (fun _ _ _ _ _ => (pg_name (i := 7) sc_with_numbers.nd rfl (Or.inl rfl))) (fun _ _ _ _ _ => pts_nil) (fun _ _ _ _ _ => (pe_use U_renumbered (hr.mono (by decide)) hg rfl (pa_cons (pe_dgetK (pe_glob (v := .ref aD_FIELDS) (by rfl) gD_FIELDS rfl) (pe_ix (ix_tup : IxR _ (rIxT K)) (pv 7) pe_int (fun _ _ => rfl)) (fun _ _ => rfl) : PE _ _ (tDGetK P w K _ _)) (pa_cons (pv 7) (pa_cons (pv 2) pa_nil)))))) pa_nil))))
   pss_nil)
  (pss_cons (ps_if (PW.pt (pw_and (pt_cmpR op_in_seq (pv 0) (pe_tup (pa_cons pe_str (pa_cons pe_str pa_nil))) (by rfl)) (pw_and1 (pt_cmpR op_ge (pv 1) pe_int (nomark _)))))
   (pss_one (ps_ret (pe_dget hu (pv 2) (pv 1) (fun _ _ => rfl))))
   pss_nil)
  (pss_one (ps_ret (pv 1)))))))))), ?_⟩
    iterate 5 refine ⟨_, rfl, rfl, _, rfl, iteFb (by decide +kernel) ?_⟩
    refine ⟨_, rfl, rfl, _, rfl, iteTb (by decide +kernel) ?_⟩
    obtain ⟨q, ws, rfl, hq, ha⟩ := dv.tuple_inv
    have hal := ha.length
    rw [List.length_map] at hal
    refine ⟨_, rfl, q, rfl, ⟨_, hq⟩, fun D hD => ?_⟩
    refine lc_it (walk_tup (xs := ws)) (fun j H' => LAcc K H D ((fl.take j).map fun f => frD (tfr l f)) H') (LAcc.start hD) (fun j H' _ h => let ⟨_, _, _, S'⟩ := h; Same.tupl S' hq) ?_ ?_
    · rintro j y H5 H6 hj Z ⟨rfl, hy⟩
      obtain ⟨_, _, _, S5⟩ := id Z
      obtain ⟨d, hd, dy⟩ := ha.getV hy
      rw [List.getElem?_map] at hd
      obtain ⟨g, hgm, rfl⟩ := Option.map_eq_some_iff.mp hd
      have hg1 := List.mem_of_getElem? hgm
      obtain ⟨hgt, hgN⟩ := hN.2 g hg1
      have dy5 := dy.mono S5
      obtain ⟨q2, w2, rfl, hq2, _⟩ := (show Dt K _ y (.tuple (.str g.kd :: g.fs.map fldD)) from dy5).head
      refine ⟨rfl, tYes_of ⟨_, rfl, q2, _, _, _, rfl, rfl, hq2, at0, aD_FIELDS, _, .inr g.kd, _, rfl, kD, rfl, tab_val fields_at hgt, _, rfl, _, rfl, _, na, l, g.kd, g.fs, _, rfl, rfl, frTab_len10 hgt, NA.same S5, dy5, fun x hx => ⟨hgN x hx, fun z hz => hL z ?_⟩, fun r H7 S7 dr => ?_⟩⟩
      · exact List.mem_flatMap.mpr ⟨g, hg1, List.mem_flatMap.mpr ⟨x, hx, hz⟩⟩
      · obtain ⟨acc, e7, hl7, Z7⟩ := Z.put hD S7 (d := frD (tfr l g)) dr (by rw [List.length_map, List.length_take]; have := hN.1; omega)
        refine ⟨acc, e7, hl7, ?_⟩
        rw [List.take_succ, hgm, List.map_append]
        exact Z7
    · rintro H5 ⟨acc, e5, a5, S5⟩
      rw [hal, List.take_length] at a5
      refine ⟨D, _, rfl, .inl ⟨SqL.of e5, fun t ht => k _ _ (S5.trans (Same.new ht)) (Dt.made ht ?_)⟩⟩
      rw [List.map_map]
      exact a5
def spWithN (K : PySem.W.Frag) : Sp := fun vs H Q _ => ∃ (v : V) (na : Addr) (l : List Int) (x : Fl2) (c : Nat), vs = [.str (S [c]), v, .ref na] ∧ ltr2 x = c ∧ NumAt H na l ∧ Dt K H v (fl2D x) ∧ Fl2N x ∧ Fl2L l x ∧ ∀ r H', Same H H' → Dt K H' r (fl2D (tf2 l x)) → Q r H'
theorem ok_withn {f : Addr} {fd : FuncData} (F : Fun K "_with_numbers" "_with_numbers" s_with_numbers f fd) (T : Txt K mg) (U_new_value : Use P w K mg base CX0 "_new_value" 1 P_new_value (spNewV K)) (U_renumbered : Use P w K mg base CX0 "_renumbered" 3 P_renumbered (spRenumd0 K)) (U_FIELDS : UseD P w K mg "FIELDS" (txtKV fieldsL)) : FnG P w K mg base CX0 4 f fd P_with_numbers (spWithN K) :=
  ((FnG.up (ok_withn0 F T U_new_value) (by decide)).or (ok_withnf F T U_new_value U_renumbered U_FIELDS)).imp fun vs H Q E h => by
    obtain ⟨v, na, l, x, c, rfl, hc, NA, dv, hN, hL, k⟩ := h
    cases x with
    | one y => exact .inl ⟨v, na, l, y, c, rfl, hc, NA, dv, hN, hL, k⟩
    | fr fl =>
      obtain rfl : 70 = c := hc
      exact .inr ⟨v, na, l, fl, rfl, NA, dv, hN, hL, k⟩
def spRenumd (K : PySem.W.Frag) : Sp := fun vs H Q _ => ∃ (v : V) (na : Addr) (l : List Int) (kd : Str) (fs : List Fl2) (ls : List Nat), vs = [.str (S ls), v, .ref na] ∧ fs.map ltr2 = ls ∧ ls.length ≤ 10 ∧ NumAt H na l ∧ Dt K H v (.tuple (.str kd :: fs.map fl2D)) ∧ (∀ x ∈ fs, Fl2N x ∧ Fl2L l x) ∧
  ∀ r H', Same H H' → Dt K H' r (.tuple (.str kd :: (fs.map (tf2 l)).map fl2D)) → Q r H'
theorem ok_renumd {f : Addr} {fd : FuncData} (F : Fun K "_renumbered" "_renumbered" s_renumbered f fd) (T : Txt K mg) (U_with_numbers : Use P w K mg base CX0 "_with_numbers" 4 P_with_numbers (spWithN K)) : FnG P w K mg base CX0 5 f fd P_renumbered (spRenumd K) := by
  refine okG0 F sc_renumbered (fun vs H Q E h => ?_) fun cdv A outer s H vs Q E hr hg h => ?_
  · obtain ⟨v, na, l, kd, fs, ls, rfl, _⟩ := h
    rfl
  · obtain ⟨v, na, l, kd, fs, ls, rfl, hls, hll, NA, dv, hN, k⟩ := h
    refine ⟨_, (pss_cons (ps_setLc (i := 3) (own := [("letter", 4), ("field", 5)]) (g := (gTup K 2 (gCons (gName 4) (gCons (gName 5) gNil)))) rfl sc_renumbered.nd rfl rfl (sw_true rfl rfl rfl (by decide +kernel)) (pi_zipST (by rfl) T.b_zip (pa_cons (pv 0) (pa_cons (pe_slice sl_tupA (pv 1) (po_some pe_int) po_none) pa_nil))) (blkOk_by (N := N_renumbered) (sc := defScope s_renumbered) (by decide +kernel)) (fun _ _ _ _ _ => (pg_tup (by rfl) (pgs_cons (pg_name (i := 4) sc_renumbered.nd rfl (Or.inl rfl)) (pgs_cons (pg_name (i := 5) sc_renumbered.nd rfl (Or.inl rfl)) pgs_nil)))) (fun _ _ _ _ _ => pts_nil) (fun _ _ _ _ _ => (pe_use U_with_numbers (hr.mono (by decide)) hg rfl (pa_cons (pv 4) (pa_cons (pv 5) (pa_cons (pv 2) pa_nil))))))
  (pss_one (ps_ret (pe_op op_catTD (pe_tup (pa_cons (pe_ix ix_tup (pv 1) pe_int (fun _ _ => rfl)) pa_nil)) (pe_callTy call_tuple_of (by rfl) T.b_tuple (by decide +kernel) (pa_cons (pv 3) pa_nil)))))), ?_⟩
    obtain ⟨q0, ws, rfl, hq0, ha⟩ := dv.head
    have hal := ha.length
    rw [List.length_map] at hal
    have hfsl : fs.length = ls.length := by rw [← hls, List.length_map]
    refine ⟨_, rfl, _, rfl, _, rfl, ?_⟩
    refine ⟨q0, _, rfl, hq0, fun e => absurd e.1 (tail_no _ _), fun _ q hq => ?_⟩
    rw [cut_one]
    refine ⟨S ls, q, ws, rfl, SqT.of upd_same, fun D hD => ?_⟩
    have S1 := Same.new (o := .tup ws) hq
    have hq1 : SqT K (upd H q (.tup ws)) q ws := SqT.of upd_same
    generalize upd H q (.tup ws) = H1 at S1 hq1 hD
    refine lc_it (walk_zipST (z := ls) (b := q) (ys := ws) (by omega)) (fun i H' => LAcc K H1 D ((fs.take i).map fun x => fl2D (tf2 l x)) H') (LAcc.start hD) (fun j H' _ h => let ⟨_, _, _, S'⟩ := h; Same.tupl S' hq1) ?_ ?_
    · rintro i y H5 H6 hi Z ⟨T, a1, a2, rfl, hT, rfl, e1, e2⟩
      obtain ⟨_, _, _, S5⟩ := id Z
      have hif : i < fs.length := by omega
      have hx : fs[i]? = some fs[i] := List.getElem?_eq_getElem hif
      obtain ⟨hNx, hLx⟩ := hN _ (List.getElem_mem hif)
      generalize fs[i] = x at hx hNx hLx
      have hlc : ls[i]? = some (ltr2 x) := by rw [← hls, List.getElem?_map, hx]; rfl
      obtain rfl : V.str (S [ltr2 x]) = a1 := by
        have e1 : (ls[i]?).map (fun c => V.str (S [c])) = some a1 := e1
        rw [hlc] at e1
        exact Option.some.inj e1
      obtain ⟨d, hd, dx⟩ := ha.getV (show ws[i]? = some a2 from e2)
      rw [List.getElem?_map, hx] at hd
      cases hd
      have S6 := Same.new (o := .tup [.str (S [ltr2 x]), a2]) hT
      have S16 := (S1.trans S5).trans S6
      refine ⟨T, _, rfl, SqT.of upd_same, rfl, _, _, rfl, _, _, rfl, rfl, rfl, tYes_of ?_⟩
      refine ⟨_, rfl, _, rfl, _, rfl, a2, na, l, x, ltr2 x, rfl, rfl, NA.same S16, dx.mono S16, hNx, hLx, fun r H7 S7 dr => ?_⟩
      obtain ⟨acc, e7, hl7, Z7⟩ := Z.put hD (S6.trans S7) dr (by rw [List.length_map, List.length_take]; omega)
      refine ⟨acc, e7, hl7, ?_⟩
      rw [List.take_succ, hx, List.map_append]
      exact Z7
    rintro H5 ⟨acc, e5, a5, S5⟩
    have hw : fs.take ws.length = fs := by rw [hal]; exact List.take_length
    rw [hw] at a5
    have S15 := S1.trans S5
    refine ⟨_, rfl, q0, _, _, _, rfl, rfl, Same.tupl S15 hq0, at0, sz_1, fun u hu => ⟨_, rfl, D, _, rfl, .inl ⟨SqL.of ((Same.new hu) _ _ e5), fun t ht => ?_⟩⟩⟩
    have S6 := Same.new (o := .tup [.str kd]) hu
    have S7 := Same.new (o := .tup acc) ht
    refine ⟨[.str kd], fs.map fun x => fl2D (tf2 l x), (Dt.made hu (.cons (.str kd) .nil)).mono S7, Dt.made ht (a5.mono S6), by rw [List.length_map]; simp; omega, fun v H8 S8 d8 => ?_⟩
    refine k _ _ (((S15.trans S6).trans S7).trans S8) ?_
    rw [List.map_map]
    exact d8
--SPLIT
end

abbrev s_renumber : Stmt := top 35
abbrev N_renumber : List Str := ["machine", "order", "numbers", "at", "k", "control", "frames", "frame", "items", "heap", "item"]
abbrev P_renumber : List Str := ["machine"]
theorem sc_renumber : FnScope N_renumber P_renumber (defScope s_renumber) := ⟨rfl, rfl, rfl, by decide +kernel, rfl, by decide +kernel, by decide +kernel⟩
section
variable {P : Program} {w : World} {K : PySem.W.Frag} {mg : Str → Option Value} {base : Heap}
def gx (l : List Int) (k : Int) : Int := ((l.idxOf k : Nat) : Int)
theorem idx_at {l : List Int} {k : Int} (h : k ∈ l) : l[l.idxOf k]? = some k := by
  have h1 := List.idxOf_lt_length_of_mem h
  rw [List.getElem?_eq_getElem h1, List.getElem_idxOf h1]
theorem gx_inj {l : List Int} {x y : Int} (hx : x ∈ l) (hy : y ∈ l) (h : gx l x = gx l y) : x = y := by
  have h1 : l.idxOf x = l.idxOf y := Int.ofNat_inj.mp h
  have a := idx_at hx
  rw [h1, idx_at hy] at a
  exact (Option.some.inj a).symm
theorem idx_of {l : List Int} (hn : l.Nodup) {i : Nat} {k : Int} (h : l[i]? = some k) : l.idxOf k = i := by
  have hm := List.mem_of_getElem? h
  have a := idx_at hm
  have h1 := List.getElem?_eq_some_iff.mp a
  have h2 := List.getElem?_eq_some_iff.mp h
  rcases Nat.lt_trichotomy (l.idxOf k) i with c | c | c
  · exact absurd (h1.2.trans h2.2.symm) (List.pairwise_iff_getElem.mp hn _ _ h1.1 h2.1 c)
  · exact c
  · exact absurd (h2.2.trans h1.2.symm) (List.pairwise_iff_getElem.mp hn _ _ h2.1 h1.1 c)
theorem map_gx {l : List Int} (hn : l.Nodup) : l.map (gx l) = (List.range l.length).map fun (i : Nat) => (i : Int) := by
  refine List.ext_getElem? fun i => ?_
  rw [List.getElem?_map, List.getElem?_map]
  by_cases c : i < l.length
  · have h : l[i]? = some l[i] := List.getElem?_eq_getElem c
    rw [h, List.getElem?_range c]
    show some (gx l l[i]) = some (i : Int)
    unfold gx
    rw [idx_of hn h]
  · rw [List.getElem?_eq_none (by omega), List.getElem?_eq_none (by rw [List.length_range]; omega)]
    rfl
theorem valR_tv (l : List Int) (x : Val) : valR (tv l x) = (valR x).map (gx l) := by cases x <;> rfl
theorem vals_tv (l : List Int) (xs : List Val) : (xs.map (tv l)).flatMap valR = (xs.flatMap valR).map (gx l) := by
  rw [List.flatMap_map, List.map_flatMap]
  congr 1
  funext x
  exact valR_tv l x
theorem fldR_tf (l : List Int) (x : Fld) : fldR (tf l x) = (fldR x).map (gx l) := by
  cases x with
  | v x => simp [fldR, tf, fldVs, valR_tv]
  | V xs => exact vals_tv l xs
  | W ps =>
    show ((ps.map fun p => (tv l p.1, tv l p.2)).flatMap fun p => [p.1, p.2]).flatMap valR = ((ps.flatMap fun p => [p.1, p.2]).flatMap valR).map (gx l)
    rw [← vals_tv, List.flatMap_map, List.map_flatMap]
    rfl
  | X ps =>
    show ((ps.map fun p => (p.1, tv l p.2)).map (·.2)).flatMap valR = ((ps.map (·.2)).flatMap valR).map (gx l)
    rw [← vals_tv, List.map_map, List.map_map]
    rfl
  | s2 z x => simp [fldR, tf, fldVs, valR_tv]
  | a k => rfl
  | b k =>
    show (if 0 ≤ (if 0 ≤ k then ((l.idxOf k : Nat) : Int) else k) then [if 0 ≤ k then ((l.idxOf k : Nat) : Int) else k] else []) = (if 0 ≤ k then [k] else []).map (gx l)
    by_cases c : 0 ≤ k
    · rw [if_pos c, if_pos c, if_pos (by omega)]; rfl
    · rw [if_neg c, if_neg c]; rfl
  | _ => rfl
theorem frR_tf (l : List Int) (f : Fr) : frR (tfr l f) = (frR f).map (gx l) := by
  show (f.fs.map (tf l)).flatMap fldR = (f.fs.flatMap fldR).map (gx l)
  rw [List.flatMap_map, List.map_flatMap]
  congr 1
  funext x
  exact fldR_tf l x
theorem fl2R_tf (l : List Int) (x : Fl2) : fl2R (tf2 l x) = (fl2R x).map (gx l) := by
  cases x with
  | one x => exact fldR_tf l x
  | fr fl =>
    show (fl.map (tfr l)).flatMap frR = (fl.flatMap frR).map (gx l)
    rw [List.flatMap_map, List.map_flatMap]
    congr 1
    funext x
    exact frR_tf l x
def tob (l : List Int) (o : Ob) : Ob := ⟨o.kd, o.fs.map (tf2 l)⟩
theorem obR_tf (l : List Int) (o : Ob) : obR (tob l o) = (obR o).map (gx l) := by
  show (o.fs.map (tf2 l)).flatMap fl2R = (o.fs.flatMap fl2R).map (gx l)
  rw [List.flatMap_map, List.map_flatMap]
  congr 1
  funext x
  exact fl2R_tf l x
def Pt.ob (M : Pt) (k : Int) : Ob := (M.obs[k.toNat]?).getD ⟨"", []⟩
def renP (M : Pt) (l : List Int) : Pt := ⟨tfr l M.c, M.frs.map (tfr l), l.map fun k => tob l (M.ob k), M.out, M.act, M.here, M.line, M.steps⟩
theorem ValSm.t {m : Nat} {l : List Int} {x : Val} (h : ValSm m x) (hl : ∀ k ∈ valR x, k ∈ l) : ValSm l.length (tv l x) := by
  cases x with
  | ref n => exact List.idxOf_lt_length_of_mem (hl _ (by simp [valR]))
  | _ => exact h
theorem FldSm.t {m : Nat} {l : List Int} {x : Fld} (h : FldSm m x) (hl : FldL l x) : FldSm l.length (tf l x) := by
  have hv : ∀ y ∈ fldVs x, fldR x = (fldVs x).flatMap valR → ∀ k ∈ valR y, k ∈ l := fun y hy e k hk => hl k (by rw [e]; exact List.mem_flatMap.mpr ⟨y, hy, hk⟩)
  cases x with
  | v x => exact ValSm.t h (hv x (by simp [fldVs]) rfl)
  | V xs =>
    refine ⟨by rw [List.length_map]; exact h.1, fun y hy => ?_⟩
    obtain ⟨z, hz, rfl⟩ := List.mem_map.mp hy
    exact (h.2 z hz).t (hv z hz rfl)
  | W ps =>
    refine ⟨by rw [List.length_map]; exact h.1, fun y hy => ?_⟩
    obtain ⟨z, hz, rfl⟩ := List.mem_map.mp hy
    exact ⟨(h.2 z hz).1.t (hv z.1 (List.mem_flatMap.mpr ⟨z, hz, by simp⟩) rfl), (h.2 z hz).2.t (hv z.2 (List.mem_flatMap.mpr ⟨z, hz, by simp⟩) rfl)⟩
  | X ps =>
    refine ⟨by rw [List.length_map]; exact h.1, fun y hy => ?_⟩
    obtain ⟨z, hz, rfl⟩ := List.mem_map.mp hy
    exact ⟨(h.2 z hz).1, (h.2 z hz).2.t (hv z.2 (List.mem_map.mpr ⟨z, hz, rfl⟩) rfl)⟩
  | s2 z x => exact ⟨h.1, h.2.t (hv x (by simp [fldVs]) rfl)⟩
  | a k => exact List.idxOf_lt_length_of_mem (hl _ (by simp [fldR]))
  | b k =>
    show -1 ≤ (if 0 ≤ k then ((l.idxOf k : Nat) : Int) else k) ∧ (if 0 ≤ k then ((l.idxOf k : Nat) : Int) else k) < l.length
    by_cases c : 0 ≤ k
    · rw [if_pos c]
      have := List.idxOf_lt_length_of_mem (hl k (by simp [fldR, c]))
      omega
    · rw [if_neg c]
      exact ⟨h.1, by omega⟩
  | _ => exact h
theorem map_ltr (l : List Int) (fs : List Fld) : (fs.map (tf l)).map ltr = fs.map ltr := by
  rw [List.map_map]; exact List.map_congr_left fun x _ => ltr_tf l x
theorem map_ltr2 (l : List Int) (fs : List Fl2) : (fs.map (tf2 l)).map ltr2 = fs.map ltr2 := by
  rw [List.map_map]; exact List.map_congr_left fun x _ => ltr2_tf l x
theorem FrSm.t {m : Nat} {l : List Int} {f : Fr} (h : FrSm m f) (hl : ∀ k ∈ frR f, k ∈ l) : FrSm l.length (tfr l f) := by
  refine ⟨by show (f.kd, (f.fs.map (tf l)).map ltr) ∈ frTab; rw [map_ltr]; exact h.1, fun x hx => ?_⟩
  obtain ⟨y, hy, rfl⟩ := List.mem_map.mp hx
  exact (h.2 y hy).t fun k hk => hl k (List.mem_flatMap.mpr ⟨y, hy, hk⟩)
theorem Fl2Sm.t {m : Nat} {l : List Int} {x : Fl2} (h : Fl2Sm m x) (hl : Fl2L l x) : Fl2Sm l.length (tf2 l x) := by
  cases x with
  | one x => exact FldSm.t h hl
  | fr fl =>
    refine ⟨by rw [List.length_map]; exact h.1, fun f hf => ?_⟩
    obtain ⟨g, hg, rfl⟩ := List.mem_map.mp hf
    exact (h.2 g hg).t fun k hk => hl k (List.mem_flatMap.mpr ⟨g, hg, hk⟩)
theorem ObSm.t {m : Nat} {l : List Int} {o : Ob} (h : ObSm m o) (hl : ∀ k ∈ obR o, k ∈ l) : ObSm l.length (tob l o) := by
  refine ⟨by show (o.kd, (o.fs.map (tf2 l)).map ltr2) ∈ obTab; rw [map_ltr2]; exact h.1, fun x hx => ?_⟩
  obtain ⟨y, hy, rfl⟩ := List.mem_map.mp hx
  exact (h.2 y hy).t fun k hk => hl k (List.mem_flatMap.mpr ⟨y, hy, hk⟩)
/-- what is found, and that all is there -/
structure Full (M : Pt) (m : Nat) (t : Nat) : Prop where
  sm : PtSm m M
  hm : 17 ≤ m
  e : StEnd M.R M.roots t
theorem Full.at {M : Pt} {m t : Nat} (h : Full M m t) {k : Int} (hk : k ∈ M.st t) : ∃ j : Nat, k = (j : Int) ∧ M.obs[j]? = some (M.ob k) ∧ ObSm m (M.ob k) ∧ M.R k = obR (M.ob k) ∧ ∀ z ∈ obR (M.ob k), z ∈ M.st t := by
  obtain ⟨i, hi⟩ := List.getElem?_of_mem hk
  obtain ⟨j, o, rfl, ho, hos, hR⟩ := h.sm.at h.hm hi
  have e : M.ob (j : Int) = o := by unfold Pt.ob; rw [Int.toNat_natCast, ho]; rfl
  rw [e]
  exact ⟨j, rfl, ho, hos, hR, fun z hz => h.e.closed.2 i _ hi z (by rw [hR]; exact hz)⟩
theorem Full.ren {M : Pt} {m t : Nat} (h : Full M m t) : PtSm (M.st t).length (renP M (M.st t)) := by
  have hr := h.e.closed.1
  refine ⟨⟨?_, fun x hx => ?_⟩, by show (M.frs.map _).length ≤ 5; rw [List.length_map]; exact h.sm.fl, fun f hf => ?_, by show (List.map _ _).length = _; rw [List.length_map], fun o ho => ?_⟩
  · show (M.c.kd, (M.c.fs.map (tf _)).map ltr) ∈ coTab
    rw [map_ltr]; exact h.sm.c.1
  · obtain ⟨y, hy, rfl⟩ := List.mem_map.mp hx
    exact (h.sm.c.2 y hy).t fun k hk => hr k (List.mem_append_left _ (List.mem_flatMap.mpr ⟨y, hy, hk⟩))
  · obtain ⟨g, hg, rfl⟩ := List.mem_map.mp hf
    exact (h.sm.f g hg).t fun k hk => hr k (List.mem_append_right _ (List.mem_flatMap.mpr ⟨g, hg, hk⟩))
  · obtain ⟨k, hk, rfl⟩ := List.mem_map.mp ho
    obtain ⟨j, _, _, hos, _, hz⟩ := h.at hk
    exact hos.t hz
theorem addN_map {l : List Int} : ∀ (rs f : List Int), (∀ x ∈ f, x ∈ l) → (∀ x ∈ rs, x ∈ l) → addN (f.map (gx l)) (rs.map (gx l)) = (addN f rs).map (gx l)
  | [], f, _, _ => rfl
  | k :: r, f, hf, hr => by
    have hk := hr k (by simp)
    have hr' : ∀ x ∈ r, x ∈ l := fun x hx => hr x (List.mem_cons_of_mem _ hx)
    have hm : gx l k ∈ f.map (gx l) ↔ k ∈ f := ⟨fun h => by
      obtain ⟨y, hy, e⟩ := List.mem_map.mp h
      rw [gx_inj hk (hf y hy) e.symm]; exact hy, fun h => List.mem_map.mpr ⟨k, h, rfl⟩⟩
    rw [List.map_cons, addN, addN]
    by_cases c : k ∈ f
    · rw [if_pos c, if_pos (hm.mpr c)]
      exact addN_map r f hf hr'
    · rw [if_neg c, if_neg (fun h => c (hm.mp h)), show f.map (gx l) ++ [gx l k] = (f ++ [k]).map (gx l) by rw [List.map_append]; rfl]
      exact addN_map r (f ++ [k]) (fun x hx => by
        rcases List.mem_append.mp hx with h | h
        · exact hf x h
        · rw [List.mem_singleton.mp h]; exact hk) hr'
theorem roots_ren (M : Pt) (l : List Int) : (renP M l).roots = M.roots.map (gx l) := by
  show (M.c.fs.map (tf l)).flatMap fldR ++ (M.frs.map (tfr l)).flatMap frR = (M.c.fs.flatMap fldR ++ M.frs.flatMap frR).map (gx l)
  rw [List.map_append]
  congr 1
  · exact frR_tf l M.c
  · rw [List.flatMap_map, List.map_flatMap]
    congr 1
    funext x
    exact frR_tf l x
theorem Full.st_ren {M : Pt} {m t : Nat} (h : Full M m t) : ∀ s ≤ t, (renP M (M.st t)).st s = (M.st s).map (gx (M.st t))
  | 0, _ => by
    show addN _ _ = (addN _ _).map _
    rw [roots_ren]
    have h17 : ((List.range 17).map fun (i : Nat) => (i : Int)).map (gx (M.st t)) = (List.range 17).map fun (i : Nat) => (i : Int) := by
      rw [List.map_map]
      refine List.map_congr_left fun i hi => ?_
      have hi := List.mem_range.mp hi
      show gx (M.st t) (i : Int) = i
      unfold gx
      obtain ⟨more, em⟩ := St_first (R := M.R) (roots := M.roots) t
      rw [idx_of (St_nodup t) (i := i)]
      show (St M.R M.roots t)[i]? = _
      rw [em, List.getElem?_append_left (by simpa using hi), List.getElem?_map, List.getElem?_range hi]
      rfl
    rw [← addN_map _ _ ?_ fun x hx => h.e.closed.1 x hx, h17]
    intro x hx
    obtain ⟨more, em⟩ := St_first (R := M.R) (roots := M.roots) t
    show x ∈ St M.R M.roots t
    rw [em]
    exact List.mem_append_left _ hx
  | s + 1, hs => by
    have ih := Full.st_ren h s (by omega)
    have hin : ∀ x ∈ M.st s, x ∈ M.st t := fun x hx => by
      obtain ⟨more, em⟩ := St_le (R := M.R) (roots := M.roots) (show s ≤ t by omega)
      show x ∈ St M.R M.roots t
      rw [em]; exact List.mem_append_left _ hx
    have hlt := h.e.go s (by omega)
    have hz : (M.st s)[s]? = some (M.st s)[s] := List.getElem?_eq_getElem hlt
    generalize (M.st s)[s] = z at hz
    have hzt := hin z (List.mem_of_getElem? hz)
    obtain ⟨j, rfl, ho, hos, hR, hsub⟩ := h.at hzt
    have h2 : ((renP M (M.st t)).st s)[s]? = some (gx (M.st t) (j : Int)) := by rw [ih, List.getElem?_map, hz]; rfl
    have hRg : (renP M (M.st t)).R (gx (M.st t) (j : Int)) = (M.R (j : Int)).map (gx (M.st t)) := by
      unfold Pt.R
      have e1 : (renP M (M.st t)).obs[(gx (M.st t) (j : Int)).toNat]? = some (tob (M.st t) (M.ob (j : Int))) := by
        show ((M.st t).map fun k => tob (M.st t) (M.ob k))[((((M.st t).idxOf (j : Int) : Nat) : Int)).toNat]? = _
        rw [Int.toNat_natCast, List.getElem?_map, idx_at hzt]
        rfl
      rw [e1, Int.toNat_natCast, ho]
      exact obR_tf _ _
    show St _ _ (s + 1) = (St _ _ (s + 1)).map _
    rw [St_lt h2, St_lt hz, hRg]
    rw [show St (renP M (M.st t)).R (renP M (M.st t)).roots s = _ from ih]
    exact addN_map _ _ hin fun x hx => hsub x (by rw [← hR]; exact hx)
theorem Full.again {M : Pt} {m t : Nat} (h : Full M m t) : Full (renP M (M.st t)) (M.st t).length t := by
  refine ⟨h.ren, St_len17 t, ⟨?_, fun j hj => ?_⟩⟩
  · have := h.e.fin
    rw [show St (renP M (M.st t)).R (renP M (M.st t)).roots t = _ from h.st_ren t (Nat.le_refl t), List.length_map]
    exact this
  · have := h.e.go j hj
    rw [show St (renP M (M.st t)).R (renP M (M.st t)).roots j = _ from h.st_ren j (by omega), List.length_map]
    exact this
theorem Full.st2 {M : Pt} {m t : Nat} (h : Full M m t) : (renP M (M.st t)).st t = (List.range (M.st t).length).map fun (i : Nat) => (i : Int) := by
  rw [h.st_ren t (Nat.le_refl t), map_gx (St_nodup t)]
/-! a row that is 0, 1, .. changes nothing -/
def rg (n : Nat) : List Int := (List.range n).map fun (i : Nat) => (i : Int)
theorem rg_at {n i : Nat} (h : i < n) : (rg n)[i]? = some (i : Int) := by unfold rg; rw [List.getElem?_map, List.getElem?_range h]; rfl
theorem rg_nodup (n : Nat) : (rg n).Nodup := by
  unfold rg
  refine List.pairwise_map.mpr ?_
  exact List.Pairwise.imp (fun h e => h (Int.ofNat_inj.mp e)) List.nodup_range
theorem rg_idx {n i : Nat} (h : i < n) : (rg n).idxOf (i : Int) = i := idx_of (rg_nodup n) (rg_at h)
theorem tv_id {n : Nat} {x : Val} (h : ValSm n x) : tv (rg n) x = x := by
  cases x with
  | ref k => show Val.ref ((rg n).idxOf (k : Int)) = .ref k; rw [rg_idx h]
  | _ => rfl
theorem map_id_of {α : Type} {f : α → α} : ∀ {xs : List α}, (∀ x ∈ xs, f x = x) → xs.map f = xs
  | [], _ => rfl
  | x :: r, h => by rw [List.map_cons, h x (by simp), map_id_of fun y hy => h y (List.mem_cons_of_mem _ hy)]
theorem tf_id {n : Nat} {x : Fld} (h : FldSm n x) : tf (rg n) x = x := by
  cases x with
  | v x => exact congrArg Fld.v (tv_id h)
  | V xs => exact congrArg Fld.V (map_id_of fun x hx => tv_id (h.2 x hx))
  | W ps => exact congrArg Fld.W (map_id_of fun p hp => by show (tv _ p.1, tv _ p.2) = p; rw [tv_id (h.2 p hp).1, tv_id (h.2 p hp).2])
  | X ps => exact congrArg Fld.X (map_id_of fun p hp => by show (p.1, tv _ p.2) = p; rw [tv_id (h.2 p hp).2])
  | s2 z x => exact congrArg (Fld.s2 z) (tv_id h.2)
  | a k => show Fld.a ((rg n).idxOf (k : Int)) = .a k; rw [rg_idx h]
  | b k =>
    show Fld.b (if 0 ≤ k then (((rg n).idxOf k : Nat) : Int) else k) = .b k
    by_cases c : 0 ≤ k
    · obtain ⟨j, rfl⟩ := Int.eq_ofNat_of_zero_le c
      have : j < n := by have := h.2; omega
      rw [if_pos c, rg_idx this]
    · rw [if_neg c]
  | _ => rfl
theorem tfr_id {n : Nat} {f : Fr} (h : ∀ x ∈ f.fs, FldSm n x) : tfr (rg n) f = f := by
  show Fr.mk f.kd (f.fs.map _) = f
  rw [map_id_of fun x hx => tf_id (h x hx)]
theorem tf2_id {n : Nat} {x : Fl2} (h : Fl2Sm n x) : tf2 (rg n) x = x := by
  cases x with
  | one x => exact congrArg Fl2.one (tf_id h)
  | fr fl => exact congrArg Fl2.fr (map_id_of fun f hf => tfr_id (h.2 f hf).2)
theorem tob_id {n : Nat} {o : Ob} (h : ObSm n o) : tob (rg n) o = o := by
  show Ob.mk o.kd (o.fs.map _) = o
  rw [map_id_of fun x hx => tf2_id (h.2 x hx)]
theorem renP_id {n : Nat} {M : Pt} (h : PtSm n M) : renP M (rg n) = M := by
  have h1 : tfr (rg n) M.c = M.c := tfr_id h.c.2
  have h2 : M.frs.map (tfr (rg n)) = M.frs := map_id_of fun f hf => tfr_id (h.f f hf).2
  have h3 : ((rg n).map fun k => tob (rg n) (M.ob k)) = M.obs := by
    refine List.ext_getElem? fun i => ?_
    rw [List.getElem?_map]
    by_cases c : i < n
    · have ho : M.obs[i]? = some (M.obs[i]'(by rw [h.ol]; exact c)) := List.getElem?_eq_getElem _
      rw [rg_at c, ho]
      show some (tob (rg n) (M.ob (i : Int))) = _
      have : M.ob (i : Int) = M.obs[i]'(by rw [h.ol]; exact c) := by unfold Pt.ob; rw [Int.toNat_natCast, ho]; rfl
      rw [this, tob_id (h.o _ (List.getElem_mem _))]
    · rw [List.getElem?_eq_none (by unfold rg; simp; omega), List.getElem?_eq_none (by rw [h.ol]; omega)]
      rfl
  show Pt.mk _ _ _ _ _ _ _ _ = M
  rw [h1, h2, h3]
--SPLIT
theorem NumAt.of_kn {H : Hp} {na : Addr} {l : List Int} (hn : l.Nodup) (h : ∃ kvs : List (Key × V), H na = some (.dK kvs) ∧ kvs.length ≤ l.length ∧ ∀ (j : Nat) (k : Int), l[j]? = some k → valV kvs (.inl k) = some (.int ((j : Nat) : Int))) : NumAt H na l := by
  obtain ⟨kvs, e, _, p⟩ := h
  refine ⟨kvs, e, fun k hk => ?_⟩
  exact p _ k (idx_at hk)
def spRenumber (K : PySem.W.Frag) (C : Addr) : Sp := fun vs H Q _ => ∃ (ma fl hl : Addr) (M : Pt) (m : Nat), vs = [.ref ma] ∧ MacAt K C H ma fl hl M ∧ PtSm m M ∧ 17 ≤ m ∧ m ≤ 500 ∧
  ∀ mb fl' hl' t H', Full M m t → MacAt K C H' mb fl' hl' (renP M (M.st t)) → Same H H' → H mb = none → H fl' = none → H hl' = none → fl' ≠ hl' → Q (.ref mb) H'
theorem ok_renumber {C : Addr} {f : Addr} {fd : FuncData} (F : Fun K "renumber" "renumber" s_renumber f fd) (T : Txt K mg) (UC_Machine : UseC K mg "Machine" fM C) (U_Machine___init__ : UseK P w K mg base "Machine" C 1 P_Machine___init__ (spMInit C)) (U_CONTROLS : UseD P w K mg "CONTROLS" (txtKV controlsL)) (U_FIELDS : UseD P w K mg "FIELDS" (txtKV fieldsL)) (U_OBJECTS : UseD P w K mg "OBJECTS" (txtKV objectsL))
    (U_reached : Use P w K mg base CX0 "reached" 6 P_reached (spReached K C)) (U_renumbered : Use P w K mg base CX0 "_renumbered" 5 P_renumbered (spRenumd K)) : FnG P w K mg base CX0 7 f fd P_renumber (spRenumber K C) := by
  refine okG0 F sc_renumber (fun vs H Q E h => ?_) fun cdv A outer s H vs Q E hr hg h => ?_
  · obtain ⟨ma, fl, hl, M, m, rfl, _⟩ := h
    rfl
  · obtain ⟨ma, fl, hl, M, m, rfl, MA, sm, hm, hm2, k⟩ := h
    have hu : (A.deeper (envOfC "renumber" (defScope s_renumber) s.heap.objs.size f cdv)).units + 1 < cLine := Nat.lt_of_le_of_lt (by omega) hr.units
    obtain ⟨aD_FIELDS, gD_FIELDS, kDF⟩ := U_FIELDS.ex
    obtain ⟨aD_OBJECTS, gD_OBJECTS, kDO⟩ := U_OBJECTS.ex
    obtain ⟨aD_CONTROLS, gD_CONTROLS, kDC⟩ := U_CONTROLS.ex
    refine ⟨_, (pss_cons (ps_set (i := 1) sc_renumber.nd rfl (Or.inl rfl) (pe_use U_reached (hr.mono (by decide)) hg rfl (pa_cons (pv 0) pa_nil)))
  (pss_cons (ps_set (i := 2) sc_renumber.nd rfl (Or.inr rfl) (pe_dc (own := [("at", 3), ("k", 4)]) (g := (gTup K 2 (gCons (gName 3) (gCons (gName 4) gNil)))) rfl sc_renumber.nd (pi_enum (by rfl) T.b_enumerate (pa_cons (pv 1) pa_nil)) (blkOk_by (N := N_renumber) (sc := defScope s_renumber) (by decide +kernel)) (fun _ _ _ _ _ => (pg_tup (by rfl) (pgs_cons (pg_name (i := 3) sc_renumber.nd rfl (Or.inl rfl)) (pgs_cons (pg_name (i := 4) sc_renumber.nd rfl (Or.inl rfl)) pgs_nil)))) (fun _ _ _ _ _ => pts_nil) (fun _ _ _ _ _ => (pv 4)) (fun _ _ _ _ _ => (pv 3))))
  (pss_cons (ps_set (i := 5) sc_renumber.nd rfl (Or.inl rfl) (pe_use U_renumbered (hr.mono (by decide)) hg rfl (pa_cons (pe_dgetK (pe_glob (v := .ref aD_CONTROLS) (by rfl) gD_CONTROLS rfl) (pe_ix ix_tup (pe_fd UC_Machine (by decide +kernel) (pv 0)) pe_int (fun _ _ => rfl)) (fun _ _ => rfl)) (pa_cons (pe_fd UC_Machine (by decide +kernel) (pv 0)) (pa_cons (pv 2) pa_nil)))))
  (pss_cons (ps_setLc (i := 6) (own := [("frame", 7)]) (g := (gName 7)) rfl sc_renumber.nd rfl rfl (sw_true rfl rfl rfl (by decide +kernel)) (pi_list (pe_fd UC_Machine (by decide +kernel) (pv 0))) (blkOk_by (N := N_renumber) (sc := defScope s_renumber) (by decide +kernel)) (fun _ _ _ _ _ => (pg_name (i := 7) sc_renumber.nd rfl (Or.inl rfl))) (fun _ _ _ _ _ => pts_nil) (fun _ _ _ _ _ => (pe_use U_renumbered (hr.mono (by decide)) hg rfl (pa_cons (pe_dgetK (pe_glob (v := .ref aD_FIELDS) (by rfl) gD_FIELDS rfl) (pe_ix (ix_tup : IxR _ (rIxT K)) (pv 7) pe_int (fun _ _ => rfl)) (fun _ _ => rfl) : PE _ _ (tDGetK P w K _ _)) (pa_cons (pv 7) (pa_cons (pv 2) pa_nil))))))
  (pss_cons (ps_setLc (i := 8) (own := [("k", 4)]) (g := (gName 4)) rfl sc_renumber.nd rfl rfl (sw_true rfl rfl rfl (by decide +kernel)) (pi_list (pv 1)) (blkOk_by (N := N_renumber) (sc := defScope s_renumber) (by decide +kernel)) (fun _ _ _ _ _ => (pg_name (i := 4) sc_renumber.nd rfl (Or.inl rfl))) (fun _ _ _ _ _ => pts_nil) (fun _ _ _ _ _ => (pe_ix (ix_list : IxR _ (rIxL K)) (pe_fd UC_Machine (by decide +kernel) (pv 0)) (pv 4) (fun _ _ => rfl))))
  (pss_cons (ps_setLc (i := 9) (own := [("item", 10)]) (g := (gName 10)) rfl sc_renumber.nd rfl rfl (sw_true rfl rfl rfl (by decide +kernel)) (pi_list (pv 8)) (blkOk_by (N := N_renumber) (sc := defScope s_renumber) (by decide +kernel)) (fun _ _ _ _ _ => (pg_name (i := 10) sc_renumber.nd rfl (Or.inl rfl))) (fun _ _ _ _ _ => pts_nil) (fun _ _ _ _ _ => (pe_use U_renumbered (hr.mono (by decide)) hg rfl (pa_cons (pe_dgetK (pe_glob (v := .ref aD_OBJECTS) (by rfl) gD_OBJECTS rfl) (pe_ix (ix_tup : IxR _ (rIxT K)) (pv 10) pe_int (fun _ _ => rfl)) (fun _ _ => rfl) : PE _ _ (tDGetK P w K _ _)) (pa_cons (pv 10) (pa_cons (pv 2) pa_nil))))))
  (pss_one (ps_ret (pe_mk U_Machine___init__ (hr.mono (by decide)) rfl (pa_cons (pv 5) (pa_cons (pv 6) (pa_cons (pv 9) (pa_cons (pe_fd UC_Machine (by decide +kernel) (pv 0)) (pa_cons (pe_fd UC_Machine (by decide +kernel) (pv 0)) (pa_cons (pe_fd UC_Machine (by decide +kernel) (pv 0)) (pa_cons (pe_fd UC_Machine (by decide +kernel) (pv 0)) (pa_cons (pe_fd UC_Machine (by decide +kernel) (pv 0)) pa_nil))))))))))))))))), ?_⟩
    obtain ⟨vc, ⟨dx, em⟩, dvc⟩ := MA.ex
    obtain ⟨ys, ey, ay⟩ := id MA.f
    obtain ⟨xs, ex, ax⟩ := id MA.h
    refine ⟨_, rfl, ma, fl, hl, M, m, rfl, MA, sm, hm, hm2, fun oa H1 t hoa S1 hend e1 => ?_⟩
    have full : Full M m t := ⟨sm, hm, hend⟩
    have hlm := sm.stlen hm t
    have hnd : (M.st t).Nodup := St_nodup t
    have hfr := full.e.closed.1
    -- numbers
    refine ⟨_, rfl, oa, _, rfl, SqL.of e1, fun na hna => ?_⟩
    refine dc_it walk_enum (fun i H' => (∃ kvs : List (Key × V), H' na = some (.dK kvs) ∧ kvs.length ≤ i ∧ ∀ (j : Nat) (k : Int), j < i → (M.st t)[j]? = some k → valV kvs (.inl k) = some (.int ((j : Nat) : Int))) ∧ Same H1 H') ⟨⟨[], upd_same, Nat.le_refl _, fun j k hj => by omega⟩, Same.new hna⟩ (fun i H' _ h => SqL.of (h.2 _ _ e1)) ?_ ?_
    · rintro i y H5 H6 hi ⟨⟨kvs, ek, hkl, hk⟩, S5⟩ ⟨T, a1, a2, rfl, hT, rfl, b1, b2⟩
      have b2 : ((M.st t).map V.int)[i]? = some a2 := b2
      rw [List.getElem?_map] at b2
      obtain ⟨z, hz, rfl⟩ := Option.map_eq_some_iff.mp b2
      cases b1
      rw [List.length_map] at hi
      have S6 := Same.new (o := .tup [.int (i : Nat), .int z]) hT
      refine ⟨T, _, rfl, SqT.of upd_same, rfl, _, _, rfl, _, _, rfl, rfl, rfl, tYes_of ⟨_, rfl, _, rfl, kvs, .inl z, rfl, S6 _ _ ek, Nat.lt_of_le_of_lt (show _ ≤ 1000 by omega) (by decide), ⟨_, upd_same, ?_, fun j k' hj hk' => ?_⟩, fun b o hb => by rw [upd_ne (ne_of_none hb hna)]; exact (S5.trans S6) _ _ hb⟩⟩
      · have := length_putK kvs (.inl z) (.int (i : Nat))
        omega
      · rw [valV_put]
        by_cases c : j = i
        · subst c
          rw [hz] at hk'
          obtain rfl := Option.some.inj hk'
          rw [if_pos rfl]
        · have hne : (Sum.inl k' : Key) ≠ .inl z := fun e => by
            obtain rfl := Sum.inl.inj e
            exact c ((idx_of hnd hk').symm.trans (idx_of hnd hz))
          rw [if_neg hne]
          exact hk j k' (by omega) hk'
    rintro H5 ⟨⟨kvs, ek, hkl, hk⟩, S15⟩
    rw [List.length_map] at hkl hk
    have NA : NumAt H5 na (M.st t) := NumAt.of_kn hnd ⟨kvs, ek, hkl, fun j k' h' => hk j k' (List.getElem?_eq_some_iff.mp h').1 h'⟩
    have S5 := S1.trans S15
    have e5 := S15 _ _ e1
    clear ek hkl hk kvs S1 S15 e1
    have onesT : ∀ gs : List Fld, ((gs.map Fl2.one).map (tf2 (M.st t))).map fl2D = (gs.map (tf (M.st t))).map fldD := fun gs => by rw [List.map_map, List.map_map, List.map_map]; rfl
    -- control
    obtain ⟨qc, wc, evc, hqc, _⟩ := (show Dt K H5 vc (.tuple (.str M.c.kd :: M.c.fs.map fldD)) from dvc.mono S5).head
    refine ⟨_, rfl, ma, dx, _, _, rfl, S5 _ _ em, mf_control, qc, _, _, _, evc, rfl, hqc, at0, aD_CONTROLS, _, .inr M.c.kd, _, rfl, kDC, rfl, tab_val controls_at sm.c.1, _, rfl, ma, dx, _, _, rfl, S5 _ _ em, mf_control, _, rfl, vc, na, M.st t, M.c.kd, M.c.fs.map .one, _, rfl, ones_l _, coTab_len sm.c.1, NA, by rw [ones_D]; exact dvc.mono S5, fun x hx => ?_, fun rc H6 S6 drc => ?_⟩
    · obtain ⟨y, hy, rfl⟩ := List.mem_map.mp hx
      exact ⟨(sm.c.2 y hy).n, fun z hz => hfr z (List.mem_append_left _ (List.mem_flatMap.mpr ⟨y, hy, hz⟩))⟩
    rw [onesT] at drc
    have S56 := S5.trans S6
    -- frames
    refine ⟨_, rfl, ma, dx, _, _, rfl, S56 _ _ em, mf_frames, fl, rfl, ⟨_, SqL.of (S56 _ _ ey)⟩, fun D hD => ?_⟩
    have hyl : ys.length = M.frs.length := by rw [ay.length, List.length_map]
    refine lc_it (walk_list (xs := ys)) (fun j H' => LAcc K H6 D ((M.frs.take j).map fun f => frD (tfr (M.st t) f)) H') (LAcc.start hD) (fun j H' _ h => let ⟨_, _, _, S'⟩ := h; SqL.of (S' _ _ (S56 _ _ ey))) ?_ ?_
    · rintro j y H7 H8 hj Z ⟨rfl, hy⟩
      obtain ⟨_, _, _, S7⟩ := id Z
      obtain ⟨d, hd, dy⟩ := ay.getV hy
      rw [List.getElem?_map] at hd
      obtain ⟨g, hgm, rfl⟩ := Option.map_eq_some_iff.mp hd
      have hg1 := List.mem_of_getElem? hgm
      have hgs := sm.f g hg1
      have dy5 := dy.mono (S56.trans S7)
      obtain ⟨q2, w2, rfl, hq2, _⟩ := (show Dt K _ y (.tuple (.str g.kd :: g.fs.map fldD)) from dy5).head
      refine ⟨rfl, tYes_of ⟨_, rfl, q2, _, _, _, rfl, rfl, hq2, at0, aD_FIELDS, _, .inr g.kd, _, rfl, kDF, rfl, tab_val fields_at hgs.1, _, rfl, _, rfl, _, na, M.st t, g.kd, g.fs.map .one, _, rfl, ones_l _, frTab_len10 hgs.1, NA.same (S6.trans S7), by rw [ones_D]; exact dy5, fun x hx => ?_, fun r H9 S9 dr => ?_⟩⟩
      · obtain ⟨y, hy, rfl⟩ := List.mem_map.mp hx
        exact ⟨(hgs.2 y hy).n, fun z hz => hfr z (List.mem_append_right _ (List.mem_flatMap.mpr ⟨g, hg1, List.mem_flatMap.mpr ⟨y, hy, hz⟩⟩))⟩
      · rw [onesT] at dr
        obtain ⟨acc, e7, hl7, Z7⟩ := Z.put hD S9 (d := frD (tfr (M.st t) g)) dr (by rw [List.length_map, List.length_take]; have := sm.fl; omega)
        refine ⟨acc, e7, hl7, ?_⟩
        rw [List.take_succ, hgm, List.map_append]
        exact Z7
    rintro H7 ⟨fa, ef, af, S7⟩
    rw [hyl, List.take_length] at af
    have S57 := S56.trans S7
    have hDH : H D = none := same_none S56 hD
    -- items
    have e7 := (S6.trans S7) _ _ e5
    refine ⟨_, rfl, oa, rfl, ⟨_, SqL.of e7⟩, fun D2 hD2 => ?_⟩
    refine lc_it (walk_list (xs := (M.st t).map V.int)) (fun j H' => LAcc K H7 D2 (((M.st t).take j).map fun k => obD (M.ob k)) H') (LAcc.start hD2) (fun j H' _ h => let ⟨_, _, _, S'⟩ := h; SqL.of (S' _ _ e7)) ?_ ?_
    · rintro j y H8 H9 hj Z ⟨rfl, hy⟩
      obtain ⟨_, _, _, S8⟩ := id Z
      rw [List.getElem?_map] at hy
      obtain ⟨z, hz, rfl⟩ := Option.map_eq_some_iff.mp hy
      obtain ⟨i, rfl, ho, hos, hR, hsub⟩ := full.at (List.mem_of_getElem? hz)
      obtain ⟨v, hv, dv⟩ := ax.get (i := i) (d := obD (M.ob (i : Int))) (by rw [List.getElem?_map, ho]; rfl)
      have S58 := S57.trans S8
      refine ⟨rfl, tYes_of ⟨_, rfl, ma, dx, _, _, rfl, S58 _ _ em, mf_heap, _, rfl, hl, _, _, _, rfl, rfl, SqL.of (S58 _ _ ex), atI_nat hv, ?_⟩⟩
      obtain ⟨acc, e9, hl9, Z9⟩ := Z.put hD2 (Same.refl _) (dv.mono S58) (by rw [List.length_map, List.length_take]; omega)
      refine ⟨acc, e9, hl9, ?_⟩
      rw [List.take_succ, hz, List.map_append]
      exact Z9
    rintro H8 ⟨ia, ei, ai, S8⟩
    rw [List.length_map, List.take_length] at ai
    have S58 := S57.trans S8
    -- heap
    refine ⟨_, rfl, D2, rfl, ⟨_, SqL.of ei⟩, fun D3 hD3 => ?_⟩
    have hil : ia.length = (M.st t).length := by rw [ai.length, List.length_map]
    refine lc_it (walk_list (xs := ia)) (fun j H' => LAcc K H8 D3 (((M.st t).take j).map fun k => obD (tob (M.st t) (M.ob k))) H') (LAcc.start hD3) (fun j H' _ h => let ⟨_, _, _, S'⟩ := h; SqL.of (S' _ _ ei)) ?_ ?_
    · rintro j y H9 H10 hj Z ⟨rfl, hy⟩
      obtain ⟨_, _, _, S9⟩ := id Z
      obtain ⟨d, hd, dy⟩ := ai.getV hy
      rw [List.getElem?_map] at hd
      obtain ⟨z, hz, rfl⟩ := Option.map_eq_some_iff.mp hd
      obtain ⟨i, rfl, ho, hos, hR, hsub⟩ := full.at (List.mem_of_getElem? hz)
      have dy5 := dy.mono S9
      obtain ⟨q2, w2, rfl, hq2, _⟩ := (show Dt K _ y (.tuple (.str (M.ob (i : Int)).kd :: (M.ob (i : Int)).fs.map fl2D)) from dy5).head
      refine ⟨rfl, tYes_of ⟨_, rfl, q2, _, _, _, rfl, rfl, hq2, at0, aD_OBJECTS, _, .inr (M.ob (i : Int)).kd, _, rfl, kDO, rfl, tab_val objects_at hos.1, _, rfl, _, rfl, _, na, M.st t, (M.ob (i : Int)).kd, (M.ob (i : Int)).fs, _, rfl, rfl, obTab_len10 hos.1, NA.same (((S6.trans S7).trans S8).trans S9), dy5, fun x hx => ⟨(hos.2 x hx).n, fun z hz => hsub z (List.mem_flatMap.mpr ⟨x, hx, hz⟩)⟩, fun r H11 S11 dr => ?_⟩⟩
      obtain ⟨acc, e9, hl9, Z9⟩ := Z.put hD3 S11 (d := obD (tob (M.st t) (M.ob (i : Int)))) dr (by rw [List.length_map, List.length_take]; omega)
      refine ⟨acc, e9, hl9, ?_⟩
      rw [List.take_succ, hz, List.map_append]
      exact Z9
    rintro H9 ⟨ha, eh, ah, S9⟩
    rw [hil, List.take_length] at ah
    have S59 := S58.trans S9
    have em9 := S59 _ _ em
    have hD3H : H D3 = none := same_none S58 hD3
    have hDD : D ≠ D3 := ne_of_none (S8 _ _ ef) hD3
    refine ⟨_, rfl, _, rfl, _, rfl, _, rfl, ma, dx, _, _, rfl, em9, mf_out, _, rfl, ma, dx, _, _, rfl, em9, mf_active, _, rfl, ma, dx, _, _, rfl, em9, mf_here, _, rfl, ma, dx, _, _, rfl, em9, mf_line, _, rfl, ma, dx, _, _, rfl, em9, mf_steps, ?_⟩
    intro mb dx2 nm ndx ne
    have S10 : Same H9 (upd (upd H9 dx2 (.own mb)) mb (.ins C dx2 [])) := fun b o e => by rw [upd_ne (ne_of_none e nm), upd_ne (ne_of_none e ndx)]; exact e
    refine ⟨mb, dx2, _, _, _, _, _, _, _, _, rfl, upd_same, fun H11 hmb keep => ⟨rfl, ?_⟩⟩
    have S11 : Same H9 H11 := fun b o e => keep _ _ (S10 _ _ e) (ne_of_none e nm)
    refine k mb D D3 t H11 full ⟨⟨rc, ⟨dx2, hmb⟩, drc.mono (((S7.trans S8).trans S9).trans S11)⟩, ⟨fa, S11 _ _ (S9 _ _ (S8 _ _ ef)), ?_⟩, ⟨ha, S11 _ _ eh, ?_⟩⟩ (S59.trans S11) (same_none S59 nm) hDH hD3H hDD
    · show DtAll K H11 fa ((M.frs.map (tfr (M.st t))).map frD)
      rw [List.map_map]
      exact af.mono ((S8.trans S9).trans S11)
    · show DtAll K H11 ha (((M.st t).map fun k => tob (M.st t) (M.ob k)).map obD)
      rw [List.map_map]
      exact ah.mono S11
--SPLIT
end

section
--SPLIT
end
abbrev s_law_turned_value : Stmt := top 75
abbrev N_law_turned_value : List Str := ["value", "places"]
abbrev P_law_turned_value : List Str := ["value", "places"]
theorem sc_law_turned_value : FnScope N_law_turned_value P_law_turned_value (defScope s_law_turned_value) := ⟨rfl, rfl, rfl, by decide +kernel, rfl, by decide +kernel, by decide +kernel⟩
abbrev s_law_turned : Stmt := top 76
abbrev N_law_turned : List Str := ["table", "item", "places", "letters", "answer", "k", "field", "letter", "value", "pair", "frame"]
abbrev P_law_turned : List Str := ["table", "item", "places"]
theorem sc_law_turned : FnScope N_law_turned P_law_turned (defScope s_law_turned) := ⟨rfl, rfl, rfl, by decide +kernel, rfl, by decide +kernel, by decide +kernel⟩
section
variable {P : Program} {w : World} {K : PySem.W.Frag} {mg : Str → Option Value} {base : Heap}
def PlAt (H : Hp) (pa : Addr) (l : List Int) : Prop := ∃ ps : List Int, H pa = some (.lst (ps.map V.int)) ∧ ∀ k ∈ l, 0 ≤ k → ps[k.toNat]? = some (gx l k)
theorem PlAt.same {H H' : Hp} {pa : Addr} {l : List Int} (h : PlAt H pa l) (e : Same H H') : PlAt H' pa l := let ⟨x, a, b⟩ := h; ⟨x, e _ _ a, b⟩
theorem PlAt.get {H : Hp} {pa : Addr} {l : List Int} (h : PlAt H pa l) {k : Int} (hk : k ∈ l) (h0 : 0 ≤ k) : ∃ ws, H pa = some (.lst ws) ∧ atI ws k = some (.int (gx l k)) := by
  obtain ⟨ps, e, p⟩ := h
  have h1 := p k hk h0
  exact ⟨_, e, at_of' (j := k.toNat) (by omega) (by rw [List.getElem?_map, h1]; rfl)⟩
def spTurnV (K : PySem.W.Frag) : Sp := fun vs H Q _ => ∃ (v : V) (pa : Addr) (l : List Int) (x : Val), vs = [v, .ref pa] ∧ PlAt H pa l ∧ Dt K H v (valD x) ∧ (∀ k ∈ valR x, k ∈ l) ∧ ∀ r H', Same H H' → Dt K H' r (valD (tv l x)) → Q r H'
theorem ok_turnv {f : Addr} {fd : FuncData} (F : Fun K "_law_turned_value" "_law_turned_value" s_law_turned_value f fd) (T : Txt K mg) : FnG P w K mg base CX0 1 f fd P_law_turned_value (spTurnV K) := by
  refine okG0 F sc_law_turned_value (fun vs H Q E h => ?_) fun cdv A outer s H vs Q E hr hg h => ?_
  · obtain ⟨v, na, l, x, rfl, _⟩ := h
    rfl
  · obtain ⟨v, na, l, x, rfl, NA, dv, hm, k⟩ := h
    refine ⟨_, (pss_cons (ps_if (pt_cmpR op_eq (pe_ix ix_tup (pv 0) pe_int (fun _ _ => rfl)) pe_str (nomark _))
   (pss_one (ps_ret (pe_tup (pa_cons pe_str (pa_cons (pe_ix ix_list (pv 1) (pe_ix ix_tup (pv 0) pe_int (fun _ _ => rfl)) (fun _ _ => rfl)) pa_nil)))))
   pss_nil)
  (pss_one (ps_ret (pv 0)))), ?_⟩
    have dv0 := dv
    obtain ⟨kv, rv, ev, hkv⟩ := valD_hd x
    rw [ev] at dv
    obtain ⟨q, ws, rfl, hq, hw⟩ := dv.head
    refine ⟨_, rfl, q, _, _, _, rfl, rfl, hq, at0, rfl, _, rfl, ?_⟩
    rcases hkv with ⟨hne, hnil⟩ | ⟨rfl, n, rfl, rfl⟩
    · refine iteFb (decide_eq_false fun e => hne (V.str.inj e)) ?_
      have : tv l x = x := by
        cases x with
        | ref n => cases hnil
        | _ => rfl
      exact ⟨_, rfl, k _ _ (Same.refl _) (by rw [this]; exact dv0)⟩
    · refine iteTb (decide_eq_true rfl) ?_
      obtain ⟨y1, w1, rfl, d1, hw1⟩ := hw.cons_inv
      cases hw1.nil_inv
      cases d1.int_inv
      obtain ⟨ps, ep, hp⟩ := NA.get (hm (n : Int) (by simp [valR])) (by omega)
      refine ⟨_, rfl, _, rfl, q, _, _, _, rfl, rfl, hq, at1, na, _, _, _, rfl, rfl, SqL.of ep, hp, sz_2, fun u hu => ?_⟩
      exact k _ _ (Same.new hu) (Dt.made hu (.cons (.str _) (.cons (.int _) .nil)))
def spTurned0 (K : PySem.W.Frag) : Sp := fun vs H Q _ => ∃ (tl : Addr) (v : V) (pa : Addr) (tab : Tab) (l : List Int) (kd : Str) (fs : List Fld), vs = [.ref tl, v, .ref pa] ∧ TabAt H tl tab ∧ (tab.map (·.1)).Nodup ∧ (kd, fs.map ltr) ∈ tab ∧ fs.length ≤ 10 ∧ PlAt H pa l ∧ Dt K H v (.tuple (.str kd :: fs.map fldD)) ∧ (∀ x ∈ fs, FldN x ∧ FldL l x) ∧
  ∀ r H', Same H H' → Dt K H' r (.tuple (.str kd :: (fs.map (tf l)).map fldD)) → Q r H'
theorem ok_turned0 {f : Addr} {fd : FuncData} (F : Fun K "_law_turned" "_law_turned" s_law_turned f fd) (T : Txt K mg) (U_law_letters : Use P w K mg base CX0 "_law_letters" 1 P_law_letters (spLetters K)) (U_law_turned_value : Use P w K mg base CX0 "_law_turned_value" 1 P_law_turned_value (spTurnV K)) : FnG P w K mg base CX0 2 f fd P_law_turned (spTurned0 K) := by
  refine okG0 F sc_law_turned (fun vs H Q E h => ?_) fun cdv A outer s H vs Q E hr hg h => ?_
  · obtain ⟨tl, v, pa, tab, l, kd, fs, rfl, _⟩ := h
    rfl
  · obtain ⟨tl, v, pa, tab, l, kd, fs, rfl, hT, hnd, hmem, hfl, PA, dv, hN, k⟩ := h
    refine ⟨_, (pss_cons (ps_set (i := 3) sc_law_turned.nd rfl (Or.inl rfl) (pe_use U_law_letters (hr.mono (by decide)) hg rfl (pa_cons (pv 0) (pa_cons (pe_ix ix_tup (pv 1) pe_int (fun _ _ => rfl)) pa_nil))))
  (pss_cons (ps_set (i := 4) sc_law_turned.nd rfl (Or.inl rfl) (pe_tup (pa_cons (pe_ix ix_tup (pv 1) pe_int (fun _ _ => rfl)) pa_nil)))
  (pss_cons (ps_for PassesOwn.never rfl (pi_range1 (by rfl) T.b_range (pa_cons (pe_callB call_len (by rfl) T.b_len PySem.boot_len (pa_cons (pv 3) pa_nil)) pa_nil)) (pg_name (i := 5) sc_law_turned.nd rfl (Or.inl rfl))
   (pss_cons (ps_set (i := 6) sc_law_turned.nd rfl (Or.inl rfl) (pe_ix ix_tup (pv 1) (pe_op op_add (pv 5) pe_int) (fun _ _ => rfl)))
  (pss_cons (ps_set (i := 7) sc_law_turned.nd rfl (Or.inl rfl) (pe_ix ix_str (pv 3) (pv 5) (fun _ _ => rfl)))
  (C8.pss_cut (ps_if (pt_cmpR op_eq (pv 7) pe_str (nomark _))
   (pss_one (ps_set (i := 6) sc_law_turned.nd rfl (Or.inl rfl) (pe_use U_law_turned_value (hr.mono (by decide)) hg rfl (pa_cons (pv 6) (pa_cons (pv 2) pa_nil)))))
   (pss_one (ps_if (pt_cmpR op_eq (pv 7) pe_str (nomark _))
   (pss_one (ps_set (i := 6) sc_law_turned.nd rfl (Or.inl rfl) (pe_callTy call_tuple_of (by rfl) T.b_tuple (by decide +kernel) (pa_cons (pe_lc (own := [("value", 8)]) (g := (gName 8)) rfl sc_law_turned.nd (pi_tup (pv 6)) (blkOk_by (N := N_law_turned) (sc := defScope s_law_turned) (by decide +kernel)) (fun _ _ _ _ _ => (pg_name (i := 8) sc_law_turned.nd rfl (Or.inl rfl))) (fun _ _ _ _ _ => pts_nil) (fun _ _ _ _ _ => (pe_use U_law_turned_value (hr.mono (by decide)) hg rfl (pa_cons (pv 8) (pa_cons (pv 2) pa_nil))))) pa_nil))))
   (pss_one (ps_if (pt_cmpR op_eq (pv 7) pe_str (nomark _))
   (pss_one (ps_set (i := 6) sc_law_turned.nd rfl (Or.inl rfl) (pe_callTy call_tuple_of (by rfl) T.b_tuple (by decide +kernel) (pa_cons (pe_lc (own := [("pair", 9)]) (g := (gName 9)) rfl sc_law_turned.nd (pi_tup (pv 6)) (blkOk_by (N := N_law_turned) (sc := defScope s_law_turned) (by decide +kernel)) (fun _ _ _ _ _ => (pg_name (i := 9) sc_law_turned.nd rfl (Or.inl rfl))) (fun _ _ _ _ _ => pts_nil) (fun _ _ _ _ _ => (pe_tup (pa_cons (pe_use U_law_turned_value (hr.mono (by decide)) hg rfl (pa_cons (pe_ix (ix_tup : IxR _ (rIxT K)) (pv 9) pe_int (fun _ _ => rfl)) (pa_cons (pv 2) pa_nil))) (pa_cons (pe_use U_law_turned_value (hr.mono (by decide)) hg rfl (pa_cons (pe_ix (ix_tup : IxR _ (rIxT K)) (pv 9) pe_int (fun _ _ => rfl)) (pa_cons (pv 2) pa_nil))) pa_nil))))) pa_nil))))
   (pss_one (ps_if (pt_cmpR op_eq (pv 7) pe_str (nomark _))
   (pss_one (ps_set (i := 6) sc_law_turned.nd rfl (Or.inl rfl) (pe_callTy call_tuple_of (by rfl) T.b_tuple (by decide +kernel) (pa_cons (pe_lc (own := [("pair", 9)]) (g := (gName 9)) rfl sc_law_turned.nd (pi_tup (pv 6)) (blkOk_by (N := N_law_turned) (sc := defScope s_law_turned) (by decide +kernel)) (fun _ _ _ _ _ => (pg_name (i := 9) sc_law_turned.nd rfl (Or.inl rfl))) (fun _ _ _ _ _ => pts_nil) (fun _ _ _ _ _ => (pe_tup (pa_cons (pe_ix (ix_tup : IxR _ (rIxT K)) (pv 9) pe_int (fun _ _ => rfl)) (pa_cons (pe_use U_law_turned_value (hr.mono (by decide)) hg rfl (pa_cons (pe_ix (ix_tup : IxR _ (rIxT K)) (pv 9) pe_int (fun _ _ => rfl)) (pa_cons (pv 2) pa_nil))) pa_nil))))) pa_nil))))
   (pss_one (ps_if (PW.pt (pw_or (pt_cmpR op_eq (pv 7) pe_str (nomark _)) (pw_or1 (PW.pt (pw_and (pt_cmpR op_eq (pv 7) pe_str (nomark _)) (pw_and1 (pt_cmpR op_ge (pv 6) pe_int (nomark _))))))))
   (pss_one (ps_set (i := 6) sc_law_turned.nd rfl (Or.inl rfl) (pe_ix ix_list (pv 2) (pv 6) (fun _ _ => rfl))))
   (pss_one (ps_if (PW.pt (pw_and (pt_cmpR op_eq (pv 7) pe_str (nomark _)) (pw_and1 (pt_cmpR op_eq (pe_callB call_len (by rfl) T.b_len PySem.boot_len (pa_cons (pv 6) pa_nil)) pe_int (nomark _)))))
   (pss_one (ps_set (i := 6) sc_law_turned.nd rfl (Or.inl rfl) (pe_tup (pa_cons (pe_ix ix_tup (pv 6) pe_int (fun _ _ => rfl)) (pa_cons (pe_use U_law_turned_value (hr.mono (by decide)) hg rfl (pa_cons (pe_ix ix_tup (pv 6) pe_int (fun _ _ => rfl)) (pa_cons (pv 2) pa_nil))) pa_nil)))))
   (pss_one (ps_if (pt_cmpR op_eq (pv 7) pe_str (nomark _))
   pss_never
   pss_nil)))))))))))))
  (pss_one (ps_set (i := 4) sc_law_turned.nd rfl (Or.inl rfl) (pe_op op_catTD (pv 4) (pe_tup (pa_cons (pv 6) pa_nil)))))))))
  (pss_one (ps_ret (pv 4)))))), ?_⟩
    obtain ⟨q0, ws, rfl, hq0, ha⟩ := dv.head
    have hal := ha.length
    rw [List.length_map] at hal
    refine ⟨_, rfl, _, rfl, q0, _, _, _, rfl, rfl, hq0, at0, tl, tab, kd, fs.map ltr, rfl, hT, hmem, hnd, ?_⟩
    refine ⟨_, rfl, q0, _, _, _, rfl, rfl, hq0, at0, sz_1, fun u0 hu0 => ?_⟩
    have S0 := Same.new (o := .tup [.str kd]) hu0
    refine ⟨_, rfl, _, (fs.map ltr).length, rfl, ⟨by rw [S_len, List.length_map]; exact Nat.le_trans hfl (by decide), (S_len _).symm⟩, _, rfl, by omega, by rw [List.length_map]; omega, ?_⟩
    rw [List.length_map, Int.toNat_natCast]
    refine for_range (lo := 0) (n := fs.length) (fun i σ H' => ∃ (va : V) (x5 x6 x7 : Option V), σ = [some (.ref tl), some (.ref q0), some (.ref pa), some (.str (S (fs.map ltr))), some va, x5, x6, x7, none, none, none] ∧ Dt K H' va (.tuple (.str kd :: (fs.take i).map fun x => fldD (tf l x))) ∧ Same H H') ⟨.ref u0, none, none, none, rfl, Dt.made hu0 (.cons (.str _) .nil), S0⟩ ?_ ?_
    · rintro i σ H1 hi ⟨va, x5, x6, x7, rfl, dva, S1⟩
      rw [Int.zero_add]
      have hx : fs[i]? = some fs[i] := List.getElem?_eq_getElem hi
      obtain ⟨hNx, hLx⟩ := hN _ (List.getElem_mem hi)
      generalize fs[i] = x at hx hNx hLx
      obtain ⟨y, hy, dy⟩ := ha.get (i := i) (d := fldD x) (by rw [List.getElem?_map, hx]; rfl)
      have hlc : (fs.map ltr)[i]? = some (ltr x) := by rw [List.getElem?_map, hx]; rfl
      have dy1 := dy.mono S1
      refine ⟨_, rfl, _, rfl, _, _, rfl, rfl, q0, _, _, _, rfl, rfl, Same.tupl S1 hq0, at_of' (j := i + 1) (by omega) hy, ?_⟩
      refine ⟨_, rfl, _, rfl, _, _, _, rfl, rfl, by rw [S_len, List.length_map]; exact Nat.le_trans hfl (by decide), at_S hlc, ?_⟩
      have PA1 := PA.same S1
      refine ⟨fun σ H' => ∃ (v' : V), σ = [some (.ref tl), some (.ref q0), some (.ref pa), some (.str (S (fs.map ltr))), some va, some (.int (i : Int)), some v', some (.str (S [ltr x])), none, none, none] ∧ Dt K H' v' (fldD (tf l x)) ∧ Same H1 H', ?_, ?_⟩
      · clear hx hlc hy dy dva
        have hc : ∃ c, c = ltr x := ⟨_, rfl⟩
        obtain ⟨c, hc⟩ := hc
        rw [← hc]
        cases x with
        | v x =>
          obtain rfl : c = 118 := hc
          refine ⟨_, rfl, rfl, _, rfl, iteTb (by decide +kernel) ?_⟩
          exact ⟨_, rfl, _, rfl, y, pa, l, x, rfl, PA1, dy1, fun j hj => hLx j (by simpa [fldR, fldVs] using hj), fun r H' S' d' => ⟨r, rfl, d', S'⟩⟩
        | V xs =>
          obtain rfl : c = 86 := hc
          refine ⟨_, rfl, rfl, _, rfl, iteFb (by decide +kernel) ?_⟩
          refine ⟨_, rfl, rfl, _, rfl, iteTb (by decide +kernel) ?_⟩
          obtain ⟨q, ws', rfl, hq, ha'⟩ := (show Dt K H1 y (.tuple (xs.map valD)) from dy1).tuple_inv
          have hal' := ha'.length
          rw [List.length_map] at hal'
          have hN' : xs.length ≤ 10 := hNx
          refine ⟨_, rfl, q, rfl, ⟨_, hq⟩, fun D hD => ?_⟩
          refine lc_it (walk_tup (xs := ws')) (fun j H' => LAcc K H1 D ((xs.take j).map fun x => valD (tv l x)) H') (LAcc.start hD) (fun j H' _ h => let ⟨_, _, _, S'⟩ := h; Same.tupl S' hq) ?_ ?_
          · rintro j y' H5 H6 hj Z ⟨rfl, hy'⟩
            obtain ⟨_, _, _, S5⟩ := id Z
            obtain ⟨d, hd, dy'⟩ := ha'.getV hy'
            rw [List.getElem?_map] at hd
            obtain ⟨vx, hvx, rfl⟩ := Option.map_eq_some_iff.mp hd
            refine ⟨rfl, tYes_of ⟨_, rfl, _, rfl, y', pa, l, vx, rfl, PA1.same S5, dy'.mono S5, fun z hz => hLx z (List.mem_flatMap.mpr ⟨vx, List.mem_of_getElem? hvx, hz⟩), fun r H7 S7 dr => ?_⟩⟩
            obtain ⟨acc, e7, hl7, Z7⟩ := Z.put hD S7 dr (by rw [List.length_map, List.length_take]; omega)
            refine ⟨acc, e7, hl7, ?_⟩
            rw [List.take_succ, hvx, List.map_append]
            exact Z7
          · rintro H5 ⟨acc, e5, a5, S5⟩
            rw [hal', List.take_length] at a5
            refine ⟨D, _, rfl, .inl ⟨SqL.of e5, fun t ht => ⟨_, rfl, Dt.made ht ?_, S5.trans (Same.new ht)⟩⟩⟩
            show DtAll K H5 acc ((xs.map (tv l)).map valD)
            rw [List.map_map]
            exact a5
        | W ps =>
          obtain rfl : c = 87 := hc
          iterate 2 refine ⟨_, rfl, rfl, _, rfl, iteFb (by decide +kernel) ?_⟩
          refine ⟨_, rfl, rfl, _, rfl, iteTb (by decide +kernel) ?_⟩
          obtain ⟨q, ws', rfl, hq, ha'⟩ := (show Dt K H1 y (.tuple (ps.map fun p => .tuple [valD p.1, valD p.2])) from dy1).tuple_inv
          have hal' := ha'.length
          rw [List.length_map] at hal'
          have hN' : (ps.flatMap fun p => [p.1, p.2]).length ≤ 10 := hNx
          rw [fm_len] at hN'
          refine ⟨_, rfl, q, rfl, ⟨_, hq⟩, fun D hD => ?_⟩
          refine lc_it (walk_tup (xs := ws')) (fun j H' => LAcc K H1 D ((ps.take j).map fun p => PyData.tuple [valD (tv l p.1), valD (tv l p.2)]) H') (LAcc.start hD) (fun j H' _ h => let ⟨_, _, _, S'⟩ := h; Same.tupl S' hq) ?_ ?_
          · rintro j y' H5 H6 hj Z ⟨rfl, hy'⟩
            obtain ⟨_, _, _, S5⟩ := id Z
            obtain ⟨d, hd, dy'⟩ := ha'.getV hy'
            rw [List.getElem?_map] at hd
            obtain ⟨pr, hpr, rfl⟩ := Option.map_eq_some_iff.mp hd
            obtain ⟨q2, xs2, rfl, hq2, h2⟩ := (dy'.mono S5).tuple_inv
            obtain ⟨y1, w1, rfl, dk, h3⟩ := h2.cons_inv
            obtain ⟨y2, w2, rfl, dw, h4⟩ := h3.cons_inv
            cases h4.nil_inv
            have hin : ∀ z, z ∈ valR pr.1 ∨ z ∈ valR pr.2 → z ∈ l := fun z hz => hLx z (by
              show z ∈ (ps.flatMap fun p => [p.1, p.2]).flatMap valR
              rcases hz with hz | hz
              · exact List.mem_flatMap.mpr ⟨pr.1, List.mem_flatMap.mpr ⟨pr, List.mem_of_getElem? hpr, by simp⟩, hz⟩
              · exact List.mem_flatMap.mpr ⟨pr.2, List.mem_flatMap.mpr ⟨pr, List.mem_of_getElem? hpr, by simp⟩, hz⟩)
            refine ⟨rfl, tYes_of ?_⟩
            refine ⟨_, rfl, q2, _, _, _, rfl, rfl, hq2, at0, _, rfl, y1, pa, l, pr.1, rfl, PA1.same S5, dk, fun z hz => hin z (.inl hz), fun r1 H7 S7 d1 => ?_⟩
            refine ⟨_, rfl, q2, _, _, _, rfl, rfl, Same.tupl S7 hq2, at1, _, rfl, y2, pa, l, pr.2, rfl, PA1.same (S5.trans S7), dw.mono S7, fun z hz => hin z (.inr hz), fun r2 H8 S8 d2 => ⟨sz_2, fun u hu => ?_⟩⟩
            obtain ⟨acc, e7, hl7, Z7⟩ := Z.put hD ((S7.trans S8).trans (Same.new hu)) (Dt.made hu (.cons (d1.mono S8) (.cons d2 .nil))) (by rw [List.length_map, List.length_take]; omega)
            refine ⟨acc, e7, hl7, ?_⟩
            rw [List.take_succ, hpr, List.map_append]
            exact Z7
          · rintro H5 ⟨acc, e5, a5, S5⟩
            rw [hal', List.take_length] at a5
            refine ⟨D, _, rfl, .inl ⟨SqL.of e5, fun t ht => ⟨_, rfl, Dt.made ht ?_, S5.trans (Same.new ht)⟩⟩⟩
            show DtAll K H5 acc ((ps.map fun p => (tv l p.1, tv l p.2)).map fun p => PyData.tuple [valD p.1, valD p.2])
            rw [List.map_map]
            exact a5
        | X ps =>
          obtain rfl : c = 88 := hc
          iterate 3 refine ⟨_, rfl, rfl, _, rfl, iteFb (by decide +kernel) ?_⟩
          refine ⟨_, rfl, rfl, _, rfl, iteTb (by decide +kernel) ?_⟩
          obtain ⟨q, ws', rfl, hq, ha'⟩ := (show Dt K H1 y (.tuple (ps.map fun p => .tuple [.str (tx p.1), valD p.2])) from dy1).tuple_inv
          have hal' := ha'.length
          rw [List.length_map] at hal'
          have hN' : (ps.map (·.2)).length ≤ 10 := hNx
          rw [List.length_map] at hN'
          refine ⟨_, rfl, q, rfl, ⟨_, hq⟩, fun D hD => ?_⟩
          refine lc_it (walk_tup (xs := ws')) (fun j H' => LAcc K H1 D ((ps.take j).map fun p => PyData.tuple [.str (tx p.1), valD (tv l p.2)]) H') (LAcc.start hD) (fun j H' _ h => let ⟨_, _, _, S'⟩ := h; Same.tupl S' hq) ?_ ?_
          · rintro j y' H5 H6 hj Z ⟨rfl, hy'⟩
            obtain ⟨_, _, _, S5⟩ := id Z
            obtain ⟨d, hd, dy'⟩ := ha'.getV hy'
            rw [List.getElem?_map] at hd
            obtain ⟨pr, hpr, rfl⟩ := Option.map_eq_some_iff.mp hd
            obtain ⟨q2, xs2, rfl, hq2, h2⟩ := (dy'.mono S5).tuple_inv
            obtain ⟨y1, w1, rfl, dk, h3⟩ := h2.cons_inv
            obtain ⟨y2, w2, rfl, dw, h4⟩ := h3.cons_inv
            cases h4.nil_inv
            cases dk.str_inv
            refine ⟨rfl, tYes_of ?_⟩
            refine ⟨_, rfl, q2, _, _, _, rfl, rfl, hq2, at0, _, rfl, q2, _, _, _, rfl, rfl, hq2, at1, _, rfl, y2, pa, l, pr.2, rfl, PA1.same S5, dw, fun z hz => hLx z (List.mem_flatMap.mpr ⟨pr.2, List.mem_map.mpr ⟨pr, List.mem_of_getElem? hpr, rfl⟩, hz⟩), fun r2 H8 S8 d2 => ⟨sz_2, fun u hu => ?_⟩⟩
            obtain ⟨acc, e7, hl7, Z7⟩ := Z.put hD (S8.trans (Same.new hu)) (Dt.made hu (.cons (.str (tx pr.1)) (.cons d2 .nil))) (by rw [List.length_map, List.length_take]; omega)
            refine ⟨acc, e7, hl7, ?_⟩
            rw [List.take_succ, hpr, List.map_append]
            exact Z7
          · rintro H5 ⟨acc, e5, a5, S5⟩
            rw [hal', List.take_length] at a5
            refine ⟨D, _, rfl, .inl ⟨SqL.of e5, fun t ht => ⟨_, rfl, Dt.made ht ?_, S5.trans (Same.new ht)⟩⟩⟩
            show DtAll K H5 acc ((ps.map fun p => (p.1, tv l p.2)).map fun p => PyData.tuple [.str (tx p.1), valD p.2])
            rw [List.map_map]
            exact a5
        | a n =>
          obtain rfl : c = 97 := hc
          iterate 4 refine ⟨_, rfl, rfl, _, rfl, iteFb (by decide +kernel) ?_⟩
          cases (show Dt K H1 y (.int (n : Int)) from dy1).int_inv
          refine ⟨_, rfl, rfl, _, rfl, iteTb (by decide +kernel) ?_⟩
          obtain ⟨ps, ep, hp⟩ := PA1.get (hLx (n : Int) (by simp [fldR])) (by omega)
          exact ⟨_, rfl, _, rfl, pa, _, _, _, rfl, rfl, SqL.of ep, hp, _, rfl, .int _, Same.refl _⟩
        | b n =>
          obtain rfl : c = 98 := hc
          iterate 4 refine ⟨_, rfl, rfl, _, rfl, iteFb (by decide +kernel) ?_⟩
          cases (show Dt K H1 y (.int n) from dy1).int_inv
          refine ⟨_, rfl, rfl, _, rfl, iteFb (by decide +kernel) ?_⟩
          refine ⟨_, rfl, rfl, _, rfl, iteTb (by decide +kernel) ?_⟩
          refine ⟨_, rfl, _, _, rfl, rfl, _, rfl, ?_⟩
          by_cases c : 0 ≤ n
          · refine iteTb (decide_eq_true c) ?_
            obtain ⟨ps, ep, hp⟩ := PA1.get (hLx n (by simp [fldR, c])) c
            refine ⟨_, rfl, _, rfl, pa, _, _, _, rfl, rfl, SqL.of ep, hp, _, rfl, ?_, Same.refl _⟩
            show Dt K _ _ (.int (if 0 ≤ n then ((l.idxOf n : Nat) : Int) else n))
            rw [if_pos c]
            exact .int _
          · refine iteFb (decide_eq_false c) ?_
            refine ⟨_, rfl, rfl, _, rfl, iteFb (by decide +kernel) ?_⟩
            refine ⟨_, rfl, rfl, _, rfl, iteFb (by decide +kernel) ⟨_, rfl, ?_, Same.refl _⟩⟩
            show Dt K _ _ (.int (if 0 ≤ n then ((l.idxOf n : Nat) : Int) else n))
            rw [if_neg c]
            exact .int _
        | s2 z x =>
          obtain rfl : c = 115 := hc
          iterate 4 refine ⟨_, rfl, rfl, _, rfl, iteFb (by decide +kernel) ?_⟩
          refine ⟨_, rfl, rfl, _, rfl, iteFb (by decide +kernel) ?_⟩
          refine ⟨_, rfl, rfl, _, rfl, iteFb (by decide +kernel) ?_⟩
          obtain ⟨q, y1, rfl, hq, dx⟩ := (show Dt K H1 y (.tuple [.str z, valD x]) from dy1).pair
          refine ⟨_, rfl, rfl, _, rfl, iteTb (by decide +kernel) ?_⟩
          refine ⟨_, rfl, _, _, rfl, .inr ⟨_, hq, rfl⟩, rfl, _, rfl, iteTb (decide_eq_true rfl) ?_⟩
          refine ⟨_, rfl, q, _, _, _, rfl, rfl, hq, at0, _, rfl, q, _, _, _, rfl, rfl, hq, at1, _, rfl, y1, pa, l, x, rfl, PA1, dx, fun j hj => hLx j (by simpa [fldR, fldVs] using hj), fun r H' S' d' => ⟨sz_2, fun u hu => ?_⟩⟩
          exact ⟨_, rfl, Dt.made hu (.cons (.str z) (.cons d' .nil)), S'.trans (Same.new hu)⟩
        | s1 z =>
          obtain rfl : c = 115 := hc
          iterate 4 refine ⟨_, rfl, rfl, _, rfl, iteFb (by decide +kernel) ?_⟩
          refine ⟨_, rfl, rfl, _, rfl, iteFb (by decide +kernel) ?_⟩
          refine ⟨_, rfl, rfl, _, rfl, iteFb (by decide +kernel) ?_⟩
          have dy2 := dy1
          obtain ⟨q, ws', rfl, hq, hw⟩ := (show Dt K H1 y (.tuple [.str z]) from dy1).tuple_inv
          have hwl := hw.length
          refine ⟨_, rfl, rfl, _, rfl, iteTb (by decide +kernel) ?_⟩
          refine ⟨_, rfl, _, _, rfl, .inr ⟨_, hq, rfl⟩, rfl, _, rfl, iteFb (by rw [hwl]; exact decide_eq_false fun h => absurd (V.int.inj h) (show ¬ ((1 : Nat) : Int) = 2 by decide)) ?_⟩
          exact ⟨_, rfl, rfl, _, rfl, iteFb (by decide +kernel) ⟨_, rfl, dy2, Same.refl _⟩⟩
        | s0 =>
          obtain rfl : c = 115 := hc
          iterate 4 refine ⟨_, rfl, rfl, _, rfl, iteFb (by decide +kernel) ?_⟩
          refine ⟨_, rfl, rfl, _, rfl, iteFb (by decide +kernel) ?_⟩
          refine ⟨_, rfl, rfl, _, rfl, iteFb (by decide +kernel) ?_⟩
          have dy2 := dy1
          obtain ⟨q, ws', rfl, hq, hw⟩ := (show Dt K H1 y (.tuple []) from dy1).tuple_inv
          have hwl := hw.length
          refine ⟨_, rfl, rfl, _, rfl, iteTb (by decide +kernel) ?_⟩
          refine ⟨_, rfl, _, _, rfl, .inr ⟨_, hq, rfl⟩, rfl, _, rfl, iteFb (by rw [hwl]; decide) ?_⟩
          exact ⟨_, rfl, rfl, _, rfl, iteFb (by decide +kernel) ⟨_, rfl, dy2, Same.refl _⟩⟩
        | t d =>
          obtain rfl : c = 116 := hc
          iterate 4 refine ⟨_, rfl, rfl, _, rfl, iteFb (by decide +kernel) ?_⟩
          refine ⟨_, rfl, rfl, _, rfl, iteFb (by decide +kernel) ?_⟩
          refine ⟨_, rfl, rfl, _, rfl, iteFb (by decide +kernel) ?_⟩
          refine ⟨_, rfl, rfl, _, rfl, iteFb (by decide +kernel) ?_⟩
          exact ⟨_, rfl, rfl, _, rfl, iteFb (by decide +kernel) ⟨_, rfl, dy1, Same.refl _⟩⟩
        | n d =>
          obtain rfl : c = 110 := hc
          iterate 4 refine ⟨_, rfl, rfl, _, rfl, iteFb (by decide +kernel) ?_⟩
          refine ⟨_, rfl, rfl, _, rfl, iteFb (by decide +kernel) ?_⟩
          refine ⟨_, rfl, rfl, _, rfl, iteFb (by decide +kernel) ?_⟩
          refine ⟨_, rfl, rfl, _, rfl, iteFb (by decide +kernel) ?_⟩
          exact ⟨_, rfl, rfl, _, rfl, iteFb (by decide +kernel) ⟨_, rfl, dy1, Same.refl _⟩⟩
        | x d =>
          obtain rfl : c = 120 := hc
          iterate 4 refine ⟨_, rfl, rfl, _, rfl, iteFb (by decide +kernel) ?_⟩
          refine ⟨_, rfl, rfl, _, rfl, iteFb (by decide +kernel) ?_⟩
          refine ⟨_, rfl, rfl, _, rfl, iteFb (by decide +kernel) ?_⟩
          refine ⟨_, rfl, rfl, _, rfl, iteFb (by decide +kernel) ?_⟩
          exact ⟨_, rfl, rfl, _, rfl, iteFb (by decide +kernel) ⟨_, rfl, dy1, Same.refl _⟩⟩
      clear dy1
      rintro _ H2 ⟨v', rfl, d2, S2⟩
      refine ⟨_, rfl, _, rfl, sz_1, fun u hu => ?_⟩
      have S3 := Same.new (o := .tup [v']) hu
      refine ⟨.str kd :: (fs.take i).map fun x => fldD (tf l x), [fldD (tf l x)], (dva.mono S2).mono S3, Dt.made hu (.cons d2 .nil), by rw [List.length_cons, List.length_map, List.length_take]; simp; omega, fun v4 H4 S4 d4 => ?_⟩
      refine ⟨v4, _, _, _, rfl, ?_, ((S1.trans S2).trans S3).trans S4⟩
      rw [List.take_succ, hx, List.map_append]
      exact d4
    · rintro σ H1 ⟨va, x5, x6, x7, rfl, dva, S1⟩
      refine ⟨_, rfl, k _ _ S1 ?_⟩
      rw [List.take_length] at dva
      rw [List.map_map]
      exact dva
--SPLIT
def spTurned (K : PySem.W.Frag) : Sp := fun vs H Q _ => ∃ (tl : Addr) (v : V) (pa : Addr) (tab : Tab) (l : List Int) (kd : Str) (fs : List Fl2), vs = [.ref tl, v, .ref pa] ∧ TabAt H tl tab ∧ (tab.map (·.1)).Nodup ∧ (kd, fs.map ltr2) ∈ tab ∧ fs.length ≤ 10 ∧ PlAt H pa l ∧ Dt K H v (.tuple (.str kd :: fs.map fl2D)) ∧ (∀ x ∈ fs, Fl2N x ∧ Fl2L l x) ∧
  ∀ r H', Same H H' → Dt K H' r (.tuple (.str kd :: (fs.map (tf2 l)).map fl2D)) → Q r H'
theorem ok_turned {f : Addr} {fd : FuncData} (F : Fun K "_law_turned" "_law_turned" s_law_turned f fd) (T : Txt K mg) (U_law_letters : Use P w K mg base CX0 "_law_letters" 1 P_law_letters (spLetters K)) (U_law_turned_value : Use P w K mg base CX0 "_law_turned_value" 1 P_law_turned_value (spTurnV K)) (U_law_frames : Use P w K mg base CX0 "_law_frames" 1 P_law_frames (spTab frTab)) (U_law_turned : Use P w K mg base CX0 "_law_turned" 2 P_law_turned (spTurned0 K)) : FnG P w K mg base CX0 3 f fd P_law_turned (spTurned K) := by
  refine okG0 F sc_law_turned (fun vs H Q E h => ?_) fun cdv A outer s H vs Q E hr hg h => ?_
  · obtain ⟨tl, v, pa, tab, l, kd, fs, rfl, _⟩ := h
    rfl
  · obtain ⟨tl, v, pa, tab, l, kd, fs, rfl, hT, hnd, hmem, hfl, PA, dv, hN, k⟩ := h
    refine ⟨_, (pss_cons (ps_set (i := 3) sc_law_turned.nd rfl (Or.inl rfl) (pe_use U_law_letters (hr.mono (by decide)) hg rfl (pa_cons (pv 0) (pa_cons (pe_ix ix_tup (pv 1) pe_int (fun _ _ => rfl)) pa_nil))))
  (pss_cons (ps_set (i := 4) sc_law_turned.nd rfl (Or.inl rfl) (pe_tup (pa_cons (pe_ix ix_tup (pv 1) pe_int (fun _ _ => rfl)) pa_nil)))
  (pss_cons (ps_for PassesOwn.never rfl (pi_range1 (by rfl) T.b_range (pa_cons (pe_callB call_len (by rfl) T.b_len PySem.boot_len (pa_cons (pv 3) pa_nil)) pa_nil)) (pg_name (i := 5) sc_law_turned.nd rfl (Or.inl rfl))
   (pss_cons (ps_set (i := 6) sc_law_turned.nd rfl (Or.inl rfl) (pe_ix ix_tup (pv 1) (pe_op op_add (pv 5) pe_int) (fun _ _ => rfl)))
  (pss_cons (ps_set (i := 7) sc_law_turned.nd rfl (Or.inl rfl) (pe_ix ix_str (pv 3) (pv 5) (fun _ _ => rfl)))
  (C8.pss_cut (ps_if (pt_cmpR op_eq (pv 7) pe_str (nomark _))
   (pss_one (ps_set (i := 6) sc_law_turned.nd rfl (Or.inl rfl) (pe_use U_law_turned_value (hr.mono (by decide)) hg rfl (pa_cons (pv 6) (pa_cons (pv 2) pa_nil)))))
   (pss_one (ps_if (pt_cmpR op_eq (pv 7) pe_str (nomark _))
   (pss_one (ps_set (i := 6) sc_law_turned.nd rfl (Or.inl rfl) (pe_callTy call_tuple_of (by rfl) T.b_tuple (by decide +kernel) (pa_cons (pe_lc (own := [("value", 8)]) (g := (gName 8)) rfl sc_law_turned.nd (pi_tup (pv 6)) (blkOk_by (N := N_law_turned) (sc := defScope s_law_turned) (by decide +kernel)) (fun _ _ _ _ _ => (pg_name (i := 8) sc_law_turned.nd rfl (Or.inl rfl))) (fun _ _ _ _ _ => pts_nil) (fun _ _ _ _ _ => (pe_use U_law_turned_value (hr.mono (by decide)) hg rfl (pa_cons (pv 8) (pa_cons (pv 2) pa_nil))))) pa_nil))))
   (pss_one (ps_if (pt_cmpR op_eq (pv 7) pe_str (nomark _))
   (pss_one (ps_set (i := 6) sc_law_turned.nd rfl (Or.inl rfl) (pe_callTy call_tuple_of (by rfl) T.b_tuple (by decide +kernel) (pa_cons (pe_lc (own := [("pair", 9)]) (g := (gName 9)) rfl sc_law_turned.nd (pi_tup (pv 6)) (blkOk_by (N := N_law_turned) (sc := defScope s_law_turned) (by decide +kernel)) (fun _ _ _ _ _ => (pg_name (i := 9) sc_law_turned.nd rfl (Or.inl rfl))) (fun _ _ _ _ _ => pts_nil) (fun _ _ _ _ _ => (pe_tup (pa_cons (pe_use U_law_turned_value (hr.mono (by decide)) hg rfl (pa_cons (pe_ix (ix_tup : IxR _ (rIxT K)) (pv 9) pe_int (fun _ _ => rfl)) (pa_cons (pv 2) pa_nil))) (pa_cons (pe_use U_law_turned_value (hr.mono (by decide)) hg rfl (pa_cons (pe_ix (ix_tup : IxR _ (rIxT K)) (pv 9) pe_int (fun _ _ => rfl)) (pa_cons (pv 2) pa_nil))) pa_nil))))) pa_nil))))
   (pss_one (ps_if (pt_cmpR op_eq (pv 7) pe_str (nomark _))
   (pss_one (ps_set (i := 6) sc_law_turned.nd rfl (Or.inl rfl) (pe_callTy call_tuple_of (by rfl) T.b_tuple (by decide +kernel) (pa_cons (pe_lc (own := [("pair", 9)]) (g := (gName 9)) rfl sc_law_turned.nd (pi_tup (pv 6)) (blkOk_by (N := N_law_turned) (sc := defScope s_law_turned) (by decide +kernel)) (fun _ _ _ _ _ => (pg_name (i := 9) sc_law_turned.nd rfl (Or.inl rfl))) (fun _ _ _ _ _ => pts_nil) (fun _ _ _ _ _ => (pe_tup (pa_cons (pe_ix (ix_tup : IxR _ (rIxT K)) (pv 9) pe_int (fun _ _ => rfl)) (pa_cons (pe_use U_law_turned_value (hr.mono (by decide)) hg rfl (pa_cons (pe_ix (ix_tup : IxR _ (rIxT K)) (pv 9) pe_int (fun _ _ => rfl)) (pa_cons (pv 2) pa_nil))) pa_nil))))) pa_nil))))
   (pss_one (ps_if (PW.pt (pw_or (pt_cmpR op_eq (pv 7) pe_str (nomark _)) (pw_or1 (PW.pt (pw_and (pt_cmpR op_eq (pv 7) pe_str (nomark _)) (pw_and1 (pt_cmpR op_ge (pv 6) pe_int (nomark _))))))))
   (pss_one (ps_set (i := 6) sc_law_turned.nd rfl (Or.inl rfl) (pe_ix ix_list (pv 2) (pv 6) (fun _ _ => rfl))))
   (pss_one (ps_if (PW.pt (pw_and (pt_cmpR op_eq (pv 7) pe_str (nomark _)) (pw_and1 (pt_cmpR op_eq (pe_callB call_len (by rfl) T.b_len PySem.boot_len (pa_cons (pv 6) pa_nil)) pe_int (nomark _)))))
   (pss_one (ps_set (i := 6) sc_law_turned.nd rfl (Or.inl rfl) (pe_tup (pa_cons (pe_ix ix_tup (pv 6) pe_int (fun _ _ => rfl)) (pa_cons (pe_use U_law_turned_value (hr.mono (by decide)) hg rfl (pa_cons (pe_ix ix_tup (pv 6) pe_int (fun _ _ => rfl)) (pa_cons (pv 2) pa_nil))) pa_nil)))))
   (pss_one (ps_if (pt_cmpR op_eq (pv 7) pe_str (nomark _))
   (pss_one (ps_set (i := 6) sc_law_turned.nd rfl (Or.inl rfl) (pe_callTy call_tuple_of (by rfl) T.b_tuple (by decide +kernel) (pa_cons (pe_lc (own := [("frame", 10)]) (g := (gName 10)) rfl sc_law_turned.nd (pi_tup (pv 6)) (blkOk_by (N := N_law_turned) (sc := defScope s_law_turned) (by decide +kernel)) (fun _ _ _ _ _ => (pg_name (i := 10) sc_law_turned.nd rfl (Or.inl rfl))) (fun _ _ _ _ _ => pts_nil) (fun _ _ _ _ _ => (pe_use U_law_turned (hr.mono (by decide)) hg rfl (pa_cons (pe_use0 U_law_frames (hr.mono (by decide)) hg rfl) (pa_cons (pv 10) (pa_cons (pv 2) pa_nil)))))) pa_nil))))
   pss_nil)))))))))))))
  (pss_one (ps_set (i := 4) sc_law_turned.nd rfl (Or.inl rfl) (pe_op op_catTD (pv 4) (pe_tup (pa_cons (pv 6) pa_nil)))))))))
  (pss_one (ps_ret (pv 4)))))), ?_⟩
    obtain ⟨q0, ws, rfl, hq0, ha⟩ := dv.head
    have hal := ha.length
    rw [List.length_map] at hal
    refine ⟨_, rfl, _, rfl, q0, _, _, _, rfl, rfl, hq0, at0, tl, tab, kd, fs.map ltr2, rfl, hT, hmem, hnd, ?_⟩
    refine ⟨_, rfl, q0, _, _, _, rfl, rfl, hq0, at0, sz_1, fun u0 hu0 => ?_⟩
    have S0 := Same.new (o := .tup [.str kd]) hu0
    refine ⟨_, rfl, _, (fs.map ltr2).length, rfl, ⟨by rw [S_len, List.length_map]; exact Nat.le_trans hfl (by decide), (S_len _).symm⟩, _, rfl, by omega, by rw [List.length_map]; omega, ?_⟩
    rw [List.length_map, Int.toNat_natCast]
    refine for_range (lo := 0) (n := fs.length) (fun i σ H' => ∃ (va : V) (x5 x6 x7 : Option V), σ = [some (.ref tl), some (.ref q0), some (.ref pa), some (.str (S (fs.map ltr2))), some va, x5, x6, x7, none, none, none] ∧ Dt K H' va (.tuple (.str kd :: (fs.take i).map fun x => fl2D (tf2 l x))) ∧ Same H H') ⟨.ref u0, none, none, none, rfl, Dt.made hu0 (.cons (.str _) .nil), S0⟩ ?_ ?_
    · rintro i σ H1 hi ⟨va, x5, x6, x7, rfl, dva, S1⟩
      rw [Int.zero_add]
      have hx : fs[i]? = some fs[i] := List.getElem?_eq_getElem hi
      obtain ⟨hNx, hLx⟩ := hN _ (List.getElem_mem hi)
      generalize fs[i] = x at hx hNx hLx
      obtain ⟨y, hy, dy⟩ := ha.get (i := i) (d := fl2D x) (by rw [List.getElem?_map, hx]; rfl)
      have hlc : (fs.map ltr2)[i]? = some (ltr2 x) := by rw [List.getElem?_map, hx]; rfl
      have dy1 := dy.mono S1
      refine ⟨_, rfl, _, rfl, _, _, rfl, rfl, q0, _, _, _, rfl, rfl, Same.tupl S1 hq0, at_of' (j := i + 1) (by omega) hy, ?_⟩
      refine ⟨_, rfl, _, rfl, _, _, _, rfl, rfl, by rw [S_len, List.length_map]; exact Nat.le_trans hfl (by decide), at_S hlc, ?_⟩
      have PA1 := PA.same S1
      refine ⟨fun σ H' => ∃ (v' : V), σ = [some (.ref tl), some (.ref q0), some (.ref pa), some (.str (S (fs.map ltr2))), some va, some (.int (i : Int)), some v', some (.str (S [ltr2 x])), none, none, none] ∧ Dt K H' v' (fl2D (tf2 l x)) ∧ Same H1 H', ?_, ?_⟩
      · clear hx hlc hy dy dva
        have hc : ∃ c, c = ltr2 x := ⟨_, rfl⟩
        obtain ⟨c, hc⟩ := hc
        rw [← hc]
        cases x with
        | fr fl =>
          obtain rfl : c = 70 := hc
          iterate 4 refine ⟨_, rfl, rfl, _, rfl, iteFb (by decide +kernel) ?_⟩
          refine ⟨_, rfl, rfl, _, rfl, iteFb (by decide +kernel) ?_⟩
          refine ⟨_, rfl, rfl, _, rfl, iteFb (by decide +kernel) ?_⟩
          refine ⟨_, rfl, rfl, _, rfl, iteFb (by decide +kernel) ?_⟩
          refine ⟨_, rfl, rfl, _, rfl, iteTb (by decide +kernel) ?_⟩
          obtain ⟨q, ws', rfl, hq, ha'⟩ := (show Dt K H1 y (.tuple (fl.map frD)) from dy1).tuple_inv
          have hal' := ha'.length
          rw [List.length_map] at hal'
          have hN2 := hNx.1
          refine ⟨_, rfl, q, rfl, ⟨_, hq⟩, fun D hD => ?_⟩
          refine lc_it (walk_tup (xs := ws')) (fun j H' => LAcc K H1 D ((fl.take j).map fun f => frD (tfr l f)) H') (LAcc.start hD) (fun j H' _ h => let ⟨_, _, _, S'⟩ := h; Same.tupl S' hq) ?_ ?_
          · rintro j y' H5 H6 hj Z ⟨rfl, hy'⟩
            obtain ⟨_, _, _, S5⟩ := id Z
            obtain ⟨d, hd, dy'⟩ := ha'.getV hy'
            rw [List.getElem?_map] at hd
            obtain ⟨g, hgm, rfl⟩ := Option.map_eq_some_iff.mp hd
            have hg1 := List.mem_of_getElem? hgm
            obtain ⟨hgt, hgN⟩ := hNx.2 g hg1
            have hgl := frTab_len10 hgt
            rw [List.length_map] at hgl
            refine ⟨rfl, tYes_of ⟨rfl, fun tl' H7 S7 T7 => ⟨_, rfl, _, rfl, tl', y', pa, frTab, l, g.kd, g.fs, rfl, T7, frTab_nd, hgt, hgl, PA1.same (S5.trans S7), dy'.mono (S5.trans S7), fun x hx => ⟨hgN x hx, fun z hz => hLx z (List.mem_flatMap.mpr ⟨g, hg1, List.mem_flatMap.mpr ⟨x, hx, hz⟩⟩)⟩, fun r H8 S8 dr => ?_⟩⟩⟩
            obtain ⟨acc, e7, hl7, Z7⟩ := Z.put hD (S7.trans S8) (d := frD (tfr l g)) dr (by rw [List.length_map, List.length_take]; omega)
            refine ⟨acc, e7, hl7, ?_⟩
            rw [List.take_succ, hgm, List.map_append]
            exact Z7
          · rintro H5 ⟨acc, e5, a5, S5⟩
            rw [hal', List.take_length] at a5
            refine ⟨D, _, rfl, .inl ⟨SqL.of e5, fun t ht => ⟨_, rfl, Dt.made ht ?_, S5.trans (Same.new ht)⟩⟩⟩
            show DtAll K H5 acc ((fl.map (tfr l)).map frD)
            rw [List.map_map]
            exact a5
        | one x =>
          cases x with
          | v x =>
            obtain rfl : c = 118 := hc
            refine ⟨_, rfl, rfl, _, rfl, iteTb (by decide +kernel) ?_⟩
            exact ⟨_, rfl, _, rfl, y, pa, l, x, rfl, PA1, dy1, fun j hj => hLx j (by simpa [fl2R, fldR, fldVs] using hj), fun r H' S' d' => ⟨r, rfl, d', S'⟩⟩
          | V xs =>
            obtain rfl : c = 86 := hc
            refine ⟨_, rfl, rfl, _, rfl, iteFb (by decide +kernel) ?_⟩
            refine ⟨_, rfl, rfl, _, rfl, iteTb (by decide +kernel) ?_⟩
            obtain ⟨q, ws', rfl, hq, ha'⟩ := (show Dt K H1 y (.tuple (xs.map valD)) from dy1).tuple_inv
            have hal' := ha'.length
            rw [List.length_map] at hal'
            have hN' : xs.length ≤ 10 := hNx
            refine ⟨_, rfl, q, rfl, ⟨_, hq⟩, fun D hD => ?_⟩
            refine lc_it (walk_tup (xs := ws')) (fun j H' => LAcc K H1 D ((xs.take j).map fun x => valD (tv l x)) H') (LAcc.start hD) (fun j H' _ h => let ⟨_, _, _, S'⟩ := h; Same.tupl S' hq) ?_ ?_
            · rintro j y' H5 H6 hj Z ⟨rfl, hy'⟩
              obtain ⟨_, _, _, S5⟩ := id Z
              obtain ⟨d, hd, dy'⟩ := ha'.getV hy'
              rw [List.getElem?_map] at hd
              obtain ⟨vx, hvx, rfl⟩ := Option.map_eq_some_iff.mp hd
              refine ⟨rfl, tYes_of ⟨_, rfl, _, rfl, y', pa, l, vx, rfl, PA1.same S5, dy'.mono S5, fun z hz => hLx z (List.mem_flatMap.mpr ⟨vx, List.mem_of_getElem? hvx, hz⟩), fun r H7 S7 dr => ?_⟩⟩
              obtain ⟨acc, e7, hl7, Z7⟩ := Z.put hD S7 dr (by rw [List.length_map, List.length_take]; omega)
              refine ⟨acc, e7, hl7, ?_⟩
              rw [List.take_succ, hvx, List.map_append]
              exact Z7
            · rintro H5 ⟨acc, e5, a5, S5⟩
              rw [hal', List.take_length] at a5
              refine ⟨D, _, rfl, .inl ⟨SqL.of e5, fun t ht => ⟨_, rfl, Dt.made ht ?_, S5.trans (Same.new ht)⟩⟩⟩
              show DtAll K H5 acc ((xs.map (tv l)).map valD)
              rw [List.map_map]
              exact a5
          | W ps =>
            obtain rfl : c = 87 := hc
            iterate 2 refine ⟨_, rfl, rfl, _, rfl, iteFb (by decide +kernel) ?_⟩
            refine ⟨_, rfl, rfl, _, rfl, iteTb (by decide +kernel) ?_⟩
            obtain ⟨q, ws', rfl, hq, ha'⟩ := (show Dt K H1 y (.tuple (ps.map fun p => .tuple [valD p.1, valD p.2])) from dy1).tuple_inv
            have hal' := ha'.length
            rw [List.length_map] at hal'
            have hN' : (ps.flatMap fun p => [p.1, p.2]).length ≤ 10 := hNx
            rw [fm_len] at hN'
            refine ⟨_, rfl, q, rfl, ⟨_, hq⟩, fun D hD => ?_⟩
            refine lc_it (walk_tup (xs := ws')) (fun j H' => LAcc K H1 D ((ps.take j).map fun p => PyData.tuple [valD (tv l p.1), valD (tv l p.2)]) H') (LAcc.start hD) (fun j H' _ h => let ⟨_, _, _, S'⟩ := h; Same.tupl S' hq) ?_ ?_
            · rintro j y' H5 H6 hj Z ⟨rfl, hy'⟩
              obtain ⟨_, _, _, S5⟩ := id Z
              obtain ⟨d, hd, dy'⟩ := ha'.getV hy'
              rw [List.getElem?_map] at hd
              obtain ⟨pr, hpr, rfl⟩ := Option.map_eq_some_iff.mp hd
              obtain ⟨q2, xs2, rfl, hq2, h2⟩ := (dy'.mono S5).tuple_inv
              obtain ⟨y1, w1, rfl, dk, h3⟩ := h2.cons_inv
              obtain ⟨y2, w2, rfl, dw, h4⟩ := h3.cons_inv
              cases h4.nil_inv
              have hin : ∀ z, z ∈ valR pr.1 ∨ z ∈ valR pr.2 → z ∈ l := fun z hz => hLx z (by
                show z ∈ (ps.flatMap fun p => [p.1, p.2]).flatMap valR
                rcases hz with hz | hz
                · exact List.mem_flatMap.mpr ⟨pr.1, List.mem_flatMap.mpr ⟨pr, List.mem_of_getElem? hpr, by simp⟩, hz⟩
                · exact List.mem_flatMap.mpr ⟨pr.2, List.mem_flatMap.mpr ⟨pr, List.mem_of_getElem? hpr, by simp⟩, hz⟩)
              refine ⟨rfl, tYes_of ?_⟩
              refine ⟨_, rfl, q2, _, _, _, rfl, rfl, hq2, at0, _, rfl, y1, pa, l, pr.1, rfl, PA1.same S5, dk, fun z hz => hin z (.inl hz), fun r1 H7 S7 d1 => ?_⟩
              refine ⟨_, rfl, q2, _, _, _, rfl, rfl, Same.tupl S7 hq2, at1, _, rfl, y2, pa, l, pr.2, rfl, PA1.same (S5.trans S7), dw.mono S7, fun z hz => hin z (.inr hz), fun r2 H8 S8 d2 => ⟨sz_2, fun u hu => ?_⟩⟩
              obtain ⟨acc, e7, hl7, Z7⟩ := Z.put hD ((S7.trans S8).trans (Same.new hu)) (Dt.made hu (.cons (d1.mono S8) (.cons d2 .nil))) (by rw [List.length_map, List.length_take]; omega)
              refine ⟨acc, e7, hl7, ?_⟩
              rw [List.take_succ, hpr, List.map_append]
              exact Z7
            · rintro H5 ⟨acc, e5, a5, S5⟩
              rw [hal', List.take_length] at a5
              refine ⟨D, _, rfl, .inl ⟨SqL.of e5, fun t ht => ⟨_, rfl, Dt.made ht ?_, S5.trans (Same.new ht)⟩⟩⟩
              show DtAll K H5 acc ((ps.map fun p => (tv l p.1, tv l p.2)).map fun p => PyData.tuple [valD p.1, valD p.2])
              rw [List.map_map]
              exact a5
          | X ps =>
            obtain rfl : c = 88 := hc
            iterate 3 refine ⟨_, rfl, rfl, _, rfl, iteFb (by decide +kernel) ?_⟩
            refine ⟨_, rfl, rfl, _, rfl, iteTb (by decide +kernel) ?_⟩
            obtain ⟨q, ws', rfl, hq, ha'⟩ := (show Dt K H1 y (.tuple (ps.map fun p => .tuple [.str (tx p.1), valD p.2])) from dy1).tuple_inv
            have hal' := ha'.length
            rw [List.length_map] at hal'
            have hN' : (ps.map (·.2)).length ≤ 10 := hNx
            rw [List.length_map] at hN'
            refine ⟨_, rfl, q, rfl, ⟨_, hq⟩, fun D hD => ?_⟩
            refine lc_it (walk_tup (xs := ws')) (fun j H' => LAcc K H1 D ((ps.take j).map fun p => PyData.tuple [.str (tx p.1), valD (tv l p.2)]) H') (LAcc.start hD) (fun j H' _ h => let ⟨_, _, _, S'⟩ := h; Same.tupl S' hq) ?_ ?_
            · rintro j y' H5 H6 hj Z ⟨rfl, hy'⟩
              obtain ⟨_, _, _, S5⟩ := id Z
              obtain ⟨d, hd, dy'⟩ := ha'.getV hy'
              rw [List.getElem?_map] at hd
              obtain ⟨pr, hpr, rfl⟩ := Option.map_eq_some_iff.mp hd
              obtain ⟨q2, xs2, rfl, hq2, h2⟩ := (dy'.mono S5).tuple_inv
              obtain ⟨y1, w1, rfl, dk, h3⟩ := h2.cons_inv
              obtain ⟨y2, w2, rfl, dw, h4⟩ := h3.cons_inv
              cases h4.nil_inv
              cases dk.str_inv
              refine ⟨rfl, tYes_of ?_⟩
              refine ⟨_, rfl, q2, _, _, _, rfl, rfl, hq2, at0, _, rfl, q2, _, _, _, rfl, rfl, hq2, at1, _, rfl, y2, pa, l, pr.2, rfl, PA1.same S5, dw, fun z hz => hLx z (List.mem_flatMap.mpr ⟨pr.2, List.mem_map.mpr ⟨pr, List.mem_of_getElem? hpr, rfl⟩, hz⟩), fun r2 H8 S8 d2 => ⟨sz_2, fun u hu => ?_⟩⟩
              obtain ⟨acc, e7, hl7, Z7⟩ := Z.put hD (S8.trans (Same.new hu)) (Dt.made hu (.cons (.str (tx pr.1)) (.cons d2 .nil))) (by rw [List.length_map, List.length_take]; omega)
              refine ⟨acc, e7, hl7, ?_⟩
              rw [List.take_succ, hpr, List.map_append]
              exact Z7
            · rintro H5 ⟨acc, e5, a5, S5⟩
              rw [hal', List.take_length] at a5
              refine ⟨D, _, rfl, .inl ⟨SqL.of e5, fun t ht => ⟨_, rfl, Dt.made ht ?_, S5.trans (Same.new ht)⟩⟩⟩
              show DtAll K H5 acc ((ps.map fun p => (p.1, tv l p.2)).map fun p => PyData.tuple [.str (tx p.1), valD p.2])
              rw [List.map_map]
              exact a5
          | a n =>
            obtain rfl : c = 97 := hc
            iterate 4 refine ⟨_, rfl, rfl, _, rfl, iteFb (by decide +kernel) ?_⟩
            cases (show Dt K H1 y (.int (n : Int)) from dy1).int_inv
            refine ⟨_, rfl, rfl, _, rfl, iteTb (by decide +kernel) ?_⟩
            obtain ⟨ps, ep, hp⟩ := PA1.get (hLx (n : Int) (by simp [fl2R, fldR])) (by omega)
            exact ⟨_, rfl, _, rfl, pa, _, _, _, rfl, rfl, SqL.of ep, hp, _, rfl, .int _, Same.refl _⟩
          | b n =>
            obtain rfl : c = 98 := hc
            iterate 4 refine ⟨_, rfl, rfl, _, rfl, iteFb (by decide +kernel) ?_⟩
            cases (show Dt K H1 y (.int n) from dy1).int_inv
            refine ⟨_, rfl, rfl, _, rfl, iteFb (by decide +kernel) ?_⟩
            refine ⟨_, rfl, rfl, _, rfl, iteTb (by decide +kernel) ?_⟩
            refine ⟨_, rfl, _, _, rfl, rfl, _, rfl, ?_⟩
            by_cases c : 0 ≤ n
            · refine iteTb (decide_eq_true c) ?_
              obtain ⟨ps, ep, hp⟩ := PA1.get (hLx n (by simp [fl2R, fldR, c])) c
              refine ⟨_, rfl, _, rfl, pa, _, _, _, rfl, rfl, SqL.of ep, hp, _, rfl, ?_, Same.refl _⟩
              show Dt K _ _ (.int (if 0 ≤ n then ((l.idxOf n : Nat) : Int) else n))
              rw [if_pos c]
              exact .int _
            · refine iteFb (decide_eq_false c) ?_
              refine ⟨_, rfl, rfl, _, rfl, iteFb (by decide +kernel) ?_⟩
              refine ⟨_, rfl, rfl, _, rfl, iteFb (by decide +kernel) ⟨_, rfl, ?_, Same.refl _⟩⟩
              show Dt K _ _ (.int (if 0 ≤ n then ((l.idxOf n : Nat) : Int) else n))
              rw [if_neg c]
              exact .int _
          | s2 z x =>
            obtain rfl : c = 115 := hc
            iterate 4 refine ⟨_, rfl, rfl, _, rfl, iteFb (by decide +kernel) ?_⟩
            refine ⟨_, rfl, rfl, _, rfl, iteFb (by decide +kernel) ?_⟩
            refine ⟨_, rfl, rfl, _, rfl, iteFb (by decide +kernel) ?_⟩
            obtain ⟨q, y1, rfl, hq, dx⟩ := (show Dt K H1 y (.tuple [.str z, valD x]) from dy1).pair
            refine ⟨_, rfl, rfl, _, rfl, iteTb (by decide +kernel) ?_⟩
            refine ⟨_, rfl, _, _, rfl, .inr ⟨_, hq, rfl⟩, rfl, _, rfl, iteTb (decide_eq_true rfl) ?_⟩
            refine ⟨_, rfl, q, _, _, _, rfl, rfl, hq, at0, _, rfl, q, _, _, _, rfl, rfl, hq, at1, _, rfl, y1, pa, l, x, rfl, PA1, dx, fun j hj => hLx j (by simpa [fl2R, fldR, fldVs] using hj), fun r H' S' d' => ⟨sz_2, fun u hu => ?_⟩⟩
            exact ⟨_, rfl, Dt.made hu (.cons (.str z) (.cons d' .nil)), S'.trans (Same.new hu)⟩
          | s1 z =>
            obtain rfl : c = 115 := hc
            iterate 4 refine ⟨_, rfl, rfl, _, rfl, iteFb (by decide +kernel) ?_⟩
            refine ⟨_, rfl, rfl, _, rfl, iteFb (by decide +kernel) ?_⟩
            refine ⟨_, rfl, rfl, _, rfl, iteFb (by decide +kernel) ?_⟩
            have dy2 := dy1
            obtain ⟨q, ws', rfl, hq, hw⟩ := (show Dt K H1 y (.tuple [.str z]) from dy1).tuple_inv
            have hwl := hw.length
            refine ⟨_, rfl, rfl, _, rfl, iteTb (by decide +kernel) ?_⟩
            refine ⟨_, rfl, _, _, rfl, .inr ⟨_, hq, rfl⟩, rfl, _, rfl, iteFb (by rw [hwl]; exact decide_eq_false fun h => absurd (V.int.inj h) (show ¬ ((1 : Nat) : Int) = 2 by decide)) ?_⟩
            exact ⟨_, rfl, rfl, _, rfl, iteFb (by decide +kernel) ⟨_, rfl, dy2, Same.refl _⟩⟩
          | s0 =>
            obtain rfl : c = 115 := hc
            iterate 4 refine ⟨_, rfl, rfl, _, rfl, iteFb (by decide +kernel) ?_⟩
            refine ⟨_, rfl, rfl, _, rfl, iteFb (by decide +kernel) ?_⟩
            refine ⟨_, rfl, rfl, _, rfl, iteFb (by decide +kernel) ?_⟩
            have dy2 := dy1
            obtain ⟨q, ws', rfl, hq, hw⟩ := (show Dt K H1 y (.tuple []) from dy1).tuple_inv
            have hwl := hw.length
            refine ⟨_, rfl, rfl, _, rfl, iteTb (by decide +kernel) ?_⟩
            refine ⟨_, rfl, _, _, rfl, .inr ⟨_, hq, rfl⟩, rfl, _, rfl, iteFb (by rw [hwl]; decide) ?_⟩
            exact ⟨_, rfl, rfl, _, rfl, iteFb (by decide +kernel) ⟨_, rfl, dy2, Same.refl _⟩⟩
          | t d =>
            obtain rfl : c = 116 := hc
            iterate 4 refine ⟨_, rfl, rfl, _, rfl, iteFb (by decide +kernel) ?_⟩
            refine ⟨_, rfl, rfl, _, rfl, iteFb (by decide +kernel) ?_⟩
            refine ⟨_, rfl, rfl, _, rfl, iteFb (by decide +kernel) ?_⟩
            refine ⟨_, rfl, rfl, _, rfl, iteFb (by decide +kernel) ?_⟩
            exact ⟨_, rfl, rfl, _, rfl, iteFb (by decide +kernel) ⟨_, rfl, dy1, Same.refl _⟩⟩
          | n d =>
            obtain rfl : c = 110 := hc
            iterate 4 refine ⟨_, rfl, rfl, _, rfl, iteFb (by decide +kernel) ?_⟩
            refine ⟨_, rfl, rfl, _, rfl, iteFb (by decide +kernel) ?_⟩
            refine ⟨_, rfl, rfl, _, rfl, iteFb (by decide +kernel) ?_⟩
            refine ⟨_, rfl, rfl, _, rfl, iteFb (by decide +kernel) ?_⟩
            exact ⟨_, rfl, rfl, _, rfl, iteFb (by decide +kernel) ⟨_, rfl, dy1, Same.refl _⟩⟩
          | x d =>
            obtain rfl : c = 120 := hc
            iterate 4 refine ⟨_, rfl, rfl, _, rfl, iteFb (by decide +kernel) ?_⟩
            refine ⟨_, rfl, rfl, _, rfl, iteFb (by decide +kernel) ?_⟩
            refine ⟨_, rfl, rfl, _, rfl, iteFb (by decide +kernel) ?_⟩
            refine ⟨_, rfl, rfl, _, rfl, iteFb (by decide +kernel) ?_⟩
            exact ⟨_, rfl, rfl, _, rfl, iteFb (by decide +kernel) ⟨_, rfl, dy1, Same.refl _⟩⟩
      clear dy1
      rintro _ H2 ⟨v', rfl, d2, S2⟩
      refine ⟨_, rfl, _, rfl, sz_1, fun u hu => ?_⟩
      have S3 := Same.new (o := .tup [v']) hu
      refine ⟨.str kd :: (fs.take i).map fun x => fl2D (tf2 l x), [fl2D (tf2 l x)], (dva.mono S2).mono S3, Dt.made hu (.cons d2 .nil), by rw [List.length_cons, List.length_map, List.length_take]; simp; omega, fun v4 H4 S4 d4 => ?_⟩
      refine ⟨v4, _, _, _, rfl, ?_, ((S1.trans S2).trans S3).trans S4⟩
      rw [List.take_succ, hx, List.map_append]
      exact d4
    · rintro σ H1 ⟨va, x5, x6, x7, rfl, dva, S1⟩
      refine ⟨_, rfl, k _ _ S1 ?_⟩
      rw [List.take_length] at dva
      rw [List.map_map]
      exact dva
--SPLIT
end

section
--SPLIT
end
abbrev s_law_renumbered : Stmt := top 77
abbrev N_law_renumbered : List Str := ["parts", "order", "places", "p", "control", "frames", "frame", "heap", "k"]
abbrev P_law_renumbered : List Str := ["parts", "order"]
theorem sc_law_renumbered : FnScope N_law_renumbered P_law_renumbered (defScope s_law_renumbered) := ⟨rfl, rfl, rfl, by decide +kernel, rfl, by decide +kernel, by decide +kernel⟩
section
variable {P : Program} {w : World} {K : PySem.W.Frag} {mg : Str → Option Value} {base : Heap}
theorem ixN_nat {n k : Nat} (h : k < n) : ixN n ((k : Nat) : Int) = some k := by
  unfold ixN
  rw [if_pos (by omega), if_pos (by omega), Int.toNat_natCast]
def spLRenumbered (K : PySem.W.Frag) : Sp := fun vs H Q _ => ∃ (lp fl hl oa : Addr) (M : Pt) (m t : Nat), vs = [.ref lp, .ref oa] ∧ PtAt K H lp fl hl M ∧ Full M m t ∧ m ≤ 500 ∧ H oa = some (.lst ((M.st t).map V.int)) ∧
  ∀ lq fl' hl' H', PtAt K H' lq fl' hl' (renP M (M.st t)) → Same H H' → Q (.ref lq) H'
theorem ok_lrenumbered {f : Addr} {fd : FuncData} (F : Fun K "_law_renumbered" "_law_renumbered" s_law_renumbered f fd) (T : Txt K mg) (U_law_controls : Use P w K mg base CX0 "_law_controls" 1 P_law_controls (spTab coTab)) (U_law_frames : Use P w K mg base CX0 "_law_frames" 1 P_law_frames (spTab frTab)) (U_law_objects : Use P w K mg base CX0 "_law_objects" 1 P_law_objects (spTab obTab)) (U_law_turned : Use P w K mg base CX0 "_law_turned" 3 P_law_turned (spTurned K)) :
    FnG P w K mg base CX0 4 f fd P_law_renumbered (spLRenumbered K) := by
  refine okG0 F sc_law_renumbered (fun vs H Q E h => ?_) fun cdv A outer s H vs Q E hr hg h => ?_
  · obtain ⟨lp, fl, hl, oa, M, m, t, rfl, _⟩ := h
    rfl
  · obtain ⟨lp, fl, hl, oa, M, m, t, rfl, PA, full, hm2, eo, k⟩ := h
    refine ⟨_, (pss_cons (ps_set (i := 2) sc_law_renumbered.nd rfl (Or.inr rfl) (pe_op op_rep (pe_lst (pa_cons pe_int pa_nil)) (pe_callB call_len (by rfl) T.b_len PySem.boot_len (pa_cons (pe_ix ix_list (pv 0) pe_int (fun _ _ => rfl)) pa_nil))))
  (pss_cons (ps_for PassesOwn.never rfl (pi_range1 (by rfl) T.b_range (pa_cons (pe_callB call_len (by rfl) T.b_len PySem.boot_len (pa_cons (pv 1) pa_nil)) pa_nil)) (pg_name (i := 3) sc_law_renumbered.nd rfl (Or.inl rfl))
   (pss_one (ps_asg (pv 3) (pg_sub (pv 2) (pe_ix ix_list (pv 1) (pv 3) (fun _ _ => rfl)) set_list))))
  (pss_cons (ps_set (i := 4) sc_law_renumbered.nd rfl (Or.inl rfl) (pe_use U_law_turned (hr.mono (by decide)) hg rfl (pa_cons (pe_use0 U_law_controls (hr.mono (by decide)) hg rfl) (pa_cons (pe_ix ix_list (pv 0) pe_int (fun _ _ => rfl)) (pa_cons (pv 2) pa_nil)))))
  (pss_cons (ps_setLc (i := 5) (own := [("frame", 6)]) (g := (gName 6)) rfl sc_law_renumbered.nd rfl rfl (sw_true rfl rfl rfl (by decide +kernel)) (pi_list (pe_ix ix_list (pv 0) pe_int (fun _ _ => rfl))) (blkOk_by (N := N_law_renumbered) (sc := defScope s_law_renumbered) (by decide +kernel)) (fun _ _ _ _ _ => (pg_name (i := 6) sc_law_renumbered.nd rfl (Or.inl rfl))) (fun _ _ _ _ _ => pts_nil) (fun _ _ _ _ _ => (pe_use U_law_turned (hr.mono (by decide)) hg rfl (pa_cons (pe_use0 U_law_frames (hr.mono (by decide)) hg rfl) (pa_cons (pv 6) (pa_cons (pv 2) pa_nil))))))
  (pss_cons (ps_setLc (i := 7) (own := [("k", 8)]) (g := (gName 8)) rfl sc_law_renumbered.nd rfl rfl (sw_true rfl rfl rfl (by decide +kernel)) (pi_list (pv 1)) (blkOk_by (N := N_law_renumbered) (sc := defScope s_law_renumbered) (by decide +kernel)) (fun _ _ _ _ _ => (pg_name (i := 8) sc_law_renumbered.nd rfl (Or.inl rfl))) (fun _ _ _ _ _ => pts_nil) (fun _ _ _ _ _ => (pe_use U_law_turned (hr.mono (by decide)) hg rfl (pa_cons (pe_use0 U_law_objects (hr.mono (by decide)) hg rfl) (pa_cons (pe_ix (ix_list : IxR _ (rIxL K)) (pe_ix (ix_list : IxR _ (rIxL K)) (pv 0) pe_int (fun _ _ => rfl)) (pv 8) (fun _ _ => rfl)) (pa_cons (pv 2) pa_nil))))))
  (pss_one (ps_ret (pe_op op_cat (pe_lst (pa_cons (pv 4) (pa_cons (pv 5) (pa_cons (pv 7) pa_nil)))) (pe_slice sl_list (pv 0) (po_some pe_int) po_none))))))))), ?_⟩
    obtain ⟨vc, el, dvc⟩ := PA.ex
    obtain ⟨ys, ey, ay⟩ := id PA.f
    obtain ⟨xs, ex, ax⟩ := id PA.h
    have sm := full.sm
    have hlm := sm.stlen full.hm t
    have hnd : (M.st t).Nodup := St_nodup t
    have hfr := full.e.closed.1
    have hxl : xs.length = m := by rw [ax.length, List.length_map, sm.ol]
    have hyl : ys.length = M.frs.length := by rw [ay.length, List.length_map]
    refine ⟨sz_1, fun z0 hz0 => ?_⟩
    have S0 := Same.new (o := .lst [.int 0]) hz0
    refine ⟨_, rfl, lp, _, _, _, rfl, rfl, SqL.of (S0 _ _ el), at2, _, _, rfl, .inl ⟨_, SqL.of (S0 _ _ ex), rfl⟩, ?_⟩
    have eo0 := S0 _ _ eo
    refine ⟨z0, _, _, rfl, rfl, upd_same, by omega, by omega, ?_, fun pa hpa => ?_⟩
    · rw [hxl, Int.toNat_natCast]
      exact Nat.le_trans (show 1 * m ≤ 1000 by omega) (by decide)
    have S1 := S0.trans (Same.new (o := .lst (List.replicate ((xs.length : Nat) : Int).toNat [V.int 0]).flatten) hpa)
    have ep := upd_same (H := upd H z0 (.lst [.int 0])) (a := pa) (o := HO.lst (List.replicate ((xs.length : Nat) : Int).toNat [V.int 0]).flatten)
    rw [hxl, Int.toNat_natCast] at S1 ep ⊢
    have erep : (List.replicate m [V.int 0]).flatten = (List.replicate m (0 : Int)).map V.int := by
      have : ∀ n : Nat, (List.replicate n [V.int 0]).flatten = (List.replicate n (0 : Int)).map V.int := fun n => by
        induction n with
        | zero => rfl
        | succ n ih => rw [List.replicate_succ, List.flatten_cons, ih, List.replicate_succ]; rfl
      exact this m
    generalize upd (upd H z0 (.lst [.int 0])) pa (.lst (List.replicate m [V.int 0]).flatten) = H1 at S1 ep
    rw [erep] at ep
    have hpan : H pa = none := same_none S0 hpa
    clear S0 eo0 hpa hz0
    -- places
    refine ⟨_, rfl, _, _, rfl, .inl ⟨_, SqL.of (S1 _ _ eo), rfl⟩, _, rfl, by omega, by rw [List.length_map]; omega, ?_⟩
    rw [List.length_map, Int.toNat_natCast]
    refine for_range (lo := 0) (n := (M.st t).length) (fun i σ H' => ∃ (x3 : Option V) (ps : List Int), σ = [some (.ref lp), some (.ref oa), some (.ref pa), x3, none, none, none, none, none] ∧ H' pa = some (.lst (ps.map V.int)) ∧ ps.length = m ∧ (∀ (j : Nat) (z : Int), j < i → (M.st t)[j]? = some z → ps[z.toNat]? = some (j : Int)) ∧ Same H H') ⟨none, _, rfl, ep, List.length_replicate, fun j z hj => by omega, S1⟩ ?_ ?_
    · rintro i σ H2 hi ⟨x3, ps, rfl, e2, hpl, hps, S2⟩
      rw [Int.zero_add]
      have hz : (M.st t)[i]? = some (M.st t)[i] := List.getElem?_eq_getElem hi
      generalize (M.st t)[i] = z at hz
      obtain ⟨j, rfl, ho, _⟩ := full.at (List.mem_of_getElem? hz)
      have hjm : j < m := by have := (List.getElem?_eq_some_iff.mp ho).1; rw [sm.ol] at this; exact this
      refine ⟨_, rfl, _, rfl, _, rfl, _, rfl, oa, _, _, _, rfl, rfl, SqL.of (S2 _ _ eo), atI_nat (by rw [List.getElem?_map, hz]; rfl), pa, _, _, j, rfl, rfl, e2, ixN_nat (by rw [List.length_map, hpl]; exact hjm), ?_⟩
      refine ⟨_, ps.set j (i : Int), rfl, ?_, by rw [List.length_set]; exact hpl, fun j' z' hj' hz' => ?_, fun b o hb => by rw [upd_ne (ne_of_none hb hpan)]; exact S2 _ _ hb⟩
      · rw [upd_same, List.map_set]
      · by_cases c : j' = i
        · subst c
          rw [hz] at hz'
          obtain rfl := Option.some.inj hz'
          rw [Int.toNat_natCast, List.getElem?_set_self (by omega)]
        · have h1 := hps j' z' (by omega) hz'
          obtain ⟨q, rfl, _⟩ := full.at (List.mem_of_getElem? hz')
          have hne : j ≠ q := fun e => by
            subst e
            exact c ((idx_of hnd hz').symm.trans (idx_of hnd hz))
          rw [Int.toNat_natCast] at h1 ⊢
          rw [List.getElem?_set_ne hne]
          exact h1
    rintro σ H2 ⟨x3, ps, rfl, e2, hpl, hps, S2⟩
    have PL : PlAt H2 pa (M.st t) := by
      refine ⟨ps, e2, fun k' hk' => ?_⟩
      obtain ⟨q, rfl, _⟩ := full.at hk'
      first | exact ⟨by omega, hps _ _ (List.idxOf_lt_length_of_mem hk') (idx_at hk')⟩ | exact fun _ => hps _ _ (List.idxOf_lt_length_of_mem hk') (idx_at hk')
    clear hps e2
    have onesT : ∀ gs : List Fld, ((gs.map Fl2.one).map (tf2 (M.st t))).map fl2D = (gs.map (tf (M.st t))).map fldD := fun gs => by rw [List.map_map, List.map_map, List.map_map]; rfl
    -- control
    refine ⟨rfl, fun tl H3 S3 T3 => ?_⟩
    have S23 := S2.trans S3
    have hcl := coTab_len sm.c.1
    rw [List.length_map] at hcl
    refine ⟨_, rfl, lp, _, _, _, rfl, rfl, SqL.of (S23 _ _ el), at0, _, rfl, tl, vc, pa, coTab, M.st t, M.c.kd, M.c.fs.map .one, rfl, T3, coTab_nd, by rw [ones_l]; exact sm.c.1, by rw [List.length_map]; exact hcl, PL.same S3, by rw [ones_D]; exact dvc.mono S23, fun x hx => ?_, fun rc H6 S6 drc => ?_⟩
    · obtain ⟨y, hy, rfl⟩ := List.mem_map.mp hx
      exact ⟨(sm.c.2 y hy).n, fun z hz => hfr z (List.mem_append_left _ (List.mem_flatMap.mpr ⟨y, hy, hz⟩))⟩
    rw [onesT] at drc
    have S56 := S23.trans S6
    have PL6 := (PL.same S3).same S6
    -- frames
    refine ⟨_, rfl, lp, _, _, _, rfl, rfl, SqL.of (S56 _ _ el), at1, fl, rfl, ⟨_, SqL.of (S56 _ _ ey)⟩, fun D hD => ?_⟩
    refine lc_it (walk_list (xs := ys)) (fun j H' => LAcc K H6 D ((M.frs.take j).map fun f => frD (tfr (M.st t) f)) H') (LAcc.start hD) (fun j H' _ h => let ⟨_, _, _, S'⟩ := h; SqL.of (S' _ _ (S56 _ _ ey))) ?_ ?_
    · rintro j y H7 H8 hj Z ⟨rfl, hy⟩
      obtain ⟨_, _, _, S7⟩ := id Z
      obtain ⟨d, hd, dy⟩ := ay.getV hy
      rw [List.getElem?_map] at hd
      obtain ⟨g, hgm, rfl⟩ := Option.map_eq_some_iff.mp hd
      have hg1 := List.mem_of_getElem? hgm
      have hgs := sm.f g hg1
      have hgl := frTab_len10 hgs.1
      rw [List.length_map] at hgl
      refine ⟨rfl, tYes_of ⟨rfl, fun tl' H8 S8 T8 => ⟨_, rfl, _, rfl, tl', y, pa, frTab, M.st t, g.kd, g.fs.map .one, rfl, T8, frTab_nd, by rw [ones_l]; exact hgs.1, by rw [List.length_map]; exact hgl, PL6.same (S7.trans S8), by rw [ones_D]; exact dy.mono ((S56.trans S7).trans S8), fun x hx => ?_, fun r H9 S9 dr => ?_⟩⟩⟩
      · obtain ⟨y, hy, rfl⟩ := List.mem_map.mp hx
        exact ⟨(hgs.2 y hy).n, fun z hz => hfr z (List.mem_append_right _ (List.mem_flatMap.mpr ⟨g, hg1, List.mem_flatMap.mpr ⟨y, hy, hz⟩⟩))⟩
      · rw [onesT] at dr
        obtain ⟨acc, e7, hl7, Z7⟩ := Z.put hD (S8.trans S9) (d := frD (tfr (M.st t) g)) dr (by rw [List.length_map, List.length_take]; have := sm.fl; omega)
        refine ⟨acc, e7, hl7, ?_⟩
        rw [List.take_succ, hgm, List.map_append]
        exact Z7
    rintro H7 ⟨fa, ef, af, S7⟩
    rw [hyl, List.take_length] at af
    have S57 := S56.trans S7
    have e7 := S57 _ _ eo
    -- heap
    refine ⟨_, rfl, oa, rfl, ⟨_, SqL.of e7⟩, fun D3 hD3 => ?_⟩
    refine lc_it (walk_list (xs := (M.st t).map V.int)) (fun j H' => LAcc K H7 D3 (((M.st t).take j).map fun k => obD (tob (M.st t) (M.ob k))) H') (LAcc.start hD3) (fun j H' _ h => let ⟨_, _, _, S'⟩ := h; SqL.of (S' _ _ e7)) ?_ ?_
    · rintro j y H8 H9 hj Z ⟨rfl, hy⟩
      obtain ⟨_, _, _, S8⟩ := id Z
      rw [List.getElem?_map] at hy
      obtain ⟨z, hz, rfl⟩ := Option.map_eq_some_iff.mp hy
      obtain ⟨i, rfl, ho, hos, hR, hsub⟩ := full.at (List.mem_of_getElem? hz)
      obtain ⟨v, hv, dv⟩ := ax.get (i := i) (d := obD (M.ob (i : Int))) (by rw [List.getElem?_map, ho]; rfl)
      have hol := obTab_len10 hos.1
      rw [List.length_map] at hol
      refine ⟨rfl, tYes_of ⟨rfl, fun tl' H9 S9 T9 => ?_⟩⟩
      have S59 := (S57.trans S8).trans S9
      refine ⟨_, rfl, lp, _, _, _, rfl, rfl, SqL.of (S59 _ _ el), at2, _, rfl, hl, _, _, _, rfl, rfl, SqL.of (S59 _ _ ex), atI_nat hv, _, rfl, tl', v, pa, obTab, M.st t, (M.ob (i : Int)).kd, (M.ob (i : Int)).fs, rfl, T9, obTab_nd, hos.1, hol, PL6.same ((S7.trans S8).trans S9), dv.mono S59, fun x hx => ⟨(hos.2 x hx).n, fun z hz => hsub z (List.mem_flatMap.mpr ⟨x, hx, hz⟩)⟩, fun r H10 S10 dr => ?_⟩
      obtain ⟨acc, e9, hl9, Z9⟩ := Z.put hD3 (S9.trans S10) (d := obD (tob (M.st t) (M.ob (i : Int)))) dr (by rw [List.length_map, List.length_take]; omega)
      refine ⟨acc, e9, hl9, ?_⟩
      rw [List.take_succ, hz, List.map_append]
      exact Z9
    rintro H9 ⟨ha, eh, ah, S9⟩
    rw [List.length_map, List.take_length] at ah
    have S59 := S57.trans S9
    -- the list
    refine ⟨_, rfl, _, rfl, _, rfl, sz_3, fun q hq => ?_⟩
    have S10 := Same.new (o := .lst [rc, .ref D, .ref D3]) hq
    refine ⟨_, rfl, _, rfl, lp, _, rfl, SqL.of ((S59.trans S10) _ _ el), fun q2 hq2 => ?_⟩
    have S11 := Same.new (o := .lst (cutV [vc, .ref fl, .ref hl, .str M.out, .int M.act, .str M.here, .int M.line, .int M.steps] (some 3) none)) hq2
    refine ⟨q, q2, _, _, rfl, rfl, S11 _ _ upd_same, upd_same, by show 8 ≤ sizeLine; decide, fun lq hlq => ?_⟩
    have S12 := Same.new (o := .lst ([rc, .ref D, .ref D3] ++ cutV [vc, .ref fl, .ref hl, .str M.out, .int M.act, .str M.here, .int M.line, .int M.steps] (some 3) none)) hlq
    have S912 := (S10.trans S11).trans S12
    refine k lq D D3 _ ⟨⟨rc, upd_same, drc.mono ((S7.trans S9).trans S912)⟩, ⟨fa, S912 _ _ (S9 _ _ ef), ?_⟩, ⟨ha, S912 _ _ eh, ?_⟩⟩ (S59.trans S912)
    · show DtAll K _ fa ((M.frs.map (tfr (M.st t))).map frD)
      rw [List.map_map]
      exact af.mono (S9.trans S912)
    · show DtAll K _ ha (((M.st t).map fun k => tob (M.st t) (M.ob k)).map obD)
      rw [List.map_map]
      exact ah.mono S912
--SPLIT
theorem PtAt.upd {H : Hp} {lp fl hl q : Addr} {M : Pt} {o : HO} {xs : List V} (A : PtAt K H lp fl hl M) (e : H q = some (.lst xs)) (h1 : lp ≠ q) (h2 : fl ≠ q) (h3 : hl ≠ q) : PtAt K (L2.upd H q o) lp fl hl M :=
  ⟨let ⟨v, el, d⟩ := A.ex; ⟨v, by rw [upd_ne h1]; exact el, d.keepT (KeepT.upd e)⟩, listAt_upd A.f h2 e, listAt_upd A.h h3 e⟩
theorem MacAt.upd {C : Addr} {H : Hp} {ma fl hl q : Addr} {M : Pt} {o : HO} {xs : List V} (A : MacAt K C H ma fl hl M) (e : H q = some (.lst xs)) (h2 : fl ≠ q) (h3 : hl ≠ q) : MacAt K C (L2.upd H q o) ma fl hl M :=
  ⟨let ⟨v, ⟨dx, em⟩, d⟩ := A.ex; ⟨v, ⟨dx, by rw [upd_ne (fun h => by rw [h, e] at em; cases em)]; exact em⟩, d.keepT (KeepT.upd e)⟩, listAt_upd A.f h2 e, listAt_upd A.h h3 e⟩
end

section
--SPLIT
end
section
variable {P : Program} {w : World} {K : PySem.W.Frag} {mg : Str → Option Value} {base : Heap}
def spLCount (K : PySem.W.Frag) : Sp := fun vs H Q _ => ∃ n : Nat, vs = [.int (n : Int)] ∧ n < 128 ^ 40 ∧ ∀ l H', H l = none → Same H H' → H' l = some (.lst (nV (cnt n))) → Q (.ref l) H'
theorem zig40 {i : Int} (h : i.natAbs < 2 ^ 256) : zig i < 128 ^ 40 := Nat.lt_of_le_of_lt (zig_lt (k := 256) (Nat.le_of_lt h)) (by decide +kernel)
def spLInt (K : PySem.W.Frag) : Sp := fun vs H Q _ => ∃ i : Int, vs = [.int i] ∧ i.natAbs < 2 ^ 256 ∧ ∀ l H', H l = none → Same H H' → H' l = some (.lst (nV (cnt (zig i)))) → Q (.ref l) H'
end

section
variable {P : Program} {w : World} {K : PySem.W.Frag} {mg : Str → Option Value} {base : Heap}
/-- a tree at most n deep, as the law tells its numbers -/
inductive TrL : Nat → PyData → List Nat → Prop
  | str {n : Nat} (js : List Nat) : js.length ≤ 200 → (∀ j ∈ js, j < 95) → TrL n (.str (tx js)) (1 :: strN js)
  | int {n : Nat} (i : Int) : i.natAbs < 2 ^ 256 → TrL n (.int i) (2 :: cnt (zig i))
  | bool {n : Nat} (b : Bool) : TrL n (.bool b) [3 + if b = true then 1 else 0]
  | tup {n : Nat} (ds : List PyData) (ls : List (List Nat)) : ds.length ≤ 1000 → ls.length = ds.length → (∀ (i : Nat) (d : PyData) (l : List Nat), ds[i]? = some d → ls[i]? = some l → TrL n d l) → TrL (n + 1) (.tuple ds) (0 :: (cnt ds.length ++ ls.flatten))
def spLTree (K : PySem.W.Frag) : Nat → Sp
  | 0 => fun _ _ _ _ => False
  | n + 1 => fun vs H Q _ => ∃ (v : V) (d : PyData) (ns : List Nat), vs = [v] ∧ Dt K H v d ∧ TrL n d ns ∧ ns.length ≤ 100000 ∧ ∀ l H', H l = none → Same H H' → H' l = some (.lst (nV ns)) → Q (.ref l) H'
end

section
variable {P : Program} {w : World} {K : PySem.W.Frag} {mg : Str → Option Value} {base : Heap}
def natL (ns : List Nat) : List PyData := ns.map fun (d : Nat) => PyData.int (d : Int)
theorem eqvAll_nat : ∀ a b : List Nat, PyData.eqvAll (natL a) (natL b) = decide (a = b)
  | [], [] => by simp [natL, PyData.eqvAll]
  | [], _ :: _ => by simp [natL, PyData.eqvAll]
  | _ :: _, [] => by simp [natL, PyData.eqvAll]
  | x :: a, y :: b => by
    have ih := eqvAll_nat a b
    unfold natL at ih ⊢
    simp only [List.map_cons, PyData.eqvAll, PyData.eqv, ih]
    by_cases h : x = y
    · subst h; simp
    · simp [h]; intro h2; omega
theorem dp_nV {H : Hp} (ns : List Nat) : DpAll K H (nV ns) (natL ns) := by
  induction ns with
  | nil => exact .nil
  | cons d r ih => exact .cons (.int _) ih
theorem sh_natL (ns : List Nat) : SeqAt.shaped (.list (natL ns)) = true := by
  have h1 : PyData.canLayAll0 (natL ns) = true := canLayAll0_of fun d hd => by obtain ⟨z, _, rfl⟩ := List.mem_map.mp hd; rfl
  have h2 : PyData.depthAll (natL ns) ≤ 0 := depthAll_of fun d hd => by obtain ⟨z, _, rfl⟩ := List.mem_map.mp hd; exact Nat.zero_le _
  unfold SeqAt.shaped
  simp only [PyData.canLay0, PyData.depth, h1, Nat.le_zero.mp h2]
  rfl
theorem cut_nV (ns : List Nat) (n : Nat) : cutV (nV ns) none (some (n : Int)) = nV (ns.take n) := by
  unfold cutV
  rw [HT.sIx_nat, HT.sIx_none, List.drop_zero, Nat.sub_zero, nV_len]
  unfold nV
  rw [List.map_take]
  by_cases h : n ≤ ns.length
  · rw [Nat.min_eq_left h]
  · rw [Nat.min_eq_right (by omega), List.take_of_length_le (by simp), List.take_of_length_le (by simp; omega)]
theorem nV_int (ns : List Nat) : nV ns = (ns.map fun (d : Nat) => (d : Int)).map V.int := by unfold nV; rw [List.map_map]; rfl
end

section
theorem tx_inj {a b : List Nat} (ha : ∀ j ∈ a, j < 95) (hb : ∀ j ∈ b, j < 95) (e : tx a = tx b) : a = b := by
  have e2 : (a.map ch).toArray = (b.map ch).toArray := congrArg Str.cps e
  have e3 : a.map ch = b.map ch := by simpa using e2
  clear e e2
  induction a generalizing b with
  | nil => cases b with
    | nil => rfl
    | cons j b => simp at e3
  | cons i a ih => cases b with
    | nil => simp at e3
    | cons j b =>
      rw [List.map_cons, List.map_cons] at e3
      obtain ⟨e1, e2⟩ := List.cons.inj e3
      rw [ch_inj (ha i (by simp)) (hb j (by simp)) e1, ih (fun z h => ha z (List.mem_cons_of_mem _ h)) (fun z h => hb z (List.mem_cons_of_mem _ h)) e2]
mutual
/-- the numbers of a tree that can be read -/
inductive TrR : PyData → List Nat → Prop
  | str (js : List Nat) : js.length ≤ 200 → (∀ j ∈ js, j < 95) → TrR (.str (tx js)) (1 :: strN js)
  | int (i : Int) : i.natAbs < 2 ^ 256 → TrR (.int i) (2 :: cnt (zig i))
  | bool (b : Bool) : TrR (.bool b) [3 + if b = true then 1 else 0]
  | tup (ds : List PyData) (ns : List Nat) : ds.length ≤ 1000 → TrRs ds ns → TrR (.tuple ds) (0 :: (cnt ds.length ++ ns))
inductive TrRs : List PyData → List Nat → Prop
  | nil : TrRs [] []
  | cons {d : PyData} {ds : List PyData} {a b : List Nat} : TrR d a → TrRs ds b → TrRs (d :: ds) (a ++ b)
end
mutual
theorem TrR.det : ∀ {d : PyData} {a b : List Nat}, TrR d a → TrR d b → a = b
  | _, _, _, .str js h1 h2, h => by
    generalize e : PyData.str (tx js) = d at h
    cases h with
    | str js' g1 g2 =>
      have := tx_inj h2 g2 (PyData.str.inj e)
      subst this
      rfl
    | int i g => cases e
    | bool b => cases e
    | tup ds ns g1 g2 => cases e
  | _, _, _, .int i h1, .int _ h => rfl
  | _, _, _, .bool b, .bool _ => rfl
  | _, _, _, .tup ds ns h1 h2, .tup _ ms g1 g2 => by rw [TrRs.det h2 g2]
theorem TrRs.det : ∀ {ds : List PyData} {a b : List Nat}, TrRs ds a → TrRs ds b → a = b
  | _, _, _, .nil, .nil => rfl
  | _, _, _, .cons h t, .cons g u => by rw [TrR.det h g, TrRs.det t u]
end
theorem trrs_of : ∀ {ds : List PyData} {ls : List (List Nat)}, ls.length = ds.length → (∀ (i : Nat) (d : PyData) (l : List Nat), ds[i]? = some d → ls[i]? = some l → TrR d l) → TrRs ds ls.flatten
  | [], [], _, _ => .nil
  | [], _ :: _, h, _ => by simp at h
  | _ :: _, [], h, _ => by simp at h
  | d :: ds, l :: ls, h, hp => by
    rw [List.flatten_cons]
    exact .cons (hp 0 d l rfl rfl) (trrs_of (by simpa using h) fun i e m he hm => hp (i + 1) e m (by simpa using he) (by simpa using hm))
theorem TrL.rd : ∀ {n : Nat} {d : PyData} {a : List Nat}, TrL n d a → TrR d a
  | _, _, _, .str js h1 h2 => .str js h1 h2
  | _, _, _, .int i h => .int i h
  | _, _, _, .bool b => .bool b
  | _, _, _, .tup ds ls h1 h2 h3 => .tup ds _ h1 (trrs_of h2 fun i d l hd hl => TrL.rd (h3 i d l hd hl))
/-- r tuples around are still allowed; the place of the first tuple beyond them -/
inductive Deep : Nat → PyData → List Nat → Nat → Prop
  | here {ds : List PyData} {a : List Nat} : TrR (.tuple ds) a → Deep 0 (.tuple ds) a 0
  | down {r : Nat} {es : List PyData} {d : PyData} {fs : List PyData} {ea da fa : List Nat} {pl : Nat} : TrRs es ea → PyData.depthAll es ≤ r → Deep r d da pl → TrRs fs fa → (es ++ d :: fs).length ≤ 1000 →
    Deep (r + 1) (.tuple (es ++ d :: fs)) (0 :: (cnt (es ++ d :: fs).length ++ (ea ++ (da ++ fa)))) (1 + (cnt (es ++ d :: fs).length).length + ea.length + pl)
theorem TrRs.app : ∀ {ds es : List PyData} {a b : List Nat}, TrRs ds a → TrRs es b → TrRs (ds ++ es) (a ++ b)
  | [], _, _, _, .nil, h => h
  | _ :: _, _, _, _, .cons (a := x) (b := y) h t, g => by
    rw [List.cons_append, List.append_assoc]
    exact .cons h (TrRs.app t g)
theorem Deep.rd {r : Nat} {d : PyData} {a : List Nat} {pl : Nat} (h : Deep r d a pl) : TrR d a := by
  induction h with
  | here h => exact h
  | down h1 h2 h3 h4 h5 ih => exact .tup _ _ h5 (TrRs.app h1 (.cons ih h4))
theorem Deep.dep {r : Nat} {d : PyData} {a : List Nat} {pl : Nat} (h : Deep r d a pl) : r + 1 ≤ d.depth := by
  induction h with
  | here h => rw [PyData.depth]; omega
  | @down r es d fs ea da fa pl h1 h2 h3 h4 h5 ih =>
    have : ∀ es : List PyData, d.depth ≤ PyData.depthAll (es ++ d :: fs) := fun es => by
      induction es with
      | nil => rw [List.nil_append, PyData.depthAll]; omega
      | cons e es ih => rw [List.cons_append, PyData.depthAll]; omega
    have := this es
    rw [PyData.depth]
    omega
/-- the trees still to be read, each with the tuples around it; where the refusal comes -/
inductive Rd : List (Nat × PyData) → List Nat → Option Nat → Prop
  | nil : Rd [] [] none
  | ok {l : Nat} {d : PyData} {a : List Nat} {ps : List (Nat × PyData)} {b : List Nat} {o : Option Nat} : TrR d a → l + d.depth ≤ 200 → Rd ps b o → Rd ((l, d) :: ps) (a ++ b) (o.map (a.length + ·))
  | bad {l : Nat} {d : PyData} {a : List Nat} {ps : List (Nat × PyData)} {b : List Nat} {pl : Nat} : l ≤ 200 → Deep (200 - l) d a pl → Rd ((l, d) :: ps) (a ++ b) (some pl)
theorem rd_oks : ∀ {ds : List PyData} {ms : List Nat} {l : Nat} {ps : List (Nat × PyData)} {b : List Nat} {o : Option Nat}, TrRs ds ms → l + PyData.depthAll ds ≤ 200 → Rd ps b o → Rd (ds.map (fun d => (l, d)) ++ ps) (ms ++ b) (o.map (ms.length + ·))
  | [], _, _, _, _, o, .nil, _, h => by
    cases o with
    | none => exact h
    | some z => rw [Option.map_some, List.length_nil, Nat.zero_add]; exact h
  | d :: ds, _, l, _, _, o, .cons (a := x) (b := y) h t, hl, g => by
    rw [PyData.depthAll] at hl
    have r := rd_oks (ds := ds) (l := l) t (by omega) g
    have q := Rd.ok (l := l) h (by omega) r
    rw [List.map_cons, List.cons_append, List.append_assoc]
    cases o with
    | none => exact q
    | some z =>
      rw [Option.map_some, Option.map_some] at q
      rw [Option.map_some, List.length_append, Nat.add_assoc]
      exact q
/-- a tuple is opened -/
theorem Rd.open_ {l : Nat} {ds : List PyData} {ps : List (Nat × PyData)} {ns : List Nat} {o : Option Nat} (h : Rd ((l, .tuple ds) :: ps) ns o) (hl : l < 200) :
    ∃ rest o', ns = 0 :: (cnt ds.length ++ rest) ∧ ds.length ≤ 1000 ∧ Rd (ds.map (fun d => (l + 1, d)) ++ ps) rest o' ∧ o = o'.map ((1 + (cnt ds.length).length) + ·) := by
  generalize e : (l, PyData.tuple ds) :: ps = qs at h
  cases h with
  | nil => cases e
  | @ok l' d' a ps' b o' h1 h2 h3 =>
    obtain ⟨e1, rfl⟩ := List.cons.inj e
    obtain ⟨rfl, rfl⟩ := Prod.mk.inj e1
    cases h1 with
    | tup _ ms g1 g2 =>
      rw [PyData.depth] at h2
      refine ⟨ms ++ b, o'.map (ms.length + ·), by simp, g1, rd_oks g2 (by omega) h3, ?_⟩
      cases o' with
      | none => rfl
      | some z =>
        simp only [Option.map_some, List.length_cons, List.length_append]
        congr 1
        omega
  | @bad l' d' a ps' b pl h1 h2 =>
    obtain ⟨e1, rfl⟩ := List.cons.inj e
    obtain ⟨rfl, rfl⟩ := Prod.mk.inj e1
    obtain ⟨r, hr⟩ : ∃ r, 200 - l = r + 1 := ⟨199 - l, by omega⟩
    rw [hr] at h2
    generalize e2 : PyData.tuple ds = dd at h2
    cases h2 with
    | @down _ es d fs ea da fa pl g1 g2 g3 g4 g5 =>
      obtain rfl := PyData.tuple.inj e2
      have q := rd_oks (ps := (l + 1, d) :: (fs.map (fun d => (l + 1, d)) ++ ps)) (l := l + 1) g1 (by omega) (Rd.bad (b := fa ++ b) (by omega) (by rw [show 200 - (l + 1) = r by omega]; exact g3))
      refine ⟨ea ++ (da ++ (fa ++ b)), some (ea.length + pl), by simp, g5, ?_, ?_⟩
      · rw [List.map_append, List.map_cons, List.append_assoc]
        exact q
      · rw [Option.map_some]
        congr 1
        omega
/-- a leaf is read -/
theorem Rd.leaf {l : Nat} {d : PyData} {ps : List (Nat × PyData)} {ns : List Nat} {o : Option Nat} (h : Rd ((l, d) :: ps) ns o) (hd : ∀ ds, d ≠ .tuple ds) : ∃ a b o', ns = a ++ b ∧ TrR d a ∧ Rd ps b o' ∧ o = o'.map (a.length + ·) := by
  generalize e : (l, d) :: ps = qs at h
  cases h with
  | nil => cases e
  | @ok l' d' a ps' b o' h1 h2 h3 =>
    obtain ⟨e1, rfl⟩ := List.cons.inj e
    obtain ⟨rfl, rfl⟩ := Prod.mk.inj e1
    exact ⟨a, b, o', rfl, h1, h3, rfl⟩
  | @bad l' d' a ps' b pl h1 h2 =>
    obtain ⟨e1, rfl⟩ := List.cons.inj e
    obtain ⟨rfl, rfl⟩ := Prod.mk.inj e1
    generalize 200 - l = r at h2
    cases h2 with
    | here h => exact absurd rfl (hd _)
    | down => exact absurd rfl (hd _)
/-- a tuple within 200 is refused where it begins -/
theorem Rd.over {ds : List PyData} {ps : List (Nat × PyData)} {ns : List Nat} {o : Option Nat} (h : Rd ((200, .tuple ds) :: ps) ns o) : o = some 0 := by
  generalize e : (200, PyData.tuple ds) :: ps = qs at h
  cases h with
  | nil => cases e
  | @ok l' d' a ps' b o' h1 h2 h3 =>
    obtain ⟨e1, rfl⟩ := List.cons.inj e
    obtain ⟨rfl, rfl⟩ := Prod.mk.inj e1
    rw [PyData.depth] at h2
    omega
  | @bad l' d' a ps' b pl h1 h2 =>
    obtain ⟨e1, rfl⟩ := List.cons.inj e
    obtain ⟨rfl, rfl⟩ := Prod.mk.inj e1
    cases h2 with
    | here h => rfl
/-- the tuples that are open: what they have, what they wait for behind the tree that is read -/
abbrev Stk := List (List PyData × List PyData)
def restOf : Stk → List (Nat × PyData)
  | [] => []
  | (dn, rs) :: st => rs.map (fun d => (st.length + 1, d)) ++ restOf st
def plug : Stk → PyData → PyData
  | [], d => d
  | (dn, rs) :: st, d => plug st (.tuple (dn ++ d :: rs))
/-- the tuples that end with this tree are closed -/
def closeF : Stk → PyData → Stk × PyData
  | (dn, []) :: st, d => closeF st (.tuple (dn ++ [d]))
  | st, d => (st, d)
theorem closeF_nil (d : PyData) : closeF [] d = ([], d) := by unfold closeF; rfl
theorem closeF_more (dn : List PyData) (r : PyData) (rs : List PyData) (st : Stk) (d : PyData) : closeF ((dn, r :: rs) :: st) d = ((dn, r :: rs) :: st, d) := by unfold closeF; rfl
theorem closeF_end (dn : List PyData) (st : Stk) (d : PyData) : closeF ((dn, []) :: st) d = closeF st (.tuple (dn ++ [d])) := by rw [closeF]
theorem closeF_rest : ∀ (st : Stk) (d : PyData), restOf (closeF st d).1 = restOf st ∧ plug (closeF st d).1 (closeF st d).2 = plug st d ∧ (closeF st d).1.length ≤ st.length ∧ (∀ dn rs st', (closeF st d).1 = (dn, rs) :: st' → rs ≠ [])
  | [], d => by rw [closeF_nil]; exact ⟨rfl, rfl, Nat.le_refl _, fun _ _ _ h => by cases h⟩
  | (dn, []) :: st, d => by
    rw [closeF_end]
    obtain ⟨h1, h2, h3, h4⟩ := closeF_rest st (.tuple (dn ++ [d]))
    refine ⟨?_, ?_, Nat.le_trans h3 (by simp), h4⟩
    · rw [h1]; rfl
    · rw [h2]; rfl
  | (dn, r :: rs) :: st, d => by
    rw [closeF_more]
    refine ⟨rfl, rfl, Nat.le_refl _, fun dn' rs' st' h => ?_⟩
    obtain ⟨e, _⟩ := List.cons.inj h
    obtain ⟨rfl, rfl⟩ := Prod.mk.inj e
    simp
--SPLIT
end

section
variable {P : Program} {w : World} {K : PySem.W.Frag} {mg : Str → Option Value} {base : Heap}
theorem all_ex {α β : Type} {R : α → β → Prop} : ∀ {ds : List α}, (∀ d ∈ ds, ∃ l, R d l) → ∃ ls : List β, ls.length = ds.length ∧ ∀ (i : Nat) (d : α) (l : β), ds[i]? = some d → ls[i]? = some l → R d l
  | [], _ => ⟨[], rfl, fun i d l h => by simp at h⟩
  | d :: ds, h => by
    obtain ⟨l, hl⟩ := h d (by simp)
    obtain ⟨ls, h1, h2⟩ := all_ex (R := R) (ds := ds) fun e he => h e (List.mem_cons_of_mem _ he)
    refine ⟨l :: ls, by simp [h1], fun i e m he hm => ?_⟩
    cases i with
    | zero =>
      have he := Option.some.inj he
      have hm := Option.some.inj hm
      subst he; subst hm
      exact hl
    | succ i => exact h2 i e m (by simpa using he) (by simpa using hm)
theorem flat_le {b : Nat} : ∀ {ls : List (List Nat)}, (∀ l ∈ ls, l.length ≤ b) → ls.flatten.length ≤ ls.length * b
  | [], _ => by simp
  | l :: ls, h => by
    have h1 := h l (by simp)
    have h2 := flat_le (ls := ls) fun x hx => h x (List.mem_cons_of_mem _ hx)
    rw [List.flatten_cons, List.length_append, List.length_cons, Nat.succ_mul]
    omega
/-- how many numbers a drawn tree has at most -/
def bnd : Nat → Nat
  | 0 => 60
  | n + 1 => 3 * bnd n + 60
theorem cnt_small {n : Nat} (h : n ≤ 1000) : (cnt n).length ≤ 3 := cnt_len 2 _ (Nat.lt_of_le_of_lt h (by decide))
theorem TreeD.le {n m : Nat} {d : PyData} (h : n ≤ m) (t : TreeD n d) : TreeD m d := by
  obtain ⟨k, rfl⟩ := Nat.le.dest h
  induction k with
  | zero => exact t
  | succ k ih => exact (ih (by omega)).up
theorem tree_wd {n : Nat} {d : PyData} (h : TreeD n d) : Wd n d := by
  induction h with
  | str js h1 h2 => exact .str _
  | int i h => exact .int _
  | bool b => exact .bool _
  | tup ds h1 _ ih => exact .tup (by omega) ih
theorem depthAll_le {n : Nat} : ∀ {ds : List PyData}, (∀ d ∈ ds, d.depth ≤ n) → PyData.depthAll ds ≤ n
  | [], _ => Nat.zero_le _
  | d :: ds, h => by
    rw [PyData.depthAll]
    have h1 := h d (by simp)
    have h2 := depthAll_le (ds := ds) fun e he => h e (List.mem_cons_of_mem _ he)
    omega
theorem tree_dep {n : Nat} {d : PyData} (h : TreeD n d) : d.depth ≤ n := by
  induction h with
  | str js h1 h2 => exact Nat.zero_le _
  | int i h => exact Nat.zero_le _
  | bool b => exact Nat.zero_le _
  | tup ds h1 _ ih =>
    rw [PyData.depth]
    have := depthAll_le ih
    omega
mutual
theorem TrR.trn : ∀ {d : PyData} {a : List Nat}, TrR d a → TrN d a
  | _, _, .str js h1 h2 => .str js (by omega) h2
  | _, _, .int i h => .int i (Nat.le_trans (Nat.le_of_lt h) (by decide +kernel))
  | _, _, .bool b => .bool b
  | _, _, .tup ds ns h1 h2 => .tup ds ns h1 h2.trn
theorem TrRs.trn : ∀ {ds : List PyData} {a : List Nat}, TrRs ds a → TrNs ds a
  | _, _, .nil => .nil
  | _, _, .cons h t => .cons h.trn t.trn
end
theorem tree_enc {n : Nat} {d : PyData} (h : TreeD n d) : ∃ ns, TrL n d ns ∧ ns.length ≤ bnd n := by
  have base : ∀ n, 60 ≤ bnd n := fun n => by cases n <;> simp only [bnd] <;> omega
  induction h with
  | @str n js h1 h2 =>
    refine ⟨_, .str js (by omega) h2, ?_⟩
    have := cnt_small (n := js.length) (by omega)
    have hb := base n
    simp only [List.length_cons, strN, List.length_append]
    omega
  | @int n i h =>
    refine ⟨_, .int i h, ?_⟩
    have := cnt_len 39 (zig i) (zig40 h)
    have hb := base n
    simp only [List.length_cons]
    omega
  | @bool n b => exact ⟨_, .bool b, Nat.le_trans (by simp) (base n)⟩
  | @tup n ds hl _ ih =>
    obtain ⟨ps, h1, h2⟩ := all_ex (R := fun d (p : List Nat) => TrL n d p ∧ p.length ≤ bnd n) ih
    refine ⟨0 :: (cnt ds.length ++ ps.flatten), .tup ds _ (by omega) h1 fun i d l hd hl => (h2 i d l hd hl).1, ?_⟩
    have hf := flat_le (b := bnd n) (ls := ps) fun l hl2 => by
      obtain ⟨i, hi, e⟩ := List.mem_iff_getElem.mp hl2
      have hd : ds[i]? = some (ds[i]'(by omega)) := List.getElem?_eq_getElem (by omega)
      exact (h2 i _ l hd (by rw [List.getElem?_eq_getElem hi, e])).2
    have hc := cnt_small (n := ds.length) (by omega)
    have h3 : ps.length * bnd n ≤ 3 * bnd n := Nat.mul_le_mul_right _ (by omega)
    simp only [List.length_cons, List.length_append, bnd]
    omega
end

section
--SPLIT
end
section
variable {P : Program} {w : World} {K : PySem.W.Frag} {mg : Str → Option Value} {base : Heap}
def ValSm0 : Val → Prop
  | .int i => i.natAbs < 2 ^ 256
  | .text js => TxSm js
  | .span a b => a.natAbs < 2 ^ 256 ∧ b.natAbs < 2 ^ 256
  | .built js => TxSm js
  | .host js => TxSm js
  | .ref n => n < 10 ^ 20
  | _ => True
theorem ValSm.z {m : Nat} (hm : m ≤ 10 ^ 20) : ∀ {x : Val}, ValSm m x → ValSm0 x
  | .none, _ => trivial
  | .bool _, _ => trivial
  | .int _, h => h
  | .text _, h => h
  | .span _ _, h => h
  | .built _, h => h
  | .host _, h => h
  | .ref n, h => Nat.lt_of_lt_of_le (show n < m from h) hm
theorem ValSm0.ok : ∀ {x : Val}, ValSm0 x → ValOk x
  | .none, _ => trivial
  | .bool _, _ => trivial
  | .int _, h => Nat.le_trans (Nat.le_of_lt h) (Nat.pow_le_pow_right (by decide) (by decide))
  | .text _, h => ⟨Nat.le_trans h.len (by decide), h.lt⟩
  | .span _ _, h => ⟨Nat.le_trans (Nat.le_of_lt h.1) (Nat.pow_le_pow_right (by decide) (by decide)), Nat.le_trans (Nat.le_of_lt h.2) (Nat.pow_le_pow_right (by decide) (by decide))⟩
  | .built _, h => ⟨Nat.le_trans h.len (by decide), h.lt⟩
  | .host _, h => ⟨Nat.le_trans h.len (by decide), h.lt⟩
  | .ref _, h => Nat.le_trans (Nat.le_of_lt h) (by decide)
def FldSm0 (m : Nat) : Fld → Prop
  | .v x => ValSm0 x
  | .V xs => xs.length ≤ 4 ∧ ∀ x ∈ xs, ValSm0 x
  | .W ps => ps.length ≤ 3 ∧ ∀ p ∈ ps, ValSm0 p.1 ∧ ValSm0 p.2
  | .X ps => ps.length ≤ 3 ∧ ∀ p ∈ ps, TxSm p.1 ∧ ValSm0 p.2
  | .t d => TreeD 3 d
  | .a k => k < m
  | .b k => -1 ≤ k ∧ k < m
  | .n i => i.natAbs < 2 ^ 256
  | .x js => TxSm js
  | .s0 => True
  | .s1 z => z = "break" ∨ z = "continue"
  | .s2 z x => (z = "return" ∨ z = "raise") ∧ ValSm0 x
theorem FldSm.z {m : Nat} (hm : m ≤ 10 ^ 20) : ∀ {x : Fld}, FldSm m x → FldSm0 m x
  | .v x, h => ValSm.z hm h
  | .V xs, h => ⟨h.1, fun x hx => (h.2 x hx).z hm⟩
  | .W ps, h => ⟨h.1, fun x hx => ⟨(h.2 x hx).1.z hm, (h.2 x hx).2.z hm⟩⟩
  | .X ps, h => ⟨h.1, fun x hx => ⟨(h.2 x hx).1, (h.2 x hx).2.z hm⟩⟩
  | .t d, h => h
  | .a k, h => h
  | .b k, h => h
  | .n i, h => h
  | .x js, h => h
  | .s0, h => h
  | .s1 z, h => h
  | .s2 z x, h => ⟨h.1, h.2.z hm⟩
def FrSm0 (m : Nat) (f : Fr) : Prop := (f.kd, f.fs.map ltr) ∈ frTab ∧ ∀ x ∈ f.fs, FldSm0 m x
theorem FrSm.z {m : Nat} (hm : m ≤ 10 ^ 20) {f : Fr} (h : FrSm m f) : FrSm0 m f := ⟨h.1, fun x hx => (h.2 x hx).z hm⟩
def Fl2Sm0 (m : Nat) : Fl2 → Prop
  | .one x => FldSm0 m x
  | .fr l => l.length ≤ 2 ∧ ∀ f ∈ l, FrSm0 m f
theorem Fl2Sm.z {m : Nat} (hm : m ≤ 10 ^ 20) : ∀ {x : Fl2}, Fl2Sm m x → Fl2Sm0 m x
  | .one x, h => FldSm.z hm h
  | .fr l, h => ⟨h.1, fun f hf => (h.2 f hf).z hm⟩
end

section
variable {P : Program} {w : World} {K : PySem.W.Frag} {mg : Str → Option Value} {base : Heap}
abbrev fR : List Str := ["numbers", "at", "references"]
def rf (n a r : V) : List (Str × V) := [("numbers", n), ("at", a), ("references", r)]
theorem rf_numbers {n a r : V} : (rf n a r).lookup ("numbers" : Str) = some n := by rfl
theorem rf_at {n a r : V} : (rf n a r).lookup ("at" : Str) = some a := by rfl
theorem rf_refs {n a r : V} : (rf n a r).lookup ("references" : Str) = some r := by rfl
theorem rf_set {n a r x : V} : putF "at" x (rf n a r) = rf n x r := by rfl
def spRInit (C : Addr) : Sp := fun vs H Q _ => ∃ (p dx nl : Addr) (a : Int), vs = [.ref p, .ref nl, .int a] ∧ H p = some (.ins C dx []) ∧ ∀ rl H', H rl = none → H' rl = some (.lst []) → H' p = some (.ins C dx (rf (.ref nl) (.int a) (.ref rl))) → (∀ b u, H b = some u → b ≠ p → H' b = some u) → Q .non H'
def spRNum (C : Addr) : Sp := fun vs H Q _ => ∃ (p dx nl rl : Addr) (ns : List Nat) (i d m : Nat), vs = [.ref p, .int (m : Int)] ∧ H p = some (.ins C dx (rf (.ref nl) (.int (i : Int)) (.ref rl))) ∧ H nl = some (.lst (nV ns)) ∧ ns[i]? = some d ∧ d < m ∧
  Q (.int (d : Int)) (upd H p (.ins C dx (rf (.ref nl) (.int ((i + 1 : Nat) : Int)) (.ref rl))))
theorem shl_val (c d j : Nat) : (c : Int) + ((d : Int) % 128) * 2 ^ ((7 * (0 + (j : Int))).toNat) = ((c + d % 128 * 128 ^ j : Nat) : Int) := by
  have e : (7 * (0 + (j : Int))).toNat = 7 * j := by omega
  have p : (128 : Nat) ^ j = 2 ^ (7 * j) := by rw [Nat.pow_mul]
  rw [e, p]
  simp only [Int.natCast_add, Int.natCast_mul, Int.natCast_emod, Int.natCast_pow]
  rfl
def spRCnt (C : Addr) : Sp := fun vs H Q _ => ∃ (p dx nl rl : Addr) (ns tl : List Nat) (i n : Nat), vs = [.ref p] ∧ H p = some (.ins C dx (rf (.ref nl) (.int (i : Int)) (.ref rl))) ∧ H nl = some (.lst (nV ns)) ∧ ns.drop i = cnt n ++ tl ∧ n < 128 ^ 40 ∧
  ∀ H', H' p = some (.ins C dx (rf (.ref nl) (.int ((i + (cnt n).length : Nat) : Int)) (.ref rl))) → (∀ b o, H b = some o → b ≠ p → H' b = some o) → Q (.int (n : Int)) H'
end

section
variable {P : Program} {w : World} {K : PySem.W.Frag} {mg : Str → Option Value} {base : Heap}
/-- the reader stands at p, before the i-th number -/
def RAt (C p dx nl rl : Addr) (H : Hp) (i : Nat) : Prop := H p = some (.ins C dx (rf (.ref nl) (.int (i : Int)) (.ref rl)))
def KeepR (p : Addr) (H H' : Hp) : Prop := ∀ b o, H b = some o → b ≠ p → H' b = some o
def spRInt (C : Addr) : Sp := fun vs H Q _ => ∃ (p dx nl rl : Addr) (ns tl : List Nat) (i : Nat) (z : Int), vs = [.ref p] ∧ RAt C p dx nl rl H i ∧ H nl = some (.lst (nV ns)) ∧ ns.drop i = cnt (zig z) ++ tl ∧ z.natAbs < 2 ^ 256 ∧
  ∀ H', RAt C p dx nl rl H' (i + (cnt (zig z)).length) → KeepR p H H' → Q (.int z) H'
theorem zig_half (z : Int) : (((zig z : Nat) : Int) / 2, ((zig z : Nat) : Int) % 2) = if 0 ≤ z then (z, 0) else (-z - 1, 1) := by
  by_cases h : 0 ≤ z
  · rw [if_pos h, ← zig_pos h]
    congr 1 <;> omega
  · rw [if_neg h, ← zig_neg h]
    congr 1 <;> omega
def spRBelow (C : Addr) : Sp := fun vs H Q _ => ∃ (p dx nl rl : Addr) (ns tl : List Nat) (i n m : Nat), vs = [.ref p, .int (m : Int)] ∧ RAt C p dx nl rl H i ∧ H nl = some (.lst (nV ns)) ∧ ns.drop i = cnt n ++ tl ∧ n < 128 ^ 40 ∧ n < m ∧
  ∀ H', RAt C p dx nl rl H' (i + (cnt n).length) → KeepR p H H' → Q (.int (n : Int)) H'
def spRStr (C : Addr) : Sp := fun vs H Q _ => ∃ (p dx nl rl : Addr) (ns tl js : List Nat) (i m : Nat), vs = [.ref p, .int (m : Int)] ∧ RAt C p dx nl rl H i ∧ H nl = some (.lst (nV ns)) ∧ ns.drop i = strN js ++ tl ∧ (∀ j ∈ js, j < 95) ∧ js.length ≤ m ∧ m ≤ 100000 ∧
  ∀ H', RAt C p dx nl rl H' (i + (strN js).length) → KeepR p H H' → Q (.str (tx js)) H'
/-- a reference is added -/
def spRRef (K : PySem.W.Frag) (C : Addr) : Sp := fun vs H Q _ => ∃ (p dx nl rl : Addr) (ns tl : List Nat) (rs : List V) (i n : Nat), vs = [.ref p, .int 0] ∧ RAt C p dx nl rl H i ∧ H nl = some (.lst (nV ns)) ∧ H rl = some (.lst rs) ∧ rs.length ≤ 1000000 ∧ nl ≠ rl ∧ ns.drop i = cnt n ++ tl ∧ n < 128 ^ 40 ∧
  ∀ H' t, RAt C p dx nl rl H' (i + (cnt n).length) → H' rl = some (.lst (rs ++ [.ref t])) → H' t = some (.tup [.int (i : Int), .int (n : Int)]) → (∀ b o, H b = some o → b ≠ p → b ≠ rl → H' b = some o) → Q (.int (n : Int)) H'
def ValRd : Val → Prop
  | .int i => i.natAbs < 2 ^ 256
  | .text js => js.length ≤ 1000 ∧ ∀ j ∈ js, j < 95
  | .span a b => a.natAbs < 2 ^ 256 ∧ b.natAbs < 2 ^ 256
  | .built js => js.length ≤ 200 ∧ ∀ j ∈ js, j < 95
  | .host js => js.length ≤ 200 ∧ ∀ j ∈ js, j < 95
  | .ref n => n < 128 ^ 40
  | _ => True
def spRVal (K : PySem.W.Frag) (C : Addr) : Sp := fun vs H Q _ => ∃ (p dx nl rl : Addr) (ns tl : List Nat) (rs : List V) (i : Nat) (x : Val), vs = [.ref p] ∧ RAt C p dx nl rl H i ∧ H nl = some (.lst (nV ns)) ∧ H rl = some (.lst rs) ∧ rs.length ≤ 1000000 ∧ nl ≠ rl ∧ ns.drop i = enc x ++ tl ∧ ValRd x ∧
  ∀ v H' rs', RAt C p dx nl rl H' (i + (enc x).length) → H' rl = some (.lst rs') → (rs' = rs ∨ ∃ (t : Addr) (f : Int) (n : Nat), rs' = rs ++ [.ref t] ∧ H' t = some (.tup [.int f, .int (n : Int)]) ∧ x = .ref n) → Dt K H' v (valD x) → (∀ b o, H b = some o → b ≠ p → b ≠ rl → H' b = some o) → Q v H'
def kdR : Val → Str
  | .none => "none" | .bool _ => "bool" | .int _ => "int" | .text _ => "text" | .span _ _ => "span" | .built _ => "built" | .host _ => "host" | .ref _ => "ref"
def kinds9 : List Str := ["none", "bool", "bool", "int", "text", "span", "built", "host", "ref"]
end

section
--SPLIT
end
section
variable {P : Program} {w : World} {K : PySem.W.Frag} {mg : Str → Option Value} {base : Heap}
/-- an open tuple, told by z: how many parts it has, the list b of those that are there -/
def FrAt (K : PySem.W.Frag) (H : Hp) (z : V) (f : List PyData × List PyData) (b : Addr) : Prop := ∃ t xs, z = .ref t ∧ SqT K H t [.int ((f.1.length + 1 + f.2.length : Nat) : Int), .ref b] ∧ H b = some (.lst xs) ∧ DtAll K H xs f.1
inductive StAt (K : PySem.W.Frag) (H : Hp) : List V → Stk → List Addr → Prop
  | nil : StAt K H [] [] []
  | cons {z : V} {zs : List V} {f : List PyData × List PyData} {st : Stk} {b : Addr} {bs : List Addr} : FrAt K H z f b → b ∉ bs → StAt K H zs st bs → StAt K H (z :: zs) (f :: st) (b :: bs)
theorem StAt.len {H : Hp} {zs : List V} {st : Stk} {bs : List Addr} (h : StAt K H zs st bs) : zs.length = st.length ∧ bs.length = st.length := by
  induction h with
  | nil => exact ⟨rfl, rfl⟩
  | cons _ _ _ ih => simp [ih.1, ih.2]
/-- the lists stay, and what is no list -/
theorem StAt.keep {H H' : Hp} (kt : KeepT K H H') {zs : List V} {st : Stk} {bs : List Addr} (h : StAt K H zs st bs) (kb : ∀ b ∈ bs, ∀ xs, H b = some (.lst xs) → H' b = some (.lst xs)) : StAt K H' zs st bs := by
  induction h with
  | nil => exact .nil
  | cons hf hn _ ih =>
    obtain ⟨t, xs, rfl, h1, h2, h3⟩ := hf
    exact .cons ⟨t, xs, rfl, kt _ _ h1, kb _ (by simp) _ h2, h3.keepT kt⟩ hn (ih fun b hb => kb b (List.mem_cons_of_mem _ hb))
theorem StAt.lst {H : Hp} {zs : List V} {st : Stk} {bs : List Addr} (h : StAt K H zs st bs) : ∀ b ∈ bs, ∃ xs, H b = some (.lst xs) := by
  induction h with
  | nil => intro b hb; cases hb
  | cons hf _ _ ih =>
    intro b hb
    obtain ⟨t, xs, _, _, h2, _⟩ := hf
    rcases List.mem_cons.mp hb with rfl | hb
    · exact ⟨xs, h2⟩
    · exact ih b hb
def spClosed (K : PySem.W.Frag) : Sp := fun vs H Q _ => ∃ (ar : Addr) (v : V) (zs : List V) (st : Stk) (bs : List Addr) (d : PyData), vs = [.ref ar, v] ∧ H ar = some (.lst zs) ∧ StAt K H zs.reverse st bs ∧ ar ∉ bs ∧ Dt K H v d ∧ (∀ f ∈ st, f.1.length + f.2.length ≤ 1000) ∧
  ∀ v' H' zs' bs', H' ar = some (.lst zs') → StAt K H' zs'.reverse (closeF st d).1 bs' → (∀ b ∈ bs', b ∈ bs) → Dt K H' v' (closeF st d).2 → (∀ b o, H b = some o → b ≠ ar → H' b = some o) → Q v' H'
def muC (ar : Addr) (H : Hp) : Nat := match H ar with | some (.lst xs) => xs.length | _ => 0
--SPLIT
inductive Lf : PyData → Nat → List Nat → Prop
  | emp : Lf (.tuple []) 0 []
  | str (js : List Nat) : js.length ≤ 200 → (∀ j ∈ js, j < 95) → Lf (.str (tx js)) 1 (strN js)
  | int (i : Int) : i.natAbs < 2 ^ 256 → Lf (.int i) 2 (cnt (zig i))
  | bool (b : Bool) : Lf (.bool b) (3 + if b = true then 1 else 0) []
def spRLeaf (K : PySem.W.Frag) (C : Addr) : Sp := fun vs H Q _ => ∃ (p dx nl rl : Addr) (ns tl rest : List Nat) (i m : Nat) (d : PyData), vs = [.ref p, .int (m : Int)] ∧ RAt C p dx nl rl H i ∧ H nl = some (.lst (nV ns)) ∧ ns.drop i = rest ++ tl ∧ Lf d m rest ∧
  ∀ v H', RAt C p dx nl rl H' (i + rest.length) → KeepR p H H' → KeepT K H H' → Dt K H' v d → Q v H'
theorem RAt.kt {C p dx nl rl : Addr} {H H' : Hp} {i : Nat} (h : RAt C p dx nl rl H i) (k : KeepR p H H') : KeepT K H H' := fun a xs g => by
  rcases g with (g | ⟨o, g⟩) | g
  · exact .inl (.inl (k _ _ g fun e => by subst e; rw [RAt] at h; rw [h] at g; cases g))
  · exact .inl (.inr ⟨o, k _ _ g fun e => by subst e; rw [RAt] at h; rw [h] at g; cases g⟩)
  · exact .inr g
--SPLIT
theorem TrR.leaf {d : PyData} {a : List Nat} (h : TrR d a) (hd : ∀ ds, d ≠ .tuple ds) : ∃ m rest, a = m :: rest ∧ Lf d m rest ∧ m ≠ 0 ∧ m < 5 := by
  cases h with
  | str js h1 h2 => exact ⟨_, _, rfl, .str js h1 h2, by decide, by decide⟩
  | int i h => exact ⟨_, _, rfl, .int i h, by decide, by decide⟩
  | bool b => exact ⟨_, _, rfl, .bool b, by cases b <;> decide, by cases b <;> decide⟩
  | tup ds ns _ _ => exact absurd rfl (hd _)
theorem Rd.head {l : Nat} {ds : List PyData} {ps : List (Nat × PyData)} {ns : List Nat} {o : Option Nat} (h : Rd ((l, .tuple ds) :: ps) ns o) : ∃ rest, ns = 0 :: rest := by
  have hd : ∀ {a : List Nat}, TrR (.tuple ds) a → ∃ r, a = 0 :: r := fun g => by
    cases g with
    | tup _ ms _ _ => exact ⟨_, rfl⟩
  generalize e : (l, PyData.tuple ds) :: ps = qs at h
  cases h with
  | nil => cases e
  | @ok l' d' a ps' b o' h1 h2 h3 =>
    obtain ⟨e1, rfl⟩ := List.cons.inj e
    obtain ⟨rfl, rfl⟩ := Prod.mk.inj e1
    obtain ⟨r, rfl⟩ := hd h1
    exact ⟨_, rfl⟩
  | @bad l' d' a ps' b pl h1 h2 =>
    obtain ⟨e1, rfl⟩ := List.cons.inj e
    obtain ⟨rfl, rfl⟩ := Prod.mk.inj e1
    obtain ⟨r, rfl⟩ := hd h2.rd
    exact ⟨_, rfl⟩
theorem closeF_sub : ∀ (st : Stk) (d : PyData), ∀ f ∈ (closeF st d).1, f ∈ st
  | [], d => by rw [closeF_nil]; exact fun _ h => h
  | (dn, []) :: st, d => by
    rw [closeF_end]
    exact fun f hf => List.mem_cons_of_mem _ (closeF_sub st _ f hf)
  | (dn, r :: rs) :: st, d => by rw [closeF_more]; exact fun _ h => h
theorem Rd.nil_inv {ns : List Nat} {o : Option Nat} (h : Rd [] ns o) : ns = [] ∧ o = none := by
  cases h
  exact ⟨rfl, rfl⟩
/-- what reading gives: a tree, or a refusal at a place -/
def PutsT (K : PySem.W.Frag) (C CB p dx nl rl : Addr) (i n : Nat) (d : PyData) (H : Hp) (Q : VK) (E : XK) : Option Nat → Prop
  | none => ∀ v H', RAt C p dx nl rl H' (i + n) → KeepR p H H' → Dt K H' v d → Q v H'
  | some pl => ∀ dd H', H dd = none → KeepR p H H' → H' dd = some (badD ((i + pl : Nat) : Int)) → E (.ref CB) (some dd) H'
def spRTree (K : PySem.W.Frag) (C CB : Addr) : Sp := fun vs H Q E => ∃ (p dx nl rl : Addr) (ns tl a : List Nat) (i : Nat) (d : PyData) (o : Option Nat), vs = [.ref p] ∧ RAt C p dx nl rl H i ∧ H nl = some (.lst (nV ns)) ∧ ns.drop i = a ++ tl ∧ ns.length ≤ 1000000 ∧ Rd [(0, d)] a o ∧ PutsT K C CB p dx nl rl i a.length d H Q E o
def muR (p : Addr) (n : Nat) (H : Hp) : Nat := match H p with
  | some (.ins _ _ fs) => match fs.lookup ("at" : Str) with
    | some (.int z) => n + 1 - z.toNat
    | _ => 0
  | _ => 0
theorem muR_at {C p dx nl rl : Addr} {H : Hp} {j n : Nat} (h : RAt C p dx nl rl H j) : muR p n H = n + 1 - j := by
  unfold muR
  rw [show H p = _ from h]
  show (match (rf (.ref nl) (.int (j : Int)) (.ref rl)).lookup ("at" : Str) with | some (.int z) => n + 1 - z.toNat | _ => 0) = _
  rw [rf_at]
  rfl
end

section
--SPLIT
end
section
variable {P : Program} {w : World} {K : PySem.W.Frag} {mg : Str → Option Value} {base : Heap}
def spLVNum (K : PySem.W.Frag) : Sp := fun vs H Q _ => ∃ (v : V) (x : Val), vs = [v] ∧ Dt K H v (valD x) ∧ ValRd x ∧ ∀ l H', H l = none → Same H H' → H' l = some (.lst (nV (enc x))) → Q (.ref l) H'
theorem rd_len {x : Val} (h : ValRd x) : (enc x).length ≤ 2000 := by
  have c : ∀ n, n < 128 ^ 40 → (cnt n).length ≤ 40 := fun n h => cnt_len 39 n h
  have st : ∀ (js : List Nat), js.length ≤ 1000 → (strN js).length ≤ 1040 := fun js h => by
    have h1 := c js.length (Nat.lt_of_le_of_lt h (by decide +kernel))
    rw [strN, List.length_append]; omega
  cases x with
  | none => simp [enc]
  | bool b => simp [enc]
  | int i => have := c _ (zig40 h); simp [enc]; omega
  | text js => have := st js h.1; simp [enc]; omega
  | built js => have h' : js.length ≤ 200 := h.1; have := st js (by omega); simp [enc]; omega
  | host js => have h' : js.length ≤ 200 := h.1; have := st js (by omega); simp [enc]; omega
  | ref n => have := c n h; simp [enc]; omega
  | span a b => have h1 := c _ (zig40 h.1); have h2 := c _ (zig40 h.2); simp [enc]; omega
theorem sm_rd : ∀ {x : Val}, ValSm0 x → ValRd x
  | .none, _ => trivial
  | .bool _, _ => trivial
  | .int _, h => h
  | .text _, h => ⟨Nat.le_trans h.len (by decide), h.lt⟩
  | .span _ _, h => h
  | .built _, h => ⟨Nat.le_trans h.len (by decide), h.lt⟩
  | .host _, h => ⟨Nat.le_trans h.len (by decide), h.lt⟩
  | .ref _, h => Nat.lt_trans h (by decide +kernel)
end

section
--SPLIT
end
section
variable {P : Program} {w : World} {K : PySem.W.Frag} {mg : Str → Option Value} {base : Heap}
/-- the numbers of a field -/
def FldE : Fld → List Nat → Prop
  | .v x, ns => ns = enc x
  | .V xs, ns => ns = cnt xs.length ++ xs.flatMap enc
  | .W ps, ns => ns = cnt ps.length ++ ps.flatMap fun p => enc p.1 ++ enc p.2
  | .X ps, ns => ns = cnt ps.length ++ ps.flatMap fun p => strN p.1 ++ enc p.2
  | .t d, ns => TrL 5 d ns
  | .a k, ns => ns = cnt k
  | .b k, ns => ns = cnt (k + 1).toNat
  | .n i, ns => ns = cnt (zig i)
  | .x js, ns => ns = strN js
  | .s0, ns => ns = [0]
  | .s1 z, ns => (z = "break" ∧ ns = [1]) ∨ (z = "continue" ∧ ns = [2])
  | .s2 z x, ns => (z = "return" ∧ ns = 3 :: enc x) ∨ (z = "raise" ∧ ns = 4 :: enc x)
theorem sm_len {x : Val} (h : ValSm0 x) : (enc x).length ≤ 100 := by
  have c : ∀ n, n < 128 ^ 40 → (cnt n).length ≤ 40 := fun n h => cnt_len 39 n h
  have st : ∀ (js : List Nat), TxSm js → (strN js).length ≤ 52 := fun js h => by
    have h1 := c js.length (Nat.lt_of_le_of_lt h.len (by decide +kernel))
    have := h.len
    rw [strN, List.length_append]; omega
  cases x with
  | none => simp [enc]
  | bool b => simp [enc]
  | int i => have := c _ (zig40 h); simp [enc]; omega
  | text js => have := st js h; simp [enc]; omega
  | built js => have := st js h; simp [enc]; omega
  | host js => have := st js h; simp [enc]; omega
  | ref n => have := c n (Nat.lt_trans h (by decide +kernel)); simp [enc]; omega
  | span a b => have h1 := c _ (zig40 h.1); have h2 := c _ (zig40 h.2); simp [enc]; omega
theorem tx_len2 {js : List Nat} (h : TxSm js) : (strN js).length ≤ 52 := by
  have h1 := cnt_len 39 js.length (Nat.lt_of_le_of_lt h.len (by decide +kernel))
  have := h.len
  rw [strN, List.length_append]; omega
theorem fm_le {α : Type} {g : α → List Nat} {b : Nat} : ∀ {xs : List α}, (∀ x ∈ xs, (g x).length ≤ b) → (xs.flatMap g).length ≤ xs.length * b
  | [], _ => by simp
  | x :: xs, h => by
    have h1 := h x (by simp)
    have h2 := fm_le (xs := xs) fun y hy => h y (List.mem_cons_of_mem _ hy)
    rw [List.flatMap_cons, List.length_append, List.length_cons, Nat.succ_mul]
    omega
theorem cnt_b {n : Nat} (h : n ≤ 10 ^ 6) : (cnt n).length ≤ 3 := cnt_len 2 _ (Nat.lt_of_le_of_lt h (by decide))
theorem fld_e {m : Nat} (hm : m ≤ 10 ^ 6) : ∀ {x : Fld}, FldSm0 m x → ∃ ns, FldE x ns ∧ ns.length ≤ 10000
  | .v x, h => ⟨_, rfl, Nat.le_trans (sm_len h) (by decide)⟩
  | .V xs, h => ⟨_, rfl, by
    have h1 := fm_le (b := 100) (g := enc) (xs := xs) fun x hx => sm_len (h.2 x hx)
    have h2 := cnt_small (n := xs.length) (Nat.le_trans h.1 (by decide))
    have := h.1
    rw [List.length_append]; omega⟩
  | .W ps, h => ⟨_, rfl, by
    have h1 := fm_le (b := 200) (g := fun p : Val × Val => enc p.1 ++ enc p.2) (xs := ps) fun x hx => by
      have a := sm_len (h.2 x hx).1
      have b := sm_len (h.2 x hx).2
      rw [List.length_append]; omega
    have h2 := cnt_small (n := ps.length) (Nat.le_trans h.1 (by decide))
    have := h.1
    rw [List.length_append]; omega⟩
  | .X ps, h => ⟨_, rfl, by
    have h1 := fm_le (b := 200) (g := fun p : List Nat × Val => strN p.1 ++ enc p.2) (xs := ps) fun x hx => by
      have a := tx_len2 (h.2 x hx).1
      have b := sm_len (h.2 x hx).2
      rw [List.length_append]; omega
    have h2 := cnt_small (n := ps.length) (Nat.le_trans h.1 (by decide))
    have := h.1
    rw [List.length_append]; omega⟩
  | .t d, h => by
    obtain ⟨ns, h1, h2⟩ := tree_enc (TreeD.le (m := 5) (by decide) h)
    have h0 : TreeD 3 d := h
    obtain ⟨ns3, h13, h23⟩ := tree_enc h0
    exact ⟨ns3, (by rw [h13.rd.det h1.rd]; exact h1), Nat.le_trans h23 (by decide)⟩
  | .a k, h => ⟨_, rfl, Nat.le_trans (cnt_b (n := k) (by have : k < m := h; omega)) (by decide)⟩
  | .b k, h => ⟨_, rfl, Nat.le_trans (cnt_b (n := (k + 1).toNat) (by have h1 : -1 ≤ k := h.1; have h2 : k < (m : Int) := h.2; omega)) (by decide)⟩
  | .n i, h => ⟨_, rfl, Nat.le_trans (cnt_len 39 _ (zig40 h)) (by decide)⟩
  | .x js, h => ⟨_, rfl, Nat.le_trans (tx_len2 h) (by decide)⟩
  | .s0, _ => ⟨_, rfl, by simp⟩
  | .s1 z, h => by
    rcases h with rfl | rfl
    · exact ⟨[1], .inl ⟨rfl, rfl⟩, by simp⟩
    · exact ⟨[2], .inr ⟨rfl, rfl⟩, by simp⟩
  | .s2 z x, h => by
    have hl := sm_len h.2
    rcases h.1 with rfl | rfl
    · exact ⟨_, .inl ⟨rfl, rfl⟩, by rw [List.length_cons]; omega⟩
    · exact ⟨_, .inr ⟨rfl, rfl⟩, by rw [List.length_cons]; omega⟩
theorem val_wd (x : Val) : Wd 1 (valD x) := by
  have at0 : ∀ n (d : PyData), (∃ z, d = .str z) ∨ (∃ i, d = .int i) ∨ (∃ b, d = .bool b) → Wd n d := fun n d h => by
    rcases h with ⟨z, rfl⟩ | ⟨i, rfl⟩ | ⟨b, rfl⟩
    · exact .str z
    · exact .int i
    · exact .bool b
  cases x <;> refine .tup (by simp) fun d hd => at0 _ d ?_ <;> simp at hd
  case none => exact .inl ⟨_, hd⟩
  case bool b =>
    rcases hd with h | h
    · exact .inl ⟨_, h⟩
    · exact .inr (.inr ⟨_, h⟩)
  case int i =>
    rcases hd with h | h
    · exact .inl ⟨_, h⟩
    · exact .inr (.inl ⟨_, h⟩)
  case text js =>
    rcases hd with h | h
    · exact .inl ⟨_, h⟩
    · exact .inl ⟨_, h⟩
  case span a b =>
    rcases hd with h | h | h
    · exact .inl ⟨_, h⟩
    · exact .inr (.inl ⟨_, h⟩)
    · exact .inr (.inl ⟨_, h⟩)
  case built js =>
    rcases hd with h | h
    · exact .inl ⟨_, h⟩
    · exact .inl ⟨_, h⟩
  case host js =>
    rcases hd with h | h
    · exact .inl ⟨_, h⟩
    · exact .inl ⟨_, h⟩
  case ref n =>
    rcases hd with h | h
    · exact .inl ⟨_, h⟩
    · exact .inr (.inl ⟨_, h⟩)
theorem fld_wd {m : Nat} : ∀ {x : Fld}, FldSm0 m x → Wd 4 (fldD x)
  | .v x, _ => (val_wd x).up (by decide)
  | .V xs, h => (Wd.tup (n := 1) (by rw [List.length_map]; have := h.1; omega) fun d hd => by
    obtain ⟨x, _, rfl⟩ := List.mem_map.mp hd
    exact val_wd x).up (by decide)
  | .W ps, h => (Wd.tup (n := 2) (by rw [List.length_map]; have := h.1; omega) fun d hd => by
    obtain ⟨x, _, rfl⟩ := List.mem_map.mp hd
    refine .tup (by simp) fun e he => ?_
    rcases List.mem_cons.mp he with rfl | he
    · exact val_wd _
    · rw [List.mem_singleton.mp he]; exact val_wd _).up (by decide)
  | .X ps, h => (Wd.tup (n := 2) (by rw [List.length_map]; have := h.1; omega) fun d hd => by
    obtain ⟨x, _, rfl⟩ := List.mem_map.mp hd
    refine .tup (by simp) fun e he => ?_
    rcases List.mem_cons.mp he with rfl | he
    · exact .str _
    · rw [List.mem_singleton.mp he]; exact val_wd _).up (by decide)
  | .t d, h => (tree_wd h).up (by decide)
  | .a k, _ => .int _
  | .b k, _ => .int _
  | .n i, _ => .int _
  | .x js, _ => .str _
  | .s0, _ => (Wd.tup (n := 0) (by simp) fun d hd => by cases hd).up (by decide)
  | .s1 z, _ => (Wd.tup (n := 0) (by simp) fun d hd => by rw [List.mem_singleton.mp hd]; exact .str _).up (by decide)
  | .s2 z x, _ => (Wd.tup (n := 1) (by simp) fun d hd => by
    rcases List.mem_cons.mp hd with rfl | hd
    · exact .str _
    · rw [List.mem_singleton.mp hd]; exact val_wd _).up (by decide)
/-- the numbers of a row of fields -/
inductive FldsE : List Fld → List Nat → Prop
  | nil : FldsE [] []
  | cons {x : Fld} {xs : List Fld} {a b : List Nat} : FldE x a → a.length ≤ 10000 → FldsE xs b → FldsE (x :: xs) (a ++ b)
theorem flds_e {m : Nat} (hm : m ≤ 10 ^ 6) : ∀ {xs : List Fld}, (∀ x ∈ xs, FldSm0 m x) → ∃ ns, FldsE xs ns ∧ ns.length ≤ xs.length * 10000
  | [], _ => ⟨[], .nil, by simp⟩
  | x :: xs, h => by
    obtain ⟨a, h1, h2⟩ := fld_e hm (h x (by simp))
    obtain ⟨b, h3, h4⟩ := flds_e hm (xs := xs) fun y hy => h y (List.mem_cons_of_mem _ hy)
    refine ⟨a ++ b, .cons h1 h2 h3, ?_⟩
    rw [List.length_append, List.length_cons, Nat.succ_mul]
    omega
/-- what is written up to the i-th field -/
theorem FldsE.at : ∀ {xs : List Fld} {ns : List Nat}, FldsE xs ns → ∃ ls : List (List Nat), ls.length = xs.length ∧ ns = ls.flatten ∧ (∀ (i : Nat) (x : Fld) (l : List Nat), xs[i]? = some x → ls[i]? = some l → FldE x l) ∧ ∀ l ∈ ls, l.length ≤ 10000
  | _, _, .nil => ⟨[], rfl, rfl, fun i x l h => by simp at h, by simp⟩
  | _, _, .cons (a := a) h1 h2 t => by
    obtain ⟨ls, e1, e2, e3, e4⟩ := FldsE.at t
    refine ⟨a :: ls, by simp [e1], by rw [List.flatten_cons, e2], fun i x l hx hl => ?_, fun l hl => ?_⟩
    · cases i with
      | zero =>
        obtain rfl := Option.some.inj hx
        obtain rfl := Option.some.inj hl
        exact h1
      | succ i => exact e3 i x l (by simpa using hx) (by simpa using hl)
    · rcases List.mem_cons.mp hl with rfl | hl
      · exact h2
      · exact e4 l hl
theorem tx_ok {js : List Nat} (h : ∀ j ∈ js, j < 95) : PyData.canLay0 (.str (tx js)) = true := by
  have hc : ∀ j < 95, ch j < 1114112 := by decide +kernel
  show PyData.strOk (tx js) = true
  unfold PyData.strOk tx S
  rw [List.all_toArray, List.all_eq_true]
  intro c hcm
  obtain ⟨j, hj, rfl⟩ := List.mem_map.mp hcm
  exact decide_eq_true (hc j (h j hj))
theorem val_lay {x : Val} (h : ValSm0 x) : PyData.canLay0 (valD x) = true := by
  have w : ∀ z ∈ ([("none" : Str), "bool", "int", "text", "span", "built", "host", "ref"] : List Str), PyData.canLay0 (.str z) = true := by decide +kernel
  cases x with
  | none => simp only [valD, PyData.canLay0, PyData.canLayAll0]; have := w "none" (by simp); simp only [PyData.canLay0] at this; rw [this]; rfl
  | bool b => simp only [valD, PyData.canLay0, PyData.canLayAll0]; have := w "bool" (by simp); simp only [PyData.canLay0] at this; rw [this]; rfl
  | int i => simp only [valD, PyData.canLay0, PyData.canLayAll0]; have := w "int" (by simp); simp only [PyData.canLay0] at this; rw [this]; rfl
  | text js => simp only [valD, PyData.canLay0, PyData.canLayAll0]; have := w "text" (by simp); have t := tx_ok h.lt; simp only [PyData.canLay0] at this t; rw [this, t]; rfl
  | span a b => simp only [valD, PyData.canLay0, PyData.canLayAll0]; have := w "span" (by simp); simp only [PyData.canLay0] at this; rw [this]; rfl
  | built js => simp only [valD, PyData.canLay0, PyData.canLayAll0]; have := w "built" (by simp); have t := tx_ok h.lt; simp only [PyData.canLay0] at this t; rw [this, t]; rfl
  | host js => simp only [valD, PyData.canLay0, PyData.canLayAll0]; have := w "host" (by simp); have t := tx_ok h.lt; simp only [PyData.canLay0] at this t; rw [this, t]; rfl
  | ref n => simp only [valD, PyData.canLay0, PyData.canLayAll0]; have := w "ref" (by simp); simp only [PyData.canLay0] at this; rw [this]; rfl
theorem val_dep (x : Val) : (valD x).depth ≤ 1 := by cases x <;> simp [valD, PyData.depth, PyData.depthAll]
end

section
--SPLIT
end
section
variable {P : Program} {w : World} {K : PySem.W.Frag} {mg : Str → Option Value} {base : Heap}
/-! fields that hold frames -/
def FrE (f : Fr) (ln : List Nat) : Prop := ∃ j fn, frTab[j]? = some (f.kd, f.fs.map ltr) ∧ FldsE f.fs fn ∧ ln = cnt j ++ fn
def FldE2 : Fl2 → List Nat → Prop
  | .one x, ns => FldE x ns
  | .fr l, ns => ∃ lss : List (List Nat), lss.length = l.length ∧ ns = cnt l.length ++ lss.flatten ∧ (∀ (i : Nat) (f : Fr) (ln : List Nat), l[i]? = some f → lss[i]? = some ln → FrE f ln) ∧ ∀ ln ∈ lss, ln.length ≤ 100100
theorem fr_e {m : Nat} (hm : m ≤ 10 ^ 6) {f : Fr} (h : FrSm0 m f) : ∃ ln, FrE f ln ∧ ln.length ≤ 100100 := by
  obtain ⟨j, hj, e⟩ := List.mem_iff_getElem.mp h.1
  obtain ⟨fn, h1, h2⟩ := flds_e hm h.2
  have hok := (frTab_ok _ h.1).2
  have hfl : f.fs.length ≤ 10 := by simpa using hok
  have hj60 : j < 60 := by rw [← fr_len.2]; exact hj
  have hc := cnt_b (n := j) (by omega)
  refine ⟨cnt j ++ fn, ⟨j, fn, by rw [List.getElem?_eq_getElem hj, e], h1, rfl⟩, ?_⟩
  have := Nat.mul_le_mul_right 10000 hfl
  rw [List.length_append]
  omega
/-- at most so many numbers -/
def mx2 : Fl2 → Nat
  | .one _ => 10000
  | .fr _ => 300000
theorem mx2_le (x : Fl2) : mx2 x ≤ 300000 := by cases x <;> simp [mx2]
theorem mx2_ltr (x : Fl2) : mx2 x = if ltr2 x = 70 then 300000 else 10000 := by
  cases x with
  | one y => cases y <;> rfl
  | fr l => rfl
theorem fl2_e {m : Nat} (hm : m ≤ 10 ^ 6) : ∀ {x : Fl2}, Fl2Sm0 m x → ∃ ns, FldE2 x ns ∧ ns.length ≤ mx2 x
  | .one x, h => by
    obtain ⟨ns, h1, h2⟩ := fld_e hm h
    exact ⟨ns, h1, h2⟩
  | .fr l, h => by
    obtain ⟨lss, h1, h2⟩ := all_ex (R := fun f (ln : List Nat) => FrE f ln ∧ ln.length ≤ 100100) fun f hf => fr_e hm (h.2 f hf)
    have h3 : ∀ ln ∈ lss, ln.length ≤ 100100 := fun ln hl => by
      obtain ⟨i, hi, e⟩ := List.mem_iff_getElem.mp hl
      have hd : l[i]? = some (l[i]'(by omega)) := List.getElem?_eq_getElem (by omega)
      exact (h2 i _ ln hd (by rw [List.getElem?_eq_getElem hi, e])).2
    refine ⟨_, ⟨lss, h1, rfl, fun i f ln hf hl => (h2 i f ln hf hl).1, h3⟩, ?_⟩
    have hf := flat_le h3
    have hl2 : l.length ≤ 2 := h.1
    have hc := cnt_small (n := l.length) (by omega)
    have := Nat.mul_le_mul_right 100100 (show lss.length ≤ 2 by omega)
    rw [List.length_append]
    show _ ≤ 300000
    omega
theorem fr_wd {m : Nat} {f : Fr} (h : FrSm0 m f) : Wd 5 (frD f) := by
  have hok := (frTab_ok _ h.1).2
  have hfl : f.fs.length ≤ 10 := by simpa using hok
  refine .tup (by rw [List.length_cons, List.length_map]; omega) fun d hd => ?_
  rcases List.mem_cons.mp hd with rfl | hd
  · exact .str _
  · obtain ⟨x, hx, rfl⟩ := List.mem_map.mp hd
    exact fld_wd (h.2 x hx)
theorem fl2_wd {m : Nat} : ∀ {x : Fl2}, Fl2Sm0 m x → Wd 6 (fl2D x)
  | .one x, h => (fld_wd h).up (by decide)
  | .fr l, h => .tup (by rw [List.length_map]; have := h.1; omega) fun d hd => by
    obtain ⟨f, hf, rfl⟩ := List.mem_map.mp hd
    exact fr_wd (h.2 f hf)
inductive FldsE2 : List Fl2 → List Nat → Prop
  | nil : FldsE2 [] []
  | cons {x : Fl2} {xs : List Fl2} {a b : List Nat} : FldE2 x a → a.length ≤ mx2 x → FldsE2 xs b → FldsE2 (x :: xs) (a ++ b)
theorem flds2_e {m : Nat} (hm : m ≤ 10 ^ 6) : ∀ {xs : List Fl2}, (∀ x ∈ xs, Fl2Sm0 m x) → ∃ ns, FldsE2 xs ns ∧ ns.length ≤ (xs.map mx2).sum
  | [], _ => ⟨[], .nil, by simp⟩
  | x :: xs, h => by
    obtain ⟨a, h1, h2⟩ := fl2_e hm (h x (by simp))
    obtain ⟨b, h3, h4⟩ := flds2_e hm (xs := xs) fun y hy => h y (List.mem_cons_of_mem _ hy)
    refine ⟨a ++ b, .cons h1 h2 h3, ?_⟩
    rw [List.length_append, List.map_cons, List.sum_cons]
    omega
theorem FldsE2.at : ∀ {xs : List Fl2} {ns : List Nat}, FldsE2 xs ns → ∃ ls : List (List Nat), ls.length = xs.length ∧ ns = ls.flatten ∧ (∀ (i : Nat) (x : Fl2) (l : List Nat), xs[i]? = some x → ls[i]? = some l → FldE2 x l) ∧ ∀ l ∈ ls, l.length ≤ 300000
  | _, _, .nil => ⟨[], rfl, rfl, fun i x l h => by simp at h, by simp⟩
  | _, _, .cons (a := a) h1 h2 t => by
    obtain ⟨ls, e1, e2, e3, e4⟩ := FldsE2.at t
    refine ⟨a :: ls, by simp [e1], by rw [List.flatten_cons, e2], fun i x l hx hl => ?_, fun l hl => ?_⟩
    · cases i with
      | zero =>
        obtain rfl := Option.some.inj hx
        obtain rfl := Option.some.inj hl
        exact h1
      | succ i => exact e3 i x l (by simpa using hx) (by simpa using hl)
    · rcases List.mem_cons.mp hl with rfl | hl
      · exact Nat.le_trans h2 (mx2_le _)
      · exact e4 l hl
theorem take_flat (ls : List (List Nat)) (j : Nat) : (ls.take j).flatten.length ≤ ls.flatten.length := by
  have := congrArg (fun z => z.flatten.length) (List.take_append_drop j ls)
  simp only [List.flatten_append, List.length_append] at this
  omega
theorem ltr2_one (x : Fl2) (h : ltr2 x ≠ 70) : ∃ y, x = .one y := by
  cases x with
  | one y => exact ⟨y, rfl⟩
  | fr l => exact absurd rfl h
theorem obTab_n : obTab.length = 10 := by decide +kernel
theorem coTab_n : coTab.length = 10 := by decide +kernel
theorem objects_keys : objectsL.map (·.1) = obTab.map (·.1) := by decide +kernel
theorem objects_nd : (objectsL.map (·.1)).Nodup := by decide +kernel
theorem controls_keys : controlsL.map (·.1) = coTab.map (·.1) := by decide +kernel
theorem controls_nd : (controlsL.map (·.1)).Nodup := by decide +kernel
theorem obTab_sum : ∀ t ∈ obTab, (t.2.map fun c => if c = 70 then 300000 else 10000).sum ≤ 400000 := by decide +kernel
theorem ob_sum {kd : Str} {fs : List Fl2} (h : (kd, fs.map ltr2) ∈ obTab) : (fs.map mx2).sum ≤ 400000 := by
  have := obTab_sum _ h
  rw [List.map_map] at this
  have e : fs.map mx2 = fs.map ((fun c => if c = 70 then 300000 else 10000) ∘ ltr2) := List.map_congr_left fun x _ => mx2_ltr x
  rw [e]
  exact this
end

abbrev s_write_values : Stmt := top 18
abbrev N_write_values : List Str := ["values", "numbers", "value"]
abbrev P_write_values : List Str := ["values"]
theorem sc_write_values : FnScope N_write_values P_write_values (defScope s_write_values) := ⟨rfl, rfl, rfl, by decide +kernel, rfl, by decide +kernel, by decide +kernel⟩
abbrev s_write_pairs : Stmt := top 19
abbrev N_write_pairs : List Str := ["pairs", "numbers", "one", "other"]
abbrev P_write_pairs : List Str := ["pairs"]
theorem sc_write_pairs : FnScope N_write_pairs P_write_pairs (defScope s_write_pairs) := ⟨rfl, rfl, rfl, by decide +kernel, rfl, by decide +kernel, by decide +kernel⟩
abbrev s_write_named : Stmt := top 20
abbrev N_write_named : List Str := ["pairs", "numbers", "name", "value"]
abbrev P_write_named : List Str := ["pairs"]
theorem sc_write_named : FnScope N_write_named P_write_named (defScope s_write_named) := ⟨rfl, rfl, rfl, by decide +kernel, rfl, by decide +kernel, by decide +kernel⟩
abbrev s_write_number_or_none : Stmt := top 21
abbrev N_write_number_or_none : List Str := ["k"]
abbrev P_write_number_or_none : List Str := ["k"]
theorem sc_write_number_or_none : FnScope N_write_number_or_none P_write_number_or_none (defScope s_write_number_or_none) := ⟨rfl, rfl, rfl, by decide +kernel, rfl, by decide +kernel, by decide +kernel⟩
abbrev s_write_signal : Stmt := top 22
abbrev N_write_signal : List Str := ["signal", "numbers", "value"]
abbrev P_write_signal : List Str := ["signal"]
theorem sc_write_signal : FnScope N_write_signal P_write_signal (defScope s_write_signal) := ⟨rfl, rfl, rfl, by decide +kernel, rfl, by decide +kernel, by decide +kernel⟩
abbrev s_written_fields : Stmt := top 17
abbrev N_written_fields : List Str := ["letters", "item", "numbers", "letter", "field", "action"]
abbrev P_written_fields : List Str := ["letters", "item"]
theorem sc_written_fields : FnScope N_written_fields P_written_fields (defScope s_written_fields) := ⟨rfl, rfl, rfl, by decide +kernel, rfl, by decide +kernel, by decide +kernel⟩
section
variable {P : Program} {w : World} {K : PySem.W.Frag} {mg : Str → Option Value} {base : Heap}
def snum : List (Str × V) := [("break", V.int 1), ("continue", V.int 2), ("return", V.int 3), ("raise", V.int 4)]
/-- the list nl is made longer by what stands in l -/
theorem ext_ok {H1 : Hp} {nl l : Addr} {a b : List Nat} {R : Hp → Prop} (e1 : H1 nl = some (.lst (nV a))) (e2 : H1 l = some (.lst (nV b))) (hl : a.length + b.length ≤ 900000) (kk : ∀ H2, H2 nl = some (.lst (nV (a ++ b))) → (∀ q o, H1 q = some o → q ≠ nl → H2 q = some o) → KeepT K H1 H2 → R H2) :
    rExtend (.ref nl) [.ref l] H1 (fun _ H2 => R H2) := ⟨_, _, _, _, rfl, rfl, e1, e2, by rw [nV_len, nV_len]; exact Nat.le_trans hl (by decide), kk _ (by rw [upd_same, nV_app]) (fun q o e hq => by rw [upd_ne hq]; exact e) (KeepT.upd e1)⟩
theorem take_fm {α : Type} {g : α → List Nat} {xs : List α} {i : Nat} {x : α} (h : xs[i]? = some x) : (xs.take (i + 1)).flatMap g = (xs.take i).flatMap g ++ g x := by
  rw [List.take_succ, h, List.flatMap_append]
  simp
def spWVs (K : PySem.W.Frag) : Sp := fun vs H Q _ => ∃ (v : V) (xs : List Val), vs = [v] ∧ Dt K H v (.tuple (xs.map valD)) ∧ xs.length ≤ 1000 ∧ (∀ x ∈ xs, ValSm0 x) ∧ ∀ l H', H l = none → Same H H' → H' l = some (.lst (nV (cnt xs.length ++ xs.flatMap enc))) → Q (.ref l) H'
theorem ok_wvalues {f : Addr} {fd : FuncData} (F : Fun K "_write_values" "_write_values" s_write_values f fd) (T : Txt K mg) (U_write_count : Use P w K mg base CX0 "write_count" 1 P_write_count (spCount K)) (U_write_value : Use P w K mg base CX0 "write_value" 3 P_write_value (spWVal K)) : FnG P w K mg base CX0 4 f fd P_write_values (spWVs K) := by
  refine okG0 F sc_write_values (fun vs H Q E h => ?_) fun cdv A outer s H vs Q E hr hg h => ?_
  · obtain ⟨v, xs, rfl, _⟩ := h
    rfl
  · obtain ⟨v, xs, rfl, dv, hx, hsm, k⟩ := h
    refine ⟨_, (pss_cons (ps_set (i := 1) sc_write_values.nd rfl (Or.inl rfl) (pe_use U_write_count (hr.mono (by decide)) hg rfl (pa_cons (pe_callB call_len (by rfl) T.b_len PySem.boot_len (pa_cons (pv 0) pa_nil)) pa_nil)))
  (pss_cons (ps_for PassesOwn.never rfl (pi_tup (pv 0)) (pg_name (i := 2) sc_write_values.nd rfl (Or.inl rfl))
   (pss_one (ps_expr (pe_bm PySem.F.plainAttrs_list PySem.F.slot_list_extend PySem.F.type_list_extend mt_extend (pv 1) (pa_cons (pe_use U_write_value (hr.mono (by decide)) hg rfl (pa_cons (pv 2) pa_nil)) pa_nil)))))
  (pss_one (ps_ret (pv 1))))), ?_⟩
    obtain ⟨q, ws, rfl, hq, ax⟩ := dv.tuple_inv
    have lx := ax.length
    rw [List.length_map] at lx
    refine ⟨_, rfl, _, _, rfl, .inr ⟨_, hq, rfl⟩, ws.length, rfl, Nat.lt_of_le_of_lt (show ws.length ≤ 1000 by omega) (by decide +kernel), fun nl H1 hnl S1 e1 => ?_⟩
    have hc := cnt_small hx
    refine ⟨_, rfl, q, rfl, ⟨_, Same.tupl S1 hq⟩, ?_⟩
    refine for_tup (xs := ws) (fun i σ H5 => ∃ x2, σ = [some (.ref q), some (.ref nl), x2] ∧ Same H H5 ∧ H5 nl = some (.lst (nV (cnt xs.length ++ (xs.take i).flatMap enc)))) ⟨none, rfl, S1, by rw [e1, lx]; simp⟩ ?_ ?_ ?_
    · rintro i σ H5 _ ⟨x2, rfl, S5, _⟩
      exact Same.tupl S5 hq
    · rintro i y σ H5 hy ⟨x2, rfl, S5, e5⟩
      obtain ⟨d, hd, dy⟩ := (ax.mono S5).getV hy
      rw [List.getElem?_map] at hd
      obtain ⟨x, hxi, rfl⟩ := Option.map_eq_some_iff.mp hd
      have hxm := hsm x (List.mem_of_getElem? hxi)
      have hle := sm_len hxm
      have hfl := fm_le (b := 100) (g := enc) (xs := xs.take i) fun z hz => sm_len (hsm z (List.mem_of_mem_take hz))
      have htl : (xs.take i).length ≤ 1000 := by rw [List.length_take]; omega
      refine ⟨_, rfl, .inl ⟨rfl, _, SqL.of e5⟩, _, rfl, y, x, rfl, dy, hxm.ok, fun l H6 _ S6 e6 => ?_⟩
      refine ext_ok (K := K) (S6 _ _ e5) e6 (by rw [List.length_append]; omega) fun H7 e7 kp _ => ⟨some y, rfl, fun b o e => kp _ _ (S6 _ _ (S5 _ _ e)) (ne_of_none e hnl), ?_⟩
      rw [e7, take_fm hxi, List.append_assoc]
    · rintro σ H5 ⟨x2, rfl, S5, e5⟩
      rw [lx, List.take_length] at e5
      exact ⟨_, rfl, k nl H5 hnl S5 e5⟩
def spWPs (K : PySem.W.Frag) : Sp := fun vs H Q _ => ∃ (v : V) (xs : List (Val × Val)), vs = [v] ∧ Dt K H v (.tuple (xs.map fun p => .tuple [valD p.1, valD p.2])) ∧ xs.length ≤ 1000 ∧ (∀ x ∈ xs, ValSm0 x.1 ∧ ValSm0 x.2) ∧ ∀ l H', H l = none → Same H H' → H' l = some (.lst (nV (cnt xs.length ++ xs.flatMap fun p => enc p.1 ++ enc p.2))) → Q (.ref l) H'
theorem ok_wpairs {f : Addr} {fd : FuncData} (F : Fun K "_write_pairs" "_write_pairs" s_write_pairs f fd) (T : Txt K mg) (U_write_count : Use P w K mg base CX0 "write_count" 1 P_write_count (spCount K)) (U_write_value : Use P w K mg base CX0 "write_value" 3 P_write_value (spWVal K)) : FnG P w K mg base CX0 4 f fd P_write_pairs (spWPs K) := by
  refine okG0 F sc_write_pairs (fun vs H Q E h => ?_) fun cdv A outer s H vs Q E hr hg h => ?_
  · obtain ⟨v, xs, rfl, _⟩ := h
    rfl
  · obtain ⟨v, xs, rfl, dv, hx, hsm, k⟩ := h
    refine ⟨_, (pss_cons (ps_set (i := 1) sc_write_pairs.nd rfl (Or.inl rfl) (pe_use U_write_count (hr.mono (by decide)) hg rfl (pa_cons (pe_callB call_len (by rfl) T.b_len PySem.boot_len (pa_cons (pv 0) pa_nil)) pa_nil)))
  (pss_cons (ps_for PassesOwn.never rfl (pi_tup (pv 0)) (pg_tup (by rfl) (pgs_cons (pg_name (i := 2) sc_write_pairs.nd rfl (Or.inl rfl)) (pgs_cons (pg_name (i := 3) sc_write_pairs.nd rfl (Or.inl rfl)) pgs_nil)))
   (pss_cons (ps_expr (pe_bm PySem.F.plainAttrs_list PySem.F.slot_list_extend PySem.F.type_list_extend mt_extend (pv 1) (pa_cons (pe_use U_write_value (hr.mono (by decide)) hg rfl (pa_cons (pv 2) pa_nil)) pa_nil)))
  (pss_one (ps_expr (pe_bm PySem.F.plainAttrs_list PySem.F.slot_list_extend PySem.F.type_list_extend mt_extend (pv 1) (pa_cons (pe_use U_write_value (hr.mono (by decide)) hg rfl (pa_cons (pv 3) pa_nil)) pa_nil))))))
  (pss_one (ps_ret (pv 1))))), ?_⟩
    obtain ⟨q, ws, rfl, hq, ax⟩ := dv.tuple_inv
    have lx := ax.length
    rw [List.length_map] at lx
    refine ⟨_, rfl, _, _, rfl, .inr ⟨_, hq, rfl⟩, ws.length, rfl, Nat.lt_of_le_of_lt (show ws.length ≤ 1000 by omega) (by decide +kernel), fun nl H1 hnl S1 e1 => ?_⟩
    have hc := cnt_small hx
    refine ⟨_, rfl, q, rfl, ⟨_, Same.tupl S1 hq⟩, ?_⟩
    refine for_tup (xs := ws) (fun i σ H5 => ∃ x2 x3, σ = [some (.ref q), some (.ref nl), x2, x3] ∧ Same H H5 ∧ H5 nl = some (.lst (nV (cnt xs.length ++ (xs.take i).flatMap fun p => enc p.1 ++ enc p.2)))) ⟨none, none, rfl, S1, by rw [e1, lx]; simp⟩ ?_ ?_ ?_
    · rintro i σ H5 _ ⟨x2, x3, rfl, S5, _⟩
      exact Same.tupl S5 hq
    · rintro i y σ H5 hy ⟨x2, x3, rfl, S5, e5⟩
      obtain ⟨d, hd, dy⟩ := (ax.mono S5).getV hy
      rw [List.getElem?_map] at hd
      obtain ⟨x, hxi, rfl⟩ := Option.map_eq_some_iff.mp hd
      have hxm := hsm x (List.mem_of_getElem? hxi)
      have hle1 := sm_len hxm.1
      have hle2 := sm_len hxm.2
      have hfl := fm_le (b := 200) (g := fun p : Val × Val => enc p.1 ++ enc p.2) (xs := xs.take i) fun z hz => by
        have := hsm z (List.mem_of_mem_take hz)
        have a := sm_len this.1
        have b := sm_len this.2
        rw [List.length_append]; omega
      have htl : (xs.take i).length ≤ 1000 := by rw [List.length_take]; omega
      obtain ⟨t, ys, rfl, ht, ay⟩ := dy.tuple_inv
      obtain ⟨a, ys, rfl, da, ay⟩ := DtAll.cons_inv ay
      obtain ⟨b, ys, rfl, db, ay⟩ := DtAll.cons_inv ay
      obtain rfl := ay.nil_inv
      refine ⟨t, _, rfl, ht, rfl, _, _, rfl, _, _, rfl, rfl, ?_⟩
      refine ⟨_, rfl, .inl ⟨rfl, _, SqL.of e5⟩, _, rfl, a, x.1, rfl, da, hxm.1.ok, fun l H6 _ S6 e6 => ?_⟩
      refine ext_ok (K := K) (S6 _ _ e5) e6 (by rw [List.length_append]; omega) fun H7 e7 kp kt => ?_
      have db7 := (db.mono S6).keepT kt
      refine ⟨_, rfl, .inl ⟨rfl, _, SqL.of e7⟩, _, rfl, b, x.2, rfl, db7, hxm.2.ok, fun l H8 _ S8 e8 => ?_⟩
      refine ext_ok (K := K) (S8 _ _ e7) e8 (by rw [List.length_append, List.length_append]; omega) fun H9 e9 kp9 _ => ⟨_, _, rfl, fun c o e => kp9 _ _ (S8 _ _ (kp _ _ (S6 _ _ (S5 _ _ e)) (ne_of_none e hnl))) (ne_of_none e hnl), ?_⟩
      rw [e9, take_fm hxi]
      simp only [List.append_assoc]
    · rintro σ H5 ⟨x2, x3, rfl, S5, e5⟩
      rw [lx, List.take_length] at e5
      exact ⟨_, rfl, k nl H5 hnl S5 e5⟩
def spWNs (K : PySem.W.Frag) : Sp := fun vs H Q _ => ∃ (v : V) (xs : List (List Nat × Val)), vs = [v] ∧ Dt K H v (.tuple (xs.map fun p => .tuple [.str (tx p.1), valD p.2])) ∧ xs.length ≤ 1000 ∧ (∀ x ∈ xs, TxSm x.1 ∧ ValSm0 x.2) ∧ ∀ l H', H l = none → Same H H' → H' l = some (.lst (nV (cnt xs.length ++ xs.flatMap fun p => strN p.1 ++ enc p.2))) → Q (.ref l) H'
theorem ok_wnamed {f : Addr} {fd : FuncData} (F : Fun K "_write_named" "_write_named" s_write_named f fd) (T : Txt K mg) (U_write_count : Use P w K mg base CX0 "write_count" 1 P_write_count (spCount K)) (U_write_string : Use P w K mg base CX0 "write_string" 2 P_write_string (spWStr K)) (U_write_value : Use P w K mg base CX0 "write_value" 3 P_write_value (spWVal K)) : FnG P w K mg base CX0 4 f fd P_write_named (spWNs K) := by
  refine okG0 F sc_write_named (fun vs H Q E h => ?_) fun cdv A outer s H vs Q E hr hg h => ?_
  · obtain ⟨v, xs, rfl, _⟩ := h
    rfl
  · obtain ⟨v, xs, rfl, dv, hx, hsm, k⟩ := h
    refine ⟨_, (pss_cons (ps_set (i := 1) sc_write_named.nd rfl (Or.inl rfl) (pe_use U_write_count (hr.mono (by decide)) hg rfl (pa_cons (pe_callB call_len (by rfl) T.b_len PySem.boot_len (pa_cons (pv 0) pa_nil)) pa_nil)))
  (pss_cons (ps_for PassesOwn.never rfl (pi_tup (pv 0)) (pg_tup (by rfl) (pgs_cons (pg_name (i := 2) sc_write_named.nd rfl (Or.inl rfl)) (pgs_cons (pg_name (i := 3) sc_write_named.nd rfl (Or.inl rfl)) pgs_nil)))
   (pss_cons (ps_expr (pe_bm PySem.F.plainAttrs_list PySem.F.slot_list_extend PySem.F.type_list_extend mt_extend (pv 1) (pa_cons (pe_use U_write_string (hr.mono (by decide)) hg rfl (pa_cons (pv 2) pa_nil)) pa_nil)))
  (pss_one (ps_expr (pe_bm PySem.F.plainAttrs_list PySem.F.slot_list_extend PySem.F.type_list_extend mt_extend (pv 1) (pa_cons (pe_use U_write_value (hr.mono (by decide)) hg rfl (pa_cons (pv 3) pa_nil)) pa_nil))))))
  (pss_one (ps_ret (pv 1))))), ?_⟩
    obtain ⟨q, ws, rfl, hq, ax⟩ := dv.tuple_inv
    have lx := ax.length
    rw [List.length_map] at lx
    refine ⟨_, rfl, _, _, rfl, .inr ⟨_, hq, rfl⟩, ws.length, rfl, Nat.lt_of_le_of_lt (show ws.length ≤ 1000 by omega) (by decide +kernel), fun nl H1 hnl S1 e1 => ?_⟩
    have hc := cnt_small hx
    refine ⟨_, rfl, q, rfl, ⟨_, Same.tupl S1 hq⟩, ?_⟩
    refine for_tup (xs := ws) (fun i σ H5 => ∃ x2 x3, σ = [some (.ref q), some (.ref nl), x2, x3] ∧ Same H H5 ∧ H5 nl = some (.lst (nV (cnt xs.length ++ (xs.take i).flatMap fun p => strN p.1 ++ enc p.2)))) ⟨none, none, rfl, S1, by rw [e1, lx]; simp⟩ ?_ ?_ ?_
    · rintro i σ H5 _ ⟨x2, x3, rfl, S5, _⟩
      exact Same.tupl S5 hq
    · rintro i y σ H5 hy ⟨x2, x3, rfl, S5, e5⟩
      obtain ⟨d, hd, dy⟩ := (ax.mono S5).getV hy
      rw [List.getElem?_map] at hd
      obtain ⟨x, hxi, rfl⟩ := Option.map_eq_some_iff.mp hd
      have hxm := hsm x (List.mem_of_getElem? hxi)
      have hle1 := tx_len2 hxm.1
      have hle2 := sm_len hxm.2
      have hfl := fm_le (b := 200) (g := fun p : List Nat × Val => strN p.1 ++ enc p.2) (xs := xs.take i) fun z hz => by
        have := hsm z (List.mem_of_mem_take hz)
        have a := tx_len2 this.1
        have b := sm_len this.2
        rw [List.length_append]; omega
      have htl : (xs.take i).length ≤ 1000 := by rw [List.length_take]; omega
      obtain ⟨t, ys, rfl, ht, ay⟩ := dy.tuple_inv
      obtain ⟨a, ys, rfl, da, ay⟩ := DtAll.cons_inv ay
      obtain ⟨b, ys, rfl, db, ay⟩ := DtAll.cons_inv ay
      obtain rfl := ay.nil_inv
      cases da.str_inv
      refine ⟨t, _, rfl, ht, rfl, _, _, rfl, _, _, rfl, rfl, ?_⟩
      refine ⟨_, rfl, .inl ⟨rfl, _, SqL.of e5⟩, _, rfl, x.1, rfl, Nat.le_trans hxm.1.len (by decide), hxm.1.lt, fun l H6 _ S6 e6 => ?_⟩
      refine ext_ok (K := K) (S6 _ _ e5) e6 (by rw [List.length_append]; omega) fun H7 e7 kp kt => ?_
      have db7 := (db.mono S6).keepT kt
      refine ⟨_, rfl, .inl ⟨rfl, _, SqL.of e7⟩, _, rfl, b, x.2, rfl, db7, hxm.2.ok, fun l H8 _ S8 e8 => ?_⟩
      refine ext_ok (K := K) (S8 _ _ e7) e8 (by rw [List.length_append, List.length_append]; omega) fun H9 e9 kp9 _ => ⟨_, _, rfl, fun c o e => kp9 _ _ (S8 _ _ (kp _ _ (S6 _ _ (S5 _ _ e)) (ne_of_none e hnl))) (ne_of_none e hnl), ?_⟩
      rw [e9, take_fm hxi]
      simp only [List.append_assoc]
    · rintro σ H5 ⟨x2, x3, rfl, S5, e5⟩
      rw [lx, List.take_length] at e5
      exact ⟨_, rfl, k nl H5 hnl S5 e5⟩
def spWNon (K : PySem.W.Frag) : Sp := fun vs H Q _ => ∃ (i : Int), vs = [.int i] ∧ -1 ≤ i ∧ i < 10 ^ 7 ∧ ∀ l H', H l = none → Same H H' → H' l = some (.lst (nV (cnt (i + 1).toNat))) → Q (.ref l) H'
theorem ok_wnon {f : Addr} {fd : FuncData} (F : Fun K "_write_number_or_none" "_write_number_or_none" s_write_number_or_none f fd) (T : Txt K mg) (U_write_count : Use P w K mg base CX0 "write_count" 1 P_write_count (spCount K)) : FnG P w K mg base CX0 2 f fd P_write_number_or_none (spWNon K) := by
  refine okG0 F sc_write_number_or_none (fun vs H Q E h => ?_) fun cdv A outer s H vs Q E hr hg h => ?_
  · obtain ⟨i, rfl, _⟩ := h
    rfl
  · obtain ⟨i, rfl, h0, h1, k⟩ := h
    refine ⟨_, (pss_one (ps_ret (pe_use U_write_count (hr.mono (by decide)) hg rfl (pa_cons (pe_op op_add (pv 0) pe_int) pa_nil)))), ?_⟩
    refine ⟨_, rfl, _, _, rfl, rfl, (i + 1).toNat, ?_, Nat.lt_of_le_of_lt (show (i + 1).toNat ≤ 10 ^ 7 by omega) (by decide +kernel), k⟩
    dsimp only
    rw [Int.toNat_of_nonneg (by omega)]
--SPLIT
theorem tail_no2 (x : V) (xs : List V) : ¬ HT.sIx (x :: xs).length 0 (some 1) = 0 := by
  rw [show (some (1 : Int)) = some ((1 : Nat) : Int) from rfl, HT.sIx_nat]
  simp
def spWSig (K : PySem.W.Frag) : Sp := fun vs H Q _ => ∃ (v : V) (x : Fld) (ns : List Nat) (m : Nat), vs = [v] ∧ Dt K H v (fldD x) ∧ ltr x = 115 ∧ FldSm0 m x ∧ FldE x ns ∧ ∀ l H', H l = none → Same H H' → H' l = some (.lst (nV ns)) → Q (.ref l) H'
theorem ok_wsig {f : Addr} {fd : FuncData} (F : Fun K "_write_signal" "_write_signal" s_write_signal f fd) (T : Txt K mg) (U_SIGNAL_NUMBERS : UseD P w K mg "SIGNAL_NUMBERS" (valKV snum)) (U_write_value : Use P w K mg base CX0 "write_value" 3 P_write_value (spWVal K)) : FnG P w K mg base CX0 4 f fd P_write_signal (spWSig K) := by
  obtain ⟨aD_SIGNAL_NUMBERS, gD_SIGNAL_NUMBERS, kD⟩ := U_SIGNAL_NUMBERS.ex
  refine okG0 F sc_write_signal (fun vs H Q E h => ?_) fun cdv A outer s H vs Q E hr hg h => ?_
  · obtain ⟨v, x, ns, m, rfl, _⟩ := h
    rfl
  · obtain ⟨v, x, ns, m, rfl, dv, hl, hsm, he, k⟩ := h
    refine ⟨_, (pss_cons (ps_if (pt_cmpR (op_eqD hr.units) (pv 0) (pe_tup pa_nil) (nomark _))
   (pss_one (ps_ret (pe_lst (pa_cons pe_int pa_nil))))
   pss_nil)
  (pss_cons (ps_set (i := 1) sc_write_signal.nd rfl (Or.inl rfl) (pe_lst (pa_cons (pe_dgetK (pe_glob (v := .ref aD_SIGNAL_NUMBERS) (by rfl) gD_SIGNAL_NUMBERS rfl) (pe_ix ix_tup (pv 0) pe_int (fun _ _ => rfl)) (fun _ _ => rfl)) pa_nil)))
  (pss_cons (ps_for PassesOwn.never rfl (pi_tup (pe_slice sl_tupA (pv 0) (po_some pe_int) po_none)) (pg_name (i := 2) sc_write_signal.nd rfl (Or.inl rfl))
   (pss_one (ps_expr (pe_bm PySem.F.plainAttrs_list PySem.F.slot_list_extend PySem.F.type_list_extend mt_extend (pv 1) (pa_cons (pe_use U_write_value (hr.mono (by decide)) hg rfl (pa_cons (pv 2) pa_nil)) pa_nil)))))
  (pss_one (ps_ret (pv 1)))))), ?_⟩
    cases x with
    | s0 =>
      have he : ns = [0] := he
      subst he
      refine ⟨_, rfl, sz_0, fun u hu => ?_⟩
      have S1 := Same.new (o := .tup []) hu
      refine ⟨_, _, (dv.mono S1).dp, (Dt.made hu .nil).dp, by decide +kernel, by decide +kernel, _, rfl, iteTb (by decide +kernel) ?_⟩
      exact ⟨sz_1, fun l hl => k l _ (none_same0 S1 hl) (S1.trans (Same.new hl)) upd_same⟩
    | s1 z =>
      obtain ⟨num, hnum, hz⟩ : ∃ num : Nat, ns = [num] ∧ ((z = "break" ∧ num = 1) ∨ (z = "continue" ∧ num = 2)) := by
        rcases (he : (z = "break" ∧ ns = [1]) ∨ (z = "continue" ∧ ns = [2])) with ⟨rfl, rfl⟩ | ⟨rfl, rfl⟩
        · exact ⟨1, rfl, .inl ⟨rfl, rfl⟩⟩
        · exact ⟨2, rfl, .inr ⟨rfl, rfl⟩⟩
      subst hnum
      refine ⟨_, rfl, sz_0, fun u hu => ?_⟩
      have S1 := Same.new (o := .tup []) hu
      have dv1 := dv.mono S1
      refine ⟨_, _, dv1.dp, (Dt.made hu .nil).dp, by rcases hz with ⟨rfl, _⟩ | ⟨rfl, _⟩ <;> decide +kernel, by decide +kernel, _, rfl, iteFb (by rcases hz with ⟨rfl, _⟩ | ⟨rfl, _⟩ <;> decide +kernel) ?_⟩
      obtain ⟨q, ws, rfl, hq, ax⟩ := dv1.head
      obtain rfl := ax.nil_inv
      generalize upd H u (.tup []) = H1 at S1 hq ⊢
      refine ⟨_, rfl, q, _, _, _, rfl, rfl, hq, at0, aD_SIGNAL_NUMBERS, _, Sum.inr z, .int (num : Int), rfl, kD, rfl, by rcases hz with ⟨rfl, rfl⟩ | ⟨rfl, rfl⟩ <;> decide +kernel, sz_1, fun nl hnl => ?_⟩
      have S2 := Same.new (o := .lst [.int (num : Int)]) hnl
      refine ⟨_, rfl, _, rfl, q, _, rfl, Same.tupl S2 hq, fun e => absurd e.1 (tail_no2 _ _), fun _ p hp => ?_⟩
      rw [cut_one]
      have S3 := Same.new (o := .tup []) hp
      refine ⟨p, rfl, ⟨_, SqT.of upd_same⟩, ?_⟩
      refine for_tup (xs := []) (fun i σ H5 => σ = [some (.ref q), some (.ref nl), none] ∧ H5 = upd (upd H1 nl (.lst [.int (num : Int)])) p (.tup [])) ⟨rfl, rfl⟩ ?_ ?_ ?_
      · rintro i σ H5 _ ⟨rfl, rfl⟩
        exact SqT.of upd_same
      · rintro i y σ H5 hy _
        simp at hy
      · rintro σ H5 ⟨rfl, rfl⟩
        exact ⟨_, rfl, k nl _ (none_same0 S1 hnl) ((S1.trans S2).trans S3) (S3 _ _ upd_same)⟩
    | s2 z x =>
      obtain ⟨num, hnum, hz⟩ : ∃ num : Nat, ns = num :: enc x ∧ ((z = "return" ∧ num = 3) ∨ (z = "raise" ∧ num = 4)) := by
        rcases (he : (z = "return" ∧ ns = 3 :: enc x) ∨ (z = "raise" ∧ ns = 4 :: enc x)) with ⟨rfl, rfl⟩ | ⟨rfl, rfl⟩
        · exact ⟨3, rfl, .inl ⟨rfl, rfl⟩⟩
        · exact ⟨4, rfl, .inr ⟨rfl, rfl⟩⟩
      subst hnum
      have hxs : ValSm0 x := hsm.2
      have hxl := sm_len hxs
      have shp : SeqAt.shaped (fldD (.s2 z x)) = true := by
        have h1 := val_lay hxs
        have h2 := val_dep x
        have h3 : PyData.canLay0 (.str z) = true := by rcases hz with ⟨rfl, _⟩ | ⟨rfl, _⟩ <;> decide +kernel
        unfold SeqAt.shaped
        rw [Bool.and_eq_true]
        refine ⟨?_, decide_eq_true ?_⟩
        · show PyData.canLayAll0 [.str z, valD x] = true
          simp only [PyData.canLayAll0, h1, h3]
          rfl
        · show PyData.depthAll [.str z, valD x] + 1 ≤ 64
          simp only [PyData.depthAll, PyData.depth]
          omega
      refine ⟨_, rfl, sz_0, fun u hu => ?_⟩
      have S1 := Same.new (o := .tup []) hu
      have dv1 := dv.mono S1
      refine ⟨_, _, dv1.dp, (Dt.made hu .nil).dp, shp, by decide +kernel, _, rfl, iteFb rfl ?_⟩
      obtain ⟨q, ws, rfl, hq, ax⟩ := dv1.head
      obtain ⟨y, ws, rfl, dy, ax⟩ := DtAll.cons_inv ax
      obtain rfl := ax.nil_inv
      generalize upd H u (.tup []) = H1 at S1 hq dy ⊢
      refine ⟨_, rfl, q, _, _, _, rfl, rfl, hq, at0, aD_SIGNAL_NUMBERS, _, Sum.inr z, .int (num : Int), rfl, kD, rfl, by rcases hz with ⟨rfl, rfl⟩ | ⟨rfl, rfl⟩ <;> decide +kernel, sz_1, fun nl hnl => ?_⟩
      have S2 := Same.new (o := .lst [.int (num : Int)]) hnl
      refine ⟨_, rfl, _, rfl, q, _, rfl, Same.tupl S2 hq, fun e => absurd e.1 (tail_no2 _ _), fun _ p hp => ?_⟩
      rw [cut_one]
      have S3 := Same.new (o := .tup [y]) hp
      refine ⟨p, rfl, ⟨_, SqT.of upd_same⟩, ?_⟩
      have en3 : (upd (upd H1 nl (.lst [.int (num : Int)])) p (.tup [y])) nl = some (.lst (nV [num])) := S3 _ _ upd_same
      have hp3 : SqT K (upd (upd H1 nl (.lst [.int (num : Int)])) p (.tup [y])) p [y] := SqT.of upd_same
      have dy3 := dy.mono (S2.trans S3)
      have S03 := S1.trans (S2.trans S3)
      have nl0 := none_same0 S1 hnl
      generalize upd (upd H1 nl (.lst [.int (num : Int)])) p (.tup [y]) = H3 at en3 hp3 dy3 S03 ⊢
      refine for_tup (xs := [y]) (fun i σ H5 => ∃ x2, σ = [some (.ref q), some (.ref nl), x2] ∧ SqT K H5 p [y] ∧ Dt K H5 y (valD x) ∧ Same H H5 ∧ H5 nl = some (.lst (nV (if i = 0 then [num] else num :: enc x)))) ⟨none, rfl, hp3, dy3, S03, en3⟩ ?_ ?_ ?_
      · rintro i σ H5 _ ⟨x2, rfl, h5, _⟩
        exact h5
      · rintro i y' σ H5 hy ⟨x2, rfl, h5, dy5, S5, e5⟩
        have hi : i = 0 := by
          have := (List.getElem?_eq_some_iff.mp hy).1
          simp at this
          exact this
        subst hi
        obtain rfl := Option.some.inj hy
        refine ⟨_, rfl, .inl ⟨rfl, _, SqL.of e5⟩, _, rfl, y, x, rfl, dy5, hxs.ok, fun l H6 _ S6 e6 => ?_⟩
        refine ext_ok (K := K) (S6 _ _ e5) e6 (by simp; omega) fun H7 e7 kp kt => ⟨_, rfl, kt _ _ (Same.tupl S6 h5), (dy5.mono S6).keepT kt, fun c o e => kp _ _ (S6 _ _ (S5 _ _ e)) (ne_of_none e nl0), e7⟩
      · rintro σ H5 ⟨x2, rfl, h5, dy5, S5, e5⟩
        exact ⟨_, rfl, k nl H5 nl0 S5 e5⟩
    | v x => cases hl
    | V xs => cases hl
    | W xs => cases hl
    | X xs => cases hl
    | t d => cases hl
    | a k => cases hl
    | b k => cases hl
    | n k => cases hl
    | x k => cases hl
--SPLIT
/-- a writer of fields with this letter -/
def spWF (K : PySem.W.Frag) (c : Nat) : Sp := fun vs H Q _ => ∃ (v : V) (x : Fld) (ns : List Nat) (m : Nat), vs = [v] ∧ Dt K H v (fldD x) ∧ ltr x = c ∧ FldSm0 m x ∧ m ≤ 10 ^ 6 ∧ FldE x ns ∧ ns.length ≤ 10000 ∧ ∀ l H', H l = none → Same H H' → H' l = some (.lst (nV ns)) → Q (.ref l) H'
theorem FnG.upw {CX : CXT} {j k : Nat} {f : Addr} {fd : FuncData} {ps : List Str} {sp : Sp} (F : FnG P w K mg base CX j f fd ps sp) (h : j ≤ k) : FnG P w K mg base CX k f fd ps sp where
  len := F.len
  run := fun A outer s H args us vs Q E hr hg he hb hv hs => F.run A outer s H args us vs Q E (hr.mono h) hg he hb hv hs
theorem wf_v (vs : List V) (H : Hp) (Q : VK) (E : XK) (h : spWF K 118 vs H Q E) : spWVal K vs H Q E := by
  obtain ⟨v, x, ns, m, rfl, dv, hl, sm, hm, he, hn, k⟩ := h
  cases x <;> try cases hl
  case v x => exact ⟨v, x, rfl, dv, ValSm0.ok sm, by rw [show ns = _ from he] at k; exact k⟩
theorem wf_V (vs : List V) (H : Hp) (Q : VK) (E : XK) (h : spWF K 86 vs H Q E) : spWVs K vs H Q E := by
  obtain ⟨v, x, ns, m, rfl, dv, hl, sm, hm, he, hn, k⟩ := h
  cases x <;> try cases hl
  case V xs => exact ⟨v, xs, rfl, dv, Nat.le_trans sm.1 (by decide), sm.2, by rw [show ns = _ from he] at k; exact k⟩
theorem wf_W (vs : List V) (H : Hp) (Q : VK) (E : XK) (h : spWF K 87 vs H Q E) : spWPs K vs H Q E := by
  obtain ⟨v, x, ns, m, rfl, dv, hl, sm, hm, he, hn, k⟩ := h
  cases x <;> try cases hl
  case W xs => exact ⟨v, xs, rfl, dv, Nat.le_trans sm.1 (by decide), sm.2, by rw [show ns = _ from he] at k; exact k⟩
theorem wf_X (vs : List V) (H : Hp) (Q : VK) (E : XK) (h : spWF K 88 vs H Q E) : spWNs K vs H Q E := by
  obtain ⟨v, x, ns, m, rfl, dv, hl, sm, hm, he, hn, k⟩ := h
  cases x <;> try cases hl
  case X xs => exact ⟨v, xs, rfl, dv, Nat.le_trans sm.1 (by decide), sm.2, by rw [show ns = _ from he] at k; exact k⟩
theorem wf_t (vs : List V) (H : Hp) (Q : VK) (E : XK) (h : spWF K 116 vs H Q E) : spWTree K vs H Q E := by
  obtain ⟨v, x, ns, m, rfl, dv, hl, sm, hm, he, hn, k⟩ := h
  cases x <;> try cases hl
  case t d => exact ⟨v, d, ns, rfl, dv, (TrL.rd he).trn, by omega, k⟩
theorem wf_a (vs : List V) (H : Hp) (Q : VK) (E : XK) (h : spWF K 97 vs H Q E) : spCount K vs H Q E := by
  obtain ⟨v, x, ns, m, rfl, dv, hl, sm, hm, he, hn, k⟩ := h
  cases x <;> try cases hl
  case a n =>
    obtain rfl := Dt.int_inv (show Dt K H v (.int (n : Int)) from dv)
    have hn : n < m := sm
    exact ⟨n, rfl, Nat.lt_of_le_of_lt (show n ≤ 10 ^ 6 by omega) (by decide +kernel), by rw [show ns = _ from he] at k; exact k⟩
theorem wf_b (vs : List V) (H : Hp) (Q : VK) (E : XK) (h : spWF K 98 vs H Q E) : spWNon K vs H Q E := by
  obtain ⟨v, x, ns, m, rfl, dv, hl, sm, hm, he, hn, k⟩ := h
  cases x <;> try cases hl
  case b n =>
    obtain rfl := Dt.int_inv (show Dt K H v (.int n) from dv)
    have h1 : -1 ≤ n := sm.1
    have h2 : n < (m : Int) := sm.2
    exact ⟨n, rfl, h1, by omega, by rw [show ns = _ from he] at k; exact k⟩
theorem wf_n (vs : List V) (H : Hp) (Q : VK) (E : XK) (h : spWF K 110 vs H Q E) : spWInt K vs H Q E := by
  obtain ⟨v, x, ns, m, rfl, dv, hl, sm, hm, he, hn, k⟩ := h
  cases x <;> try cases hl
  case n n =>
    obtain rfl := Dt.int_inv (show Dt K H v (.int n) from dv)
    exact ⟨n, rfl, Nat.le_trans (Nat.le_of_lt sm) (Nat.pow_le_pow_right (by decide) (by decide)), by rw [show ns = _ from he] at k; exact k⟩
theorem wf_x (vs : List V) (H : Hp) (Q : VK) (E : XK) (h : spWF K 120 vs H Q E) : spWStr K vs H Q E := by
  obtain ⟨v, x, ns, m, rfl, dv, hl, sm, hm, he, hn, k⟩ := h
  cases x <;> try cases hl
  case x js =>
    obtain rfl := Dt.str_inv (show Dt K H v (.str (tx js)) from dv)
    exact ⟨js, rfl, Nat.le_trans sm.len (by decide), sm.lt, by rw [show ns = _ from he] at k; exact k⟩
theorem wf_s (vs : List V) (H : Hp) (Q : VK) (E : XK) (h : spWF K 115 vs H Q E) : spWSig K vs H Q E := by
  obtain ⟨v, x, ns, m, rfl, dv, hl, sm, hm, he, hn, k⟩ := h
  exact ⟨v, x, ns, m, rfl, dv, hl, sm, he, k⟩
def spWFs0 (K : PySem.W.Frag) : Sp := fun vs H Q _ => ∃ (v : V) (kd : Str) (fs : List Fld) (ls : List Nat) (ns : List Nat) (m : Nat), vs = [.str (S ls), v] ∧ Dt K H v (.tuple (.str kd :: fs.map fldD)) ∧ fs.map ltr = ls ∧ (∀ x ∈ fs, FldSm0 m x) ∧ m ≤ 10 ^ 6 ∧ FldsE fs ns ∧ ls.length ≤ 10 ∧ (∀ c ∈ ls, c ∈ flds) ∧
  ∀ l H', H l = none → Same H H' → H' l = some (.lst (nV ns)) → Q (.ref l) H'
theorem ok_wfields0 {A_write_value A_write_values A_write_pairs A_write_named A_write_tree A_write_count A_write_number_or_none A_write_integer A_write_string A_write_signal A_write_frames : Addr} {f : Addr} {fd : FuncData} (F : Fun K "_written_fields" "_written_fields" s_written_fields f fd) (T : Txt K mg)
    (U_WRITERS : UseD P w K mg "WRITERS" (fnKV [("v", A_write_value), ("V", A_write_values), ("W", A_write_pairs), ("X", A_write_named), ("t", A_write_tree), ("a", A_write_count), ("b", A_write_number_or_none), ("n", A_write_integer), ("x", A_write_string), ("s", A_write_signal), ("F", A_write_frames)]))
    (UA_write_value : UseA P w K mg base "write_value" 3 P_write_value (spWVal K) A_write_value) (UA_write_values : UseA P w K mg base "_write_values" 4 P_write_values (spWVs K) A_write_values) (UA_write_pairs : UseA P w K mg base "_write_pairs" 4 P_write_pairs (spWPs K) A_write_pairs) (UA_write_named : UseA P w K mg base "_write_named" 4 P_write_named (spWNs K) A_write_named)
    (UA_write_tree : UseA P w K mg base "write_tree" 3 P_write_tree (spWTree K) A_write_tree) (UA_write_count : UseA P w K mg base "write_count" 1 P_write_count (spCount K) A_write_count) (UA_write_number_or_none : UseA P w K mg base "_write_number_or_none" 2 P_write_number_or_none (spWNon K) A_write_number_or_none) (UA_write_integer : UseA P w K mg base "write_integer" 2 P_write_integer (spWInt K) A_write_integer)
    (UA_write_string : UseA P w K mg base "write_string" 2 P_write_string (spWStr K) A_write_string) (UA_write_signal : UseA P w K mg base "_write_signal" 4 P_write_signal (spWSig K) A_write_signal) : FnG P w K mg base CX0 5 f fd P_written_fields (spWFs0 K) := by
  obtain ⟨aD_WRITERS, gD_WRITERS, kD⟩ := U_WRITERS.ex
  have act : ∀ c ∈ flds, ∃ (g : Addr) (gd : FuncData) (ps : List Str), valV (fnKV [("v", A_write_value), ("V", A_write_values), ("W", A_write_pairs), ("X", A_write_named), ("t", A_write_tree), ("a", A_write_count), ("b", A_write_number_or_none), ("n", A_write_integer), ("x", A_write_string), ("s", A_write_signal), ("F", A_write_frames)]) (.inr (S [c])) = some (.ref g) ∧
      FnG P w K mg base CX0 4 g gd ps (spWF K c) ∧ PySem.W.keepIn K (.ref g) = true ∧ Binds K gd ps [] := by
    intro c hc
    simp only [flds, List.mem_cons, List.not_mem_nil, or_false] at hc
    rcases hc with rfl | rfl | rfl | rfl | rfl | rfl | rfl | rfl | rfl | rfl
    · obtain ⟨gd, G, _, kp, hb⟩ := UA_write_value.ex
      exact ⟨_, gd, _, rfl, FnG.upw (G.imp wf_v) (by decide), kp, hb⟩
    · obtain ⟨gd, G, _, kp, hb⟩ := UA_write_values.ex
      exact ⟨_, gd, _, rfl, FnG.upw (G.imp wf_V) (by decide), kp, hb⟩
    · obtain ⟨gd, G, _, kp, hb⟩ := UA_write_pairs.ex
      exact ⟨_, gd, _, rfl, FnG.upw (G.imp wf_W) (by decide), kp, hb⟩
    · obtain ⟨gd, G, _, kp, hb⟩ := UA_write_named.ex
      exact ⟨_, gd, _, rfl, FnG.upw (G.imp wf_X) (by decide), kp, hb⟩
    · obtain ⟨gd, G, _, kp, hb⟩ := UA_write_tree.ex
      exact ⟨_, gd, _, rfl, FnG.upw (G.imp wf_t) (by decide), kp, hb⟩
    · obtain ⟨gd, G, _, kp, hb⟩ := UA_write_count.ex
      exact ⟨_, gd, _, rfl, FnG.upw (G.imp wf_a) (by decide), kp, hb⟩
    · obtain ⟨gd, G, _, kp, hb⟩ := UA_write_number_or_none.ex
      exact ⟨_, gd, _, rfl, FnG.upw (G.imp wf_b) (by decide), kp, hb⟩
    · obtain ⟨gd, G, _, kp, hb⟩ := UA_write_integer.ex
      exact ⟨_, gd, _, rfl, FnG.upw (G.imp wf_n) (by decide), kp, hb⟩
    · obtain ⟨gd, G, _, kp, hb⟩ := UA_write_string.ex
      exact ⟨_, gd, _, rfl, FnG.upw (G.imp wf_x) (by decide), kp, hb⟩
    · obtain ⟨gd, G, _, kp, hb⟩ := UA_write_signal.ex
      exact ⟨_, gd, _, rfl, FnG.upw (G.imp wf_s) (by decide), kp, hb⟩
  refine okG0 F sc_written_fields (fun vs H Q E h => ?_) fun cdv A outer s H vs Q E hr hg h => ?_
  · obtain ⟨v, kd, fs, ls, ns, m, rfl, _⟩ := h
    rfl
  · obtain ⟨v, kd, fs, ls, ns, m, rfl, dv, hls, hsm, hm, hE, hll, hfl, k⟩ := h
    refine ⟨_, (pss_cons (ps_set (i := 2) sc_written_fields.nd rfl (Or.inl rfl) (pe_lst pa_nil))
  (pss_cons (ps_for PassesOwn.never rfl (pi_zipST (by rfl) T.b_zip (pa_cons (pv 0) (pa_cons (pe_slice sl_tupA (pv 1) (po_some pe_int) po_none) pa_nil))) (pg_tup (by rfl) (pgs_cons (pg_name (i := 3) sc_written_fields.nd rfl (Or.inl rfl)) (pgs_cons (pg_name (i := 4) sc_written_fields.nd rfl (Or.inl rfl)) pgs_nil)))
   (pss_cons (ps_set (i := 5) sc_written_fields.nd rfl (Or.inl rfl) (pe_dgetK (pe_glob (v := .ref aD_WRITERS) (by rfl) gD_WRITERS rfl) (pv 3) (fun _ _ => rfl)))
  (pss_one (ps_expr (pe_bm PySem.F.plainAttrs_list PySem.F.slot_list_extend PySem.F.type_list_extend mt_extend (pv 2) (pa_cons (pe_callV (k := 4) (pv 5) (hr.mono (by decide)) hg (pa_cons (pv 4) pa_nil)) pa_nil))))))
  (pss_one (ps_ret (pv 2))))), ?_⟩
    obtain ⟨lss, e1, rfl, e3, e4⟩ := hE.at
    obtain ⟨q0, ws, rfl, hq0, ha⟩ := dv.head
    have hal := ha.length
    rw [List.length_map] at hal
    have hfsl : fs.length = ls.length := by rw [← hls, List.length_map]
    refine ⟨sz_0, fun nl hnl => ?_⟩
    have S0 := Same.new (o := .lst []) hnl
    refine ⟨_, rfl, _, rfl, _, rfl, ?_⟩
    refine ⟨q0, _, rfl, Same.tupl S0 hq0, fun e => absurd e.1 (tail_no2 _ _), fun _ q hq => ?_⟩
    rw [cut_one]
    refine ⟨S ls, q, ws, rfl, SqT.of upd_same, ?_⟩
    refine for_it (walk_zipST (z := ls) (b := q) (ys := ws) (by omega)) (fun i σ H5 => ∃ (x3 x4 x5 : Option V), σ = [some (.str (S ls)), some (.ref q0), some (.ref nl), x3, x4, x5] ∧ H5 nl = some (.lst (nV (lss.take i).flatten)) ∧ Same H H5 ∧ SqT K H5 q ws) ⟨none, none, none, rfl, Same.new hq _ _ upd_same, S0.trans (Same.new hq), SqT.of upd_same⟩ (fun _ _ _ _ h => let ⟨_, _, _, _, _, _, z⟩ := h; z) ?_ ?_
    · rintro i y σ H5 H6 hi ⟨x3, x4, x5, rfl, e5, S5, q5⟩ ⟨T, a1, a2, rfl, hT, rfl, g1, g2⟩
      have hif : i < fs.length := by omega
      have hx : fs[i]? = some fs[i] := List.getElem?_eq_getElem hif
      have hsx := hsm _ (List.getElem_mem hif)
      have hl : lss[i]? = some (lss[i]'(by omega)) := List.getElem?_eq_getElem (by omega)
      have hEx := e3 i _ _ hx hl
      have hEl := e4 _ (List.mem_of_getElem? hl)
      generalize fs[i] = x at hx hsx hEx
      generalize lss[i]'(by omega) = ln at hl hEx hEl
      have hlc : ls[i]? = some (ltr x) := by rw [← hls, List.getElem?_map, hx]; rfl
      have hcm := hfl _ (List.mem_of_getElem? hlc)
      obtain rfl : V.str (S [ltr x]) = a1 := by
        have g1 : (ls[i]?).map (fun c => V.str (S [c])) = some a1 := g1
        rw [hlc] at g1
        exact Option.some.inj g1
      obtain ⟨d, hd, dx⟩ := ha.getV (show ws[i]? = some a2 from g2)
      rw [List.getElem?_map, hx] at hd
      cases hd
      have S6 := Same.new (o := .tup [.str (S [ltr x]), a2]) hT
      have S56 := S5.trans S6
      have dx6 := dx.mono S56
      have e6 := S6 _ _ e5
      have q6 := Same.tupl S6 q5
      have hlen : (lss.take i).flatten.length ≤ 10 * 10000 := by
        have := flat_le (b := 10000) (ls := lss.take i) fun l hl => e4 l (List.mem_of_mem_take hl)
        have h2 : (lss.take i).length ≤ 10 := by rw [List.length_take]; omega
        have := Nat.mul_le_mul_right 10000 h2
        omega
      have htk : (lss.take (i + 1)).flatten = (lss.take i).flatten ++ ln := by rw [List.take_succ, hl]; simp
      obtain ⟨g, gd, ps, hv, G, kp, hb⟩ := act _ hcm
      refine ⟨T, _, rfl, SqT.of upd_same, rfl, _, _, rfl, _, _, rfl, rfl, ?_⟩
      refine ⟨_, rfl, aD_WRITERS, _, .inr (S [ltr x]), .ref g, rfl, kD, rfl, hv, ?_⟩
      refine ⟨_, rfl, .inl ⟨rfl, _, SqL.of e6⟩, g, gd, ps, _, rfl, G, kp, hb, _, rfl, a2, x, ln, m, rfl, dx6, rfl, hsx, hm, hEx, hEl, fun l H7 _ S7 e7 => ?_⟩
      refine ext_ok (K := K) (S7 _ _ e6) e7 (by omega) fun H8 e8 kp8 kt => ⟨_, _, _, rfl, by rw [e8, htk], fun c o e => kp8 _ _ (S7 _ _ (S56 _ _ e)) (ne_of_none e hnl), kt _ _ (Same.tupl S7 q6)⟩
    · rintro σ H5 ⟨x3, x4, x5, rfl, e5, S5, q5⟩
      rw [show ws.length = lss.length by omega, List.take_length] at e5
      exact ⟨_, rfl, k nl H5 hnl S5 e5⟩
end

section
--SPLIT
end
abbrev s_write_frame : Stmt := top 15
abbrev N_write_frame : List Str := ["frame"]
abbrev P_write_frame : List Str := ["frame"]
theorem sc_write_frame : FnScope N_write_frame P_write_frame (defScope s_write_frame) := ⟨rfl, rfl, rfl, by decide +kernel, rfl, by decide +kernel, by decide +kernel⟩
section
variable {P : Program} {w : World} {K : PySem.W.Frag} {mg : Str → Option Value} {base : Heap}
/-- where a text stands among texts that differ -/
theorem idx_str {ks : List Str} {i : Nat} {kd : Str} (nd : ks.Nodup) (h : ks[i]? = some kd) : flatV (.str kd) = true ∧ (ks.map V.str).all flatV = true ∧ (ks.map V.str)[i]? = some (.str kd) ∧ eqV (.str kd) (.str kd) = true ∧ ∀ (m : Nat) (z : V), m < i → (ks.map V.str)[m]? = some z → eqV z (.str kd) = false := by
  refine ⟨rfl, List.all_eq_true.mpr fun v hv => by obtain ⟨x, _, rfl⟩ := List.mem_map.mp hv; rfl, by rw [List.getElem?_map, h]; rfl, by show (kd == kd) = true; simp, fun m z hm hz => ?_⟩
  rw [List.getElem?_map] at hz
  obtain ⟨x, hx, rfl⟩ := Option.map_eq_some_iff.mp hz
  show (x == kd) = false
  refine beq_eq_false_iff_ne.mpr fun e => ?_
  subst e
  obtain ⟨h1, e1⟩ := List.getElem?_eq_some_iff.mp hx
  obtain ⟨h2, e2⟩ := List.getElem?_eq_some_iff.mp h
  have := (List.getElem_inj nd).mp (e1.trans e2.symm)
  omega
theorem fields_keys : fieldsL.map (·.1) = frTab.map (·.1) := by decide +kernel
theorem fields_nd : (fieldsL.map (·.1)).Nodup := by decide +kernel
theorem keys_of (fl : List (Str × Str)) : ((txtKV fl).map fun kv => kV kv.1) = (fl.map (·.1)).map V.str := by
  unfold txtKV
  rw [List.map_map, List.map_map]
  rfl
theorem tab_key {fl : List (Str × Str)} {tab : Tab} (hk : fl.map (·.1) = tab.map (·.1)) {i : Nat} {kd : Str} {ls : List Nat} (h : tab[i]? = some (kd, ls)) : (fl.map (·.1))[i]? = some kd := by
  rw [hk, List.getElem?_map, h]
  rfl
def spWFr (K : PySem.W.Frag) (tab : Tab) : Sp := fun vs H Q _ => ∃ (v : V) (kd : Str) (fs : List Fld) (i : Nat) (ns : List Nat) (m : Nat), vs = [v] ∧ Dt K H v (.tuple (.str kd :: fs.map fldD)) ∧ tab[i]? = some (kd, fs.map ltr) ∧ (∀ x ∈ fs, FldSm0 m x) ∧ m ≤ 10 ^ 6 ∧ FldsE fs ns ∧
  ∀ l H', H l = none → Same H H' → H' l = some (.lst (nV (cnt i ++ ns))) → Q (.ref l) H'
theorem flds_len {fs : List Fld} {ns : List Nat} (h : FldsE fs ns) : ns.length ≤ fs.length * 10000 := by
  obtain ⟨ls, e1, rfl, _, e4⟩ := h.at
  rw [← e1]
  exact flat_le e4
theorem ok_wframe {f : Addr} {fd : FuncData} (F : Fun K "write_frame" "write_frame" s_write_frame f fd) (T : Txt K mg) (U_FIELDS : UseD P w K mg "FIELDS" (txtKV fieldsL)) (U_write_count : Use P w K mg base CX0 "write_count" 1 P_write_count (spCount K)) (U_written_fields : Use P w K mg base CX0 "_written_fields" 5 P_written_fields (spWFs0 K)) : FnG P w K mg base CX0 6 f fd P_write_frame (spWFr K frTab) := by
  obtain ⟨aD_FIELDS, gD_FIELDS, kD⟩ := U_FIELDS.ex
  refine okG0 F sc_write_frame (fun vs H Q E h => ?_) fun cdv A outer s H vs Q E hr hg h => ?_
  · obtain ⟨v, kd, fs, i, ns, m, rfl, _⟩ := h
    rfl
  · obtain ⟨v, kd, fs, i, ns, m, rfl, dv, hi, hsm, hm, hE, k⟩ := h
    refine ⟨_, (pss_one (ps_ret (pe_op op_cat (pe_use U_write_count (hr.mono (by decide)) hg rfl (pa_cons (pe_bm PySem.F.plainAttrs_list PySem.F.slot_list_index PySem.F.type_list_index mt_index (pe_callTy (call_listK rfl) (by rfl) T.b_list (by decide +kernel) (pa_cons (pe_glob (v := .ref aD_FIELDS) (by rfl) gD_FIELDS rfl) pa_nil)) (pa_cons (pe_ix ix_tup (pv 0) pe_int (fun _ _ => rfl)) pa_nil)) pa_nil)) (pe_use U_written_fields (hr.mono (by decide)) hg rfl (pa_cons (pe_dgetK (pe_glob (v := .ref aD_FIELDS) (by rfl) gD_FIELDS rfl) (pe_ix ix_tup (pv 0) pe_int (fun _ _ => rfl)) (fun _ _ => rfl)) (pa_cons (pv 0) pa_nil)))))), ?_⟩
    have hmem := List.mem_of_getElem? hi
    have hok := frTab_ok _ hmem
    have hi60 : i < 60 := by rw [← fr_len.2]; exact (List.getElem?_eq_some_iff.mp hi).1
    have hnl := flds_len hE
    have hfl : fs.length ≤ 10 := by
      have := hok.2
      simpa using this
    have hnl : ns.length ≤ 100000 := by
      have := Nat.mul_le_mul_right 10000 hfl
      omega
    obtain ⟨i1, i2, i3, i4, i5⟩ := idx_str fields_nd (tab_key fields_keys hi)
    obtain ⟨q, ws, rfl, hq, ha⟩ := (id dv).head
    refine ⟨aD_FIELDS, _, rfl, kD, by decide, fun l1 hl1 => ?_⟩
    have S1 := Same.new (o := .lst ((txtKV fieldsL).map fun kv => kV kv.1)) hl1
    have e1 : (upd H l1 (.lst ((txtKV fieldsL).map fun kv => kV kv.1))) l1 = some (.lst ((fieldsL.map (·.1)).map V.str)) := by rw [upd_same, keys_of]
    generalize upd H l1 (.lst ((txtKV fieldsL).map fun kv => kV kv.1)) = H1 at S1 e1 ⊢
    refine ⟨.inl ⟨rfl, _, SqL.of e1⟩, _, rfl, q, _, _, _, rfl, rfl, Same.tupl S1 hq, at0, l1, _, .str kd, i, .str kd, rfl, rfl, SqL.of e1, i1, i2, i3, i4, i5, ?_⟩
    refine ⟨i, rfl, Nat.lt_of_le_of_lt (show i ≤ 60 by omega) (by decide +kernel), fun l2 H2 n2 S2 e2 => ?_⟩
    have S02 := S1.trans S2
    refine ⟨_, rfl, q, _, _, _, rfl, rfl, Same.tupl S02 hq, at0, aD_FIELDS, _, .inr kd, _, rfl, kD, rfl, tab_val fields_at hmem, _, rfl, _, kd, fs, _, ns, m, rfl, dv.mono S02, rfl, hsm, hm, hE, hok.2, hok.1, fun l3 H3 n3 S3 e3 => ?_⟩
    have hc := cnt_b (n := i) (by omega)
    refine ⟨l2, l3, _, _, rfl, rfl, S3 _ _ e2, e3, by rw [nV_len, nV_len]; exact Nat.le_trans (show (cnt i).length + ns.length ≤ 200000 by omega) (by decide), fun l4 hl4 => ?_⟩
    have S03 := S02.trans S3
    exact k l4 _ (none_same0 S03 hl4) (S03.trans (Same.new hl4)) (by rw [upd_same, nV_app])
end

section
--SPLIT
end
abbrev s_write_frames : Stmt := top 23
abbrev N_write_frames : List Str := ["frames", "numbers", "frame"]
abbrev P_write_frames : List Str := ["frames"]
theorem sc_write_frames : FnScope N_write_frames P_write_frames (defScope s_write_frames) := ⟨rfl, rfl, rfl, by decide +kernel, rfl, by decide +kernel, by decide +kernel⟩
abbrev s_write_object : Stmt := top 14
abbrev N_write_object : List Str := ["item"]
abbrev P_write_object : List Str := ["item"]
theorem sc_write_object : FnScope N_write_object P_write_object (defScope s_write_object) := ⟨rfl, rfl, rfl, by decide +kernel, rfl, by decide +kernel, by decide +kernel⟩
abbrev s_write_control : Stmt := top 16
abbrev N_write_control : List Str := ["control"]
abbrev P_write_control : List Str := ["control"]
theorem sc_write_control : FnScope N_write_control P_write_control (defScope s_write_control) := ⟨rfl, rfl, rfl, by decide +kernel, rfl, by decide +kernel, by decide +kernel⟩
section
variable {P : Program} {w : World} {K : PySem.W.Frag} {mg : Str → Option Value} {base : Heap}
def spWFrs (K : PySem.W.Frag) : Sp := fun vs H Q _ => ∃ (v : V) (l : List Fr) (ns : List Nat) (m : Nat), vs = [v] ∧ Dt K H v (.tuple (l.map frD)) ∧ Fl2Sm0 m (.fr l) ∧ m ≤ 10 ^ 6 ∧ FldE2 (.fr l) ns ∧ ∀ l H', H l = none → Same H H' → H' l = some (.lst (nV ns)) → Q (.ref l) H'
theorem ok_wframes {f : Addr} {fd : FuncData} (F : Fun K "_write_frames" "_write_frames" s_write_frames f fd) (T : Txt K mg) (U_write_count : Use P w K mg base CX0 "write_count" 1 P_write_count (spCount K)) (U_write_frame : Use P w K mg base CX0 "write_frame" 6 P_write_frame (spWFr K frTab)) : FnG P w K mg base CX0 7 f fd P_write_frames (spWFrs K) := by
  refine okG0 F sc_write_frames (fun vs H Q E h => ?_) fun cdv A outer s H vs Q E hr hg h => ?_
  · obtain ⟨v, l, ns, m, rfl, _⟩ := h
    rfl
  · obtain ⟨v, l, ns, m, rfl, dv, sm, hm, ⟨lss, h1, rfl, h2, h3⟩, k⟩ := h
    refine ⟨_, (pss_cons (ps_set (i := 1) sc_write_frames.nd rfl (Or.inl rfl) (pe_use U_write_count (hr.mono (by decide)) hg rfl (pa_cons (pe_callB call_len (by rfl) T.b_len PySem.boot_len (pa_cons (pv 0) pa_nil)) pa_nil)))
  (pss_cons (ps_for PassesOwn.never rfl (pi_tup (pv 0)) (pg_name (i := 2) sc_write_frames.nd rfl (Or.inl rfl))
   (pss_one (ps_expr (pe_bm PySem.F.plainAttrs_list PySem.F.slot_list_extend PySem.F.type_list_extend mt_extend (pv 1) (pa_cons (pe_use U_write_frame (hr.mono (by decide)) hg rfl (pa_cons (pv 2) pa_nil)) pa_nil)))))
  (pss_one (ps_ret (pv 1))))), ?_⟩
    obtain ⟨q, ws, rfl, hq, ax⟩ := dv.tuple_inv
    have lx := ax.length
    rw [List.length_map] at lx
    have hl2 : l.length ≤ 2 := sm.1
    refine ⟨_, rfl, _, _, rfl, .inr ⟨_, hq, rfl⟩, ws.length, rfl, Nat.lt_of_le_of_lt (show ws.length ≤ 1000 by omega) (by decide +kernel), fun nl H1 hnl S1 e1 => ?_⟩
    have hc := cnt_small (n := l.length) (by omega)
    refine ⟨_, rfl, q, rfl, ⟨_, Same.tupl S1 hq⟩, ?_⟩
    refine for_tup (xs := ws) (fun i σ H5 => ∃ x2, σ = [some (.ref q), some (.ref nl), x2] ∧ Same H H5 ∧ H5 nl = some (.lst (nV (cnt l.length ++ (lss.take i).flatten)))) ⟨none, rfl, S1, by rw [e1, lx]; simp⟩ ?_ ?_ ?_
    · rintro i σ H5 _ ⟨x2, rfl, S5, _⟩
      exact Same.tupl S5 hq
    · rintro i y σ H5 hy ⟨x2, rfl, S5, e5⟩
      obtain ⟨d, hd, dy⟩ := (ax.mono S5).getV hy
      rw [List.getElem?_map] at hd
      obtain ⟨fr, hfi, rfl⟩ := Option.map_eq_some_iff.mp hd
      have hfm := sm.2 fr (List.mem_of_getElem? hfi)
      have hil : i < l.length := (List.getElem?_eq_some_iff.mp hfi).1
      have hl : lss[i]? = some (lss[i]'(by omega)) := List.getElem?_eq_getElem (by omega)
      have hE := h2 i fr _ hfi hl
      have hlb := h3 _ (List.mem_of_getElem? hl)
      generalize lss[i]'(by omega) = ln at hl hE hlb
      obtain ⟨j, fn, hj, hfn, rfl⟩ := hE
      have hfl := flat_le (b := 100100) (ls := lss.take i) fun z hz => h3 z (List.mem_of_mem_take hz)
      have htl : (lss.take i).length ≤ 2 := by rw [List.length_take]; omega
      have := Nat.mul_le_mul_right 100100 htl
      refine ⟨_, rfl, .inl ⟨rfl, _, SqL.of e5⟩, _, rfl, y, fr.kd, fr.fs, j, fn, m, rfl, dy, hj, hfm.2, hm, hfn, fun l H6 _ S6 e6 => ?_⟩
      refine ext_ok (K := K) (S6 _ _ e5) e6 (by rw [List.length_append]; omega) fun H7 e7 kp _ => ⟨some y, rfl, fun b o e => kp _ _ (S6 _ _ (S5 _ _ e)) (ne_of_none e hnl), ?_⟩
      rw [e7, List.take_succ, hl, List.append_assoc]
      simp
    · rintro σ H5 ⟨x2, rfl, S5, e5⟩
      rw [show ws.length = lss.length by omega, List.take_length] at e5
      exact ⟨_, rfl, k nl H5 hnl S5 e5⟩
def spWF2 (K : PySem.W.Frag) (c : Nat) : Sp := fun vs H Q _ => ∃ (v : V) (x : Fl2) (ns : List Nat) (m : Nat), vs = [v] ∧ Dt K H v (fl2D x) ∧ ltr2 x = c ∧ Fl2Sm0 m x ∧ m ≤ 10 ^ 6 ∧ FldE2 x ns ∧ ns.length ≤ 300000 ∧ ∀ l H', H l = none → Same H H' → H' l = some (.lst (nV ns)) → Q (.ref l) H'
theorem fld_len0 {m : Nat} {x : Fld} {ns : List Nat} (hm : m ≤ 10 ^ 6) (sm : FldSm0 m x) (h : FldE x ns) : ns.length ≤ 10000 := by
  obtain ⟨ns2, h2, hl⟩ := fld_e hm sm
  have : ns = ns2 := by
    cases x with
    | t d => exact (TrL.rd h).det (TrL.rd h2)
    | s1 z =>
      rcases (h : (z = "break" ∧ ns = [1]) ∨ (z = "continue" ∧ ns = [2])) with ⟨a, b⟩ | ⟨a, b⟩ <;> rcases (h2 : (z = "break" ∧ ns2 = [1]) ∨ (z = "continue" ∧ ns2 = [2])) with ⟨c, d⟩ | ⟨c, d⟩
      · rw [b, d]
      · rw [a] at c; exact absurd c (by decide +kernel)
      · rw [a] at c; exact absurd c (by decide +kernel)
      · rw [b, d]
    | s2 z y =>
      rcases (h : (z = "return" ∧ ns = 3 :: enc y) ∨ (z = "raise" ∧ ns = 4 :: enc y)) with ⟨a, b⟩ | ⟨a, b⟩ <;> rcases (h2 : (z = "return" ∧ ns2 = 3 :: enc y) ∨ (z = "raise" ∧ ns2 = 4 :: enc y)) with ⟨c, d⟩ | ⟨c, d⟩
      · rw [b, d]
      · rw [a] at c; exact absurd c (by decide +kernel)
      · rw [a] at c; exact absurd c (by decide +kernel)
      · rw [b, d]
    | _ => exact (show ns = _ from h).trans (show ns2 = _ from h2).symm
  rw [this]
  exact hl
theorem wf2_one {c : Nat} {vs : List V} {H : Hp} {Q : VK} {E : XK} (hc : c ≠ 70) (h : spWF2 K c vs H Q E) : spWF K c vs H Q E := by
  obtain ⟨v, x, ns, m, rfl, dv, hl, sm, hm, he, hn, k⟩ := h
  obtain ⟨y, rfl⟩ := ltr2_one x (by rw [hl]; exact hc)
  exact ⟨v, y, ns, m, rfl, dv, hl, sm, hm, he, fld_len0 hm sm he, k⟩
theorem wf2_F (vs : List V) (H : Hp) (Q : VK) (E : XK) (h : spWF2 K 70 vs H Q E) : spWFrs K vs H Q E := by
  obtain ⟨v, x, ns, m, rfl, dv, hl, sm, hm, he, hn, k⟩ := h
  cases x with
  | one y => cases y <;> cases hl
  | fr l => exact ⟨v, l, ns, m, rfl, dv, sm, hm, he, k⟩
--SPLIT
def spWFs2 (K : PySem.W.Frag) : Sp := fun vs H Q _ => ∃ (v : V) (kd : Str) (fs : List Fl2) (ls : List Nat) (ns : List Nat) (m : Nat), vs = [.str (S ls), v] ∧ Dt K H v (.tuple (.str kd :: fs.map fl2D)) ∧ fs.map ltr2 = ls ∧ (∀ x ∈ fs, Fl2Sm0 m x) ∧ m ≤ 10 ^ 6 ∧ FldsE2 fs ns ∧ ns.length ≤ 400000 ∧ ls.length ≤ 10 ∧ (∀ c ∈ ls, c ∈ 70 :: flds) ∧
  ∀ l H', H l = none → Same H H' → H' l = some (.lst (nV ns)) → Q (.ref l) H'
theorem ok_wfields2 {A_write_value A_write_values A_write_pairs A_write_named A_write_tree A_write_count A_write_number_or_none A_write_integer A_write_string A_write_signal A_write_frames : Addr} {f : Addr} {fd : FuncData} (F : Fun K "_written_fields" "_written_fields" s_written_fields f fd) (T : Txt K mg)
    (U_WRITERS : UseD P w K mg "WRITERS" (fnKV [("v", A_write_value), ("V", A_write_values), ("W", A_write_pairs), ("X", A_write_named), ("t", A_write_tree), ("a", A_write_count), ("b", A_write_number_or_none), ("n", A_write_integer), ("x", A_write_string), ("s", A_write_signal), ("F", A_write_frames)]))
    (UA_write_value : UseA P w K mg base "write_value" 3 P_write_value (spWVal K) A_write_value) (UA_write_values : UseA P w K mg base "_write_values" 4 P_write_values (spWVs K) A_write_values) (UA_write_pairs : UseA P w K mg base "_write_pairs" 4 P_write_pairs (spWPs K) A_write_pairs) (UA_write_named : UseA P w K mg base "_write_named" 4 P_write_named (spWNs K) A_write_named)
    (UA_write_tree : UseA P w K mg base "write_tree" 3 P_write_tree (spWTree K) A_write_tree) (UA_write_count : UseA P w K mg base "write_count" 1 P_write_count (spCount K) A_write_count) (UA_write_number_or_none : UseA P w K mg base "_write_number_or_none" 2 P_write_number_or_none (spWNon K) A_write_number_or_none) (UA_write_integer : UseA P w K mg base "write_integer" 2 P_write_integer (spWInt K) A_write_integer)
    (UA_write_string : UseA P w K mg base "write_string" 2 P_write_string (spWStr K) A_write_string) (UA_write_signal : UseA P w K mg base "_write_signal" 4 P_write_signal (spWSig K) A_write_signal) (UA_write_frames : UseA P w K mg base "_write_frames" 7 P_write_frames (spWFrs K) A_write_frames) : FnG P w K mg base CX0 8 f fd P_written_fields (spWFs2 K) := by
  obtain ⟨aD_WRITERS, gD_WRITERS, kD⟩ := U_WRITERS.ex
  have act : ∀ c ∈ 70 :: flds, ∃ (g : Addr) (gd : FuncData) (ps : List Str), valV (fnKV [("v", A_write_value), ("V", A_write_values), ("W", A_write_pairs), ("X", A_write_named), ("t", A_write_tree), ("a", A_write_count), ("b", A_write_number_or_none), ("n", A_write_integer), ("x", A_write_string), ("s", A_write_signal), ("F", A_write_frames)]) (.inr (S [c])) = some (.ref g) ∧
      FnG P w K mg base CX0 7 g gd ps (spWF2 K c) ∧ PySem.W.keepIn K (.ref g) = true ∧ Binds K gd ps [] := by
    intro c hc
    simp only [flds, List.mem_cons, List.not_mem_nil, or_false] at hc
    rcases hc with rfl | rfl | rfl | rfl | rfl | rfl | rfl | rfl | rfl | rfl | rfl
    · obtain ⟨gd, G, _, kp, hb⟩ := UA_write_frames.ex
      exact ⟨_, gd, _, rfl, FnG.upw (G.imp wf2_F) (by decide), kp, hb⟩
    · obtain ⟨gd, G, _, kp, hb⟩ := UA_write_value.ex
      exact ⟨_, gd, _, rfl, FnG.upw (G.imp fun _ _ _ _ h => wf_v _ _ _ _ (wf2_one (by decide) h)) (by decide), kp, hb⟩
    · obtain ⟨gd, G, _, kp, hb⟩ := UA_write_values.ex
      exact ⟨_, gd, _, rfl, FnG.upw (G.imp fun _ _ _ _ h => wf_V _ _ _ _ (wf2_one (by decide) h)) (by decide), kp, hb⟩
    · obtain ⟨gd, G, _, kp, hb⟩ := UA_write_pairs.ex
      exact ⟨_, gd, _, rfl, FnG.upw (G.imp fun _ _ _ _ h => wf_W _ _ _ _ (wf2_one (by decide) h)) (by decide), kp, hb⟩
    · obtain ⟨gd, G, _, kp, hb⟩ := UA_write_named.ex
      exact ⟨_, gd, _, rfl, FnG.upw (G.imp fun _ _ _ _ h => wf_X _ _ _ _ (wf2_one (by decide) h)) (by decide), kp, hb⟩
    · obtain ⟨gd, G, _, kp, hb⟩ := UA_write_tree.ex
      exact ⟨_, gd, _, rfl, FnG.upw (G.imp fun _ _ _ _ h => wf_t _ _ _ _ (wf2_one (by decide) h)) (by decide), kp, hb⟩
    · obtain ⟨gd, G, _, kp, hb⟩ := UA_write_count.ex
      exact ⟨_, gd, _, rfl, FnG.upw (G.imp fun _ _ _ _ h => wf_a _ _ _ _ (wf2_one (by decide) h)) (by decide), kp, hb⟩
    · obtain ⟨gd, G, _, kp, hb⟩ := UA_write_number_or_none.ex
      exact ⟨_, gd, _, rfl, FnG.upw (G.imp fun _ _ _ _ h => wf_b _ _ _ _ (wf2_one (by decide) h)) (by decide), kp, hb⟩
    · obtain ⟨gd, G, _, kp, hb⟩ := UA_write_integer.ex
      exact ⟨_, gd, _, rfl, FnG.upw (G.imp fun _ _ _ _ h => wf_n _ _ _ _ (wf2_one (by decide) h)) (by decide), kp, hb⟩
    · obtain ⟨gd, G, _, kp, hb⟩ := UA_write_string.ex
      exact ⟨_, gd, _, rfl, FnG.upw (G.imp fun _ _ _ _ h => wf_x _ _ _ _ (wf2_one (by decide) h)) (by decide), kp, hb⟩
    · obtain ⟨gd, G, _, kp, hb⟩ := UA_write_signal.ex
      exact ⟨_, gd, _, rfl, FnG.upw (G.imp fun _ _ _ _ h => wf_s _ _ _ _ (wf2_one (by decide) h)) (by decide), kp, hb⟩
  refine okG0 F sc_written_fields (fun vs H Q E h => ?_) fun cdv A outer s H vs Q E hr hg h => ?_
  · obtain ⟨v, kd, fs, ls, ns, m, rfl, _⟩ := h
    rfl
  · obtain ⟨v, kd, fs, ls, ns, m, rfl, dv, hls, hsm, hm, hE, hn4, hll, hfl, k⟩ := h
    refine ⟨_, (pss_cons (ps_set (i := 2) sc_written_fields.nd rfl (Or.inl rfl) (pe_lst pa_nil))
  (pss_cons (ps_for PassesOwn.never rfl (pi_zipST (by rfl) T.b_zip (pa_cons (pv 0) (pa_cons (pe_slice sl_tupA (pv 1) (po_some pe_int) po_none) pa_nil))) (pg_tup (by rfl) (pgs_cons (pg_name (i := 3) sc_written_fields.nd rfl (Or.inl rfl)) (pgs_cons (pg_name (i := 4) sc_written_fields.nd rfl (Or.inl rfl)) pgs_nil)))
   (pss_cons (ps_set (i := 5) sc_written_fields.nd rfl (Or.inl rfl) (pe_dgetK (pe_glob (v := .ref aD_WRITERS) (by rfl) gD_WRITERS rfl) (pv 3) (fun _ _ => rfl)))
  (pss_one (ps_expr (pe_bm PySem.F.plainAttrs_list PySem.F.slot_list_extend PySem.F.type_list_extend mt_extend (pv 2) (pa_cons (pe_callV (k := 7) (pv 5) (hr.mono (by decide)) hg (pa_cons (pv 4) pa_nil)) pa_nil))))))
  (pss_one (ps_ret (pv 2))))), ?_⟩
    obtain ⟨lss, e1, rfl, e3, e4⟩ := hE.at
    obtain ⟨q0, ws, rfl, hq0, ha⟩ := dv.head
    have hal := ha.length
    rw [List.length_map] at hal
    have hfsl : fs.length = ls.length := by rw [← hls, List.length_map]
    refine ⟨sz_0, fun nl hnl => ?_⟩
    have S0 := Same.new (o := .lst []) hnl
    refine ⟨_, rfl, _, rfl, _, rfl, ?_⟩
    refine ⟨q0, _, rfl, Same.tupl S0 hq0, fun e => absurd e.1 (tail_no2 _ _), fun _ q hq => ?_⟩
    rw [cut_one]
    refine ⟨S ls, q, ws, rfl, SqT.of upd_same, ?_⟩
    refine for_it (walk_zipST (z := ls) (b := q) (ys := ws) (by omega)) (fun i σ H5 => ∃ (x3 x4 x5 : Option V), σ = [some (.str (S ls)), some (.ref q0), some (.ref nl), x3, x4, x5] ∧ H5 nl = some (.lst (nV (lss.take i).flatten)) ∧ Same H H5 ∧ SqT K H5 q ws) ⟨none, none, none, rfl, Same.new hq _ _ upd_same, S0.trans (Same.new hq), SqT.of upd_same⟩ (fun _ _ _ _ h => let ⟨_, _, _, _, _, _, z⟩ := h; z) ?_ ?_
    · rintro i y σ H5 H6 hi ⟨x3, x4, x5, rfl, e5, S5, q5⟩ ⟨T, a1, a2, rfl, hT, rfl, g1, g2⟩
      have hif : i < fs.length := by omega
      have hx : fs[i]? = some fs[i] := List.getElem?_eq_getElem hif
      have hsx := hsm _ (List.getElem_mem hif)
      have hl : lss[i]? = some (lss[i]'(by omega)) := List.getElem?_eq_getElem (by omega)
      have hEx := e3 i _ _ hx hl
      have hEl := e4 _ (List.mem_of_getElem? hl)
      generalize fs[i] = x at hx hsx hEx
      generalize lss[i]'(by omega) = ln at hl hEx hEl
      have hlc : ls[i]? = some (ltr2 x) := by rw [← hls, List.getElem?_map, hx]; rfl
      have hcm := hfl _ (List.mem_of_getElem? hlc)
      obtain rfl : V.str (S [ltr2 x]) = a1 := by
        have g1 : (ls[i]?).map (fun c => V.str (S [c])) = some a1 := g1
        rw [hlc] at g1
        exact Option.some.inj g1
      obtain ⟨d, hd, dx⟩ := ha.getV (show ws[i]? = some a2 from g2)
      rw [List.getElem?_map, hx] at hd
      cases hd
      have S6 := Same.new (o := .tup [.str (S [ltr2 x]), a2]) hT
      have S56 := S5.trans S6
      have dx6 := dx.mono S56
      have e6 := S6 _ _ e5
      have q6 := Same.tupl S6 q5
      have hlen : (lss.take i).flatten.length ≤ 400000 := Nat.le_trans (take_flat lss i) hn4
      have htk : (lss.take (i + 1)).flatten = (lss.take i).flatten ++ ln := by rw [List.take_succ, hl]; simp
      obtain ⟨g, gd, ps, hv, G, kp, hb⟩ := act _ hcm
      refine ⟨T, _, rfl, SqT.of upd_same, rfl, _, _, rfl, _, _, rfl, rfl, ?_⟩
      refine ⟨_, rfl, aD_WRITERS, _, .inr (S [ltr2 x]), .ref g, rfl, kD, rfl, hv, ?_⟩
      refine ⟨_, rfl, .inl ⟨rfl, _, SqL.of e6⟩, g, gd, ps, _, rfl, G, kp, hb, _, rfl, a2, x, ln, m, rfl, dx6, rfl, hsx, hm, hEx, hEl, fun l H7 _ S7 e7 => ?_⟩
      refine ext_ok (K := K) (S7 _ _ e6) e7 (by omega) fun H8 e8 kp8 kt => ⟨_, _, _, rfl, by rw [e8, htk], fun c o e => kp8 _ _ (S7 _ _ (S56 _ _ e)) (ne_of_none e hnl), kt _ _ (Same.tupl S7 q6)⟩
    · rintro σ H5 ⟨x3, x4, x5, rfl, e5, S5, q5⟩
      rw [show ws.length = lss.length by omega, List.take_length] at e5
      exact ⟨_, rfl, k nl H5 hnl S5 e5⟩
--SPLIT
def spWOb (K : PySem.W.Frag) (tab : Tab) : Sp := fun vs H Q _ => ∃ (v : V) (kd : Str) (fs : List Fl2) (i : Nat) (ns : List Nat) (m : Nat), vs = [v] ∧ Dt K H v (.tuple (.str kd :: fs.map fl2D)) ∧ tab[i]? = some (kd, fs.map ltr2) ∧ (∀ x ∈ fs, Fl2Sm0 m x) ∧ m ≤ 10 ^ 6 ∧ FldsE2 fs ns ∧ ns.length ≤ 400000 ∧
  ∀ l H', H l = none → Same H H' → H' l = some (.lst (nV (cnt i ++ ns))) → Q (.ref l) H'
theorem ok_wobject {f : Addr} {fd : FuncData} (F : Fun K "write_object" "write_object" s_write_object f fd) (T : Txt K mg) (U_OBJECTS : UseD P w K mg "OBJECTS" (txtKV objectsL)) (U_write_count : Use P w K mg base CX0 "write_count" 1 P_write_count (spCount K)) (U_written_fields : Use P w K mg base CX0 "_written_fields" 8 P_written_fields (spWFs2 K)) : FnG P w K mg base CX0 9 f fd P_write_object (spWOb K obTab) := by
  obtain ⟨aD_OBJECTS, gD_OBJECTS, kD⟩ := U_OBJECTS.ex
  refine okG0 F sc_write_object (fun vs H Q E h => ?_) fun cdv A outer s H vs Q E hr hg h => ?_
  · obtain ⟨v, kd, fs, i, ns, m, rfl, _⟩ := h
    rfl
  · obtain ⟨v, kd, fs, i, ns, m, rfl, dv, hi, hsm, hm, hE, hnl, k⟩ := h
    refine ⟨_, (pss_one (ps_ret (pe_op op_cat (pe_use U_write_count (hr.mono (by decide)) hg rfl (pa_cons (pe_bm PySem.F.plainAttrs_list PySem.F.slot_list_index PySem.F.type_list_index mt_index (pe_callTy (call_listK rfl) (by rfl) T.b_list (by decide +kernel) (pa_cons (pe_glob (v := .ref aD_OBJECTS) (by rfl) gD_OBJECTS rfl) pa_nil)) (pa_cons (pe_ix ix_tup (pv 0) pe_int (fun _ _ => rfl)) pa_nil)) pa_nil)) (pe_use U_written_fields (hr.mono (by decide)) hg rfl (pa_cons (pe_dgetK (pe_glob (v := .ref aD_OBJECTS) (by rfl) gD_OBJECTS rfl) (pe_ix ix_tup (pv 0) pe_int (fun _ _ => rfl)) (fun _ _ => rfl)) (pa_cons (pv 0) pa_nil)))))), ?_⟩
    have hmem := List.mem_of_getElem? hi
    have hok := obTab_ok _ hmem
    have hi60 : i < 10 := by rw [← obTab_n]; exact (List.getElem?_eq_some_iff.mp hi).1
    have hfl : fs.length ≤ 10 := by
      have := hok.2
      simpa using this
    obtain ⟨i1, i2, i3, i4, i5⟩ := idx_str objects_nd (tab_key objects_keys hi)
    obtain ⟨q, ws, rfl, hq, ha⟩ := (id dv).head
    refine ⟨aD_OBJECTS, _, rfl, kD, by decide, fun l1 hl1 => ?_⟩
    have S1 := Same.new (o := .lst ((txtKV objectsL).map fun kv => kV kv.1)) hl1
    have e1 : (upd H l1 (.lst ((txtKV objectsL).map fun kv => kV kv.1))) l1 = some (.lst ((objectsL.map (·.1)).map V.str)) := by rw [upd_same, keys_of]
    generalize upd H l1 (.lst ((txtKV objectsL).map fun kv => kV kv.1)) = H1 at S1 e1 ⊢
    refine ⟨.inl ⟨rfl, _, SqL.of e1⟩, _, rfl, q, _, _, _, rfl, rfl, Same.tupl S1 hq, at0, l1, _, .str kd, i, .str kd, rfl, rfl, SqL.of e1, i1, i2, i3, i4, i5, ?_⟩
    refine ⟨i, rfl, Nat.lt_of_le_of_lt (show i ≤ 60 by omega) (by decide +kernel), fun l2 H2 n2 S2 e2 => ?_⟩
    have S02 := S1.trans S2
    refine ⟨_, rfl, q, _, _, _, rfl, rfl, Same.tupl S02 hq, at0, aD_OBJECTS, _, .inr kd, _, rfl, kD, rfl, tab_val objects_at hmem, _, rfl, _, kd, fs, _, ns, m, rfl, dv.mono S02, rfl, hsm, hm, hE, hnl, hok.2, hok.1, fun l3 H3 n3 S3 e3 => ?_⟩
    have hc := cnt_b (n := i) (by omega)
    refine ⟨l2, l3, _, _, rfl, rfl, S3 _ _ e2, e3, by rw [nV_len, nV_len]; exact Nat.le_trans (show (cnt i).length + ns.length ≤ 500000 by omega) (by decide), fun l4 hl4 => ?_⟩
    have S03 := S02.trans S3
    exact k l4 _ (none_same0 S03 hl4) (S03.trans (Same.new hl4)) (by rw [upd_same, nV_app])
theorem ok_wcontrol {f : Addr} {fd : FuncData} (F : Fun K "write_control" "write_control" s_write_control f fd) (T : Txt K mg) (U_CONTROLS : UseD P w K mg "CONTROLS" (txtKV controlsL)) (U_write_count : Use P w K mg base CX0 "write_count" 1 P_write_count (spCount K)) (U_written_fields : Use P w K mg base CX0 "_written_fields" 5 P_written_fields (spWFs0 K)) : FnG P w K mg base CX0 6 f fd P_write_control (spWFr K coTab) := by
  obtain ⟨aD_CONTROLS, gD_CONTROLS, kD⟩ := U_CONTROLS.ex
  refine okG0 F sc_write_control (fun vs H Q E h => ?_) fun cdv A outer s H vs Q E hr hg h => ?_
  · obtain ⟨v, kd, fs, i, ns, m, rfl, _⟩ := h
    rfl
  · obtain ⟨v, kd, fs, i, ns, m, rfl, dv, hi, hsm, hm, hE, k⟩ := h
    refine ⟨_, (pss_one (ps_ret (pe_op op_cat (pe_use U_write_count (hr.mono (by decide)) hg rfl (pa_cons (pe_bm PySem.F.plainAttrs_list PySem.F.slot_list_index PySem.F.type_list_index mt_index (pe_callTy (call_listK rfl) (by rfl) T.b_list (by decide +kernel) (pa_cons (pe_glob (v := .ref aD_CONTROLS) (by rfl) gD_CONTROLS rfl) pa_nil)) (pa_cons (pe_ix ix_tup (pv 0) pe_int (fun _ _ => rfl)) pa_nil)) pa_nil)) (pe_use U_written_fields (hr.mono (by decide)) hg rfl (pa_cons (pe_dgetK (pe_glob (v := .ref aD_CONTROLS) (by rfl) gD_CONTROLS rfl) (pe_ix ix_tup (pv 0) pe_int (fun _ _ => rfl)) (fun _ _ => rfl)) (pa_cons (pv 0) pa_nil)))))), ?_⟩
    have hmem := List.mem_of_getElem? hi
    have hok := coTab_ok _ hmem
    have hi60 : i < 10 := by rw [← coTab_n]; exact (List.getElem?_eq_some_iff.mp hi).1
    have hnl := flds_len hE
    have hfl : fs.length ≤ 10 := by
      have := hok.2
      simpa using this
    have hnl : ns.length ≤ 100000 := by
      have := Nat.mul_le_mul_right 10000 hfl
      omega
    obtain ⟨i1, i2, i3, i4, i5⟩ := idx_str controls_nd (tab_key controls_keys hi)
    obtain ⟨q, ws, rfl, hq, ha⟩ := (id dv).head
    refine ⟨aD_CONTROLS, _, rfl, kD, by decide, fun l1 hl1 => ?_⟩
    have S1 := Same.new (o := .lst ((txtKV controlsL).map fun kv => kV kv.1)) hl1
    have e1 : (upd H l1 (.lst ((txtKV controlsL).map fun kv => kV kv.1))) l1 = some (.lst ((controlsL.map (·.1)).map V.str)) := by rw [upd_same, keys_of]
    generalize upd H l1 (.lst ((txtKV controlsL).map fun kv => kV kv.1)) = H1 at S1 e1 ⊢
    refine ⟨.inl ⟨rfl, _, SqL.of e1⟩, _, rfl, q, _, _, _, rfl, rfl, Same.tupl S1 hq, at0, l1, _, .str kd, i, .str kd, rfl, rfl, SqL.of e1, i1, i2, i3, i4, i5, ?_⟩
    refine ⟨i, rfl, Nat.lt_of_le_of_lt (show i ≤ 60 by omega) (by decide +kernel), fun l2 H2 n2 S2 e2 => ?_⟩
    have S02 := S1.trans S2
    refine ⟨_, rfl, q, _, _, _, rfl, rfl, Same.tupl S02 hq, at0, aD_CONTROLS, _, .inr kd, _, rfl, kD, rfl, tab_val controls_at hmem, _, rfl, _, kd, fs, _, ns, m, rfl, dv.mono S02, rfl, hsm, hm, hE, hok.2, hok.1, fun l3 H3 n3 S3 e3 => ?_⟩
    have hc := cnt_b (n := i) (by omega)
    refine ⟨l2, l3, _, _, rfl, rfl, S3 _ _ e2, e3, by rw [nV_len, nV_len]; exact Nat.le_trans (show (cnt i).length + ns.length ≤ 200000 by omega) (by decide), fun l4 hl4 => ?_⟩
    have S03 := S02.trans S3
    exact k l4 _ (none_same0 S03 hl4) (S03.trans (Same.new hl4)) (by rw [upd_same, nV_app])
end

section
--SPLIT
end
section
variable {P : Program} {w : World} {K : PySem.W.Frag} {mg : Str → Option Value} {base : Heap}
/-! the numbers of a whole machine -/
def mxl (c : Nat) : Nat := if c = 116 then 2400 else if c = 86 then 410 else if c = 87 ∨ c = 88 then 620 else 110
def mxF (x : Fld) : Nat := mxl (ltr x)
theorem fld_s {m : Nat} (hm : m ≤ 10 ^ 6) : ∀ {x : Fld}, FldSm0 m x → ∃ ns, FldE x ns ∧ ns.length ≤ mxF x
  | .v x, h => ⟨_, rfl, Nat.le_trans (sm_len h) (show 100 ≤ 110 by decide)⟩
  | .V xs, h => ⟨_, rfl, by
    have h1 := fm_le (b := 100) (g := enc) (xs := xs) fun x hx => sm_len (h.2 x hx)
    have h2 := cnt_small (n := xs.length) (Nat.le_trans h.1 (by decide))
    have := h.1
    rw [List.length_append]
    show _ ≤ 410
    omega⟩
  | .W ps, h => ⟨_, rfl, by
    have h1 := fm_le (b := 200) (g := fun p : Val × Val => enc p.1 ++ enc p.2) (xs := ps) fun x hx => by
      have a := sm_len (h.2 x hx).1
      have b := sm_len (h.2 x hx).2
      rw [List.length_append]; omega
    have h2 := cnt_small (n := ps.length) (Nat.le_trans h.1 (by decide))
    have := h.1
    rw [List.length_append]
    show _ ≤ 620
    omega⟩
  | .X ps, h => ⟨_, rfl, by
    have h1 := fm_le (b := 200) (g := fun p : List Nat × Val => strN p.1 ++ enc p.2) (xs := ps) fun x hx => by
      have a := tx_len2 (h.2 x hx).1
      have b := sm_len (h.2 x hx).2
      rw [List.length_append]; omega
    have h2 := cnt_small (n := ps.length) (Nat.le_trans h.1 (by decide))
    have := h.1
    rw [List.length_append]
    show _ ≤ 620
    omega⟩
  | .t d, h => by
    obtain ⟨ns, h1, h2⟩ := tree_enc (TreeD.le (m := 5) (by decide) h)
    have h0 : TreeD 3 d := h
    obtain ⟨ns3, h13, h23⟩ := tree_enc h0
    exact ⟨ns3, (by rw [h13.rd.det h1.rd]; exact h1), Nat.le_trans h23 (show bnd 3 ≤ 2400 by decide)⟩
  | .a k, h => ⟨_, rfl, Nat.le_trans (cnt_b (n := k) (by have : k < m := h; omega)) (show 3 ≤ 110 by decide)⟩
  | .b k, h => ⟨_, rfl, Nat.le_trans (cnt_b (n := (k + 1).toNat) (by have h1 : -1 ≤ k := h.1; have h2 : k < (m : Int) := h.2; omega)) (show 3 ≤ 110 by decide)⟩
  | .n i, h => ⟨_, rfl, Nat.le_trans (cnt_len 39 _ (zig40 h)) (show 39 + 1 ≤ 110 by decide)⟩
  | .x js, h => ⟨_, rfl, Nat.le_trans (tx_len2 h) (show 52 ≤ 110 by decide)⟩
  | .s0, _ => ⟨_, rfl, show 1 ≤ 110 by decide⟩
  | .s1 z, h => by
    rcases h with rfl | rfl
    · exact ⟨[1], .inl ⟨rfl, rfl⟩, by decide⟩
    · exact ⟨[2], .inr ⟨rfl, rfl⟩, by decide⟩
  | .s2 z x, h => by
    have hl := sm_len h.2
    have e : mxF (.s2 z x) = 110 := rfl
    rcases h.1 with rfl | rfl
    · exact ⟨_, .inl ⟨rfl, rfl⟩, by rw [e, List.length_cons]; omega⟩
    · exact ⟨_, .inr ⟨rfl, rfl⟩, by rw [e, List.length_cons]; omega⟩
theorem mxl_le (c : Nat) : mxl c ≤ 2400 := by unfold mxl; split <;> (try split) <;> (try split) <;> omega
theorem flds_s {m : Nat} (hm : m ≤ 10 ^ 6) : ∀ {xs : List Fld}, (∀ x ∈ xs, FldSm0 m x) → ∃ ns, FldsE xs ns ∧ ns.length ≤ ((xs.map ltr).map mxl).sum
  | [], _ => ⟨[], .nil, by simp⟩
  | x :: xs, h => by
    obtain ⟨a, h1, h2⟩ := fld_s hm (h x (by simp))
    obtain ⟨b, h3, h4⟩ := flds_s hm (xs := xs) fun y hy => h y (List.mem_cons_of_mem _ hy)
    have h2' : a.length ≤ mxl (ltr x) := h2
    have := mxl_le (ltr x)
    refine ⟨a ++ b, .cons h1 (by omega) h3, ?_⟩
    rw [List.length_append, List.map_cons, List.map_cons, List.sum_cons]
    omega
theorem frTab_sum : ∀ t ∈ frTab, (t.2.map mxl).sum ≤ 11000 := by decide +kernel
theorem coTab_sum : ∀ t ∈ coTab, (t.2.map mxl).sum ≤ 11000 := by decide +kernel
theorem obTab_sum2 : ∀ t ∈ obTab, (t.2.map fun c => if c = 70 then 22100 else mxl c).sum ≤ 22500 := by decide +kernel
theorem fr_s {m : Nat} (hm : m ≤ 10 ^ 6) {f : Fr} (h : FrSm0 m f) : ∃ ln, FrE f ln ∧ ln.length ≤ 11010 := by
  obtain ⟨j, hj, e⟩ := List.mem_iff_getElem.mp h.1
  obtain ⟨fn, h1, h2⟩ := flds_s hm h.2
  have hs := frTab_sum _ h.1
  have hj60 : j < 60 := by rw [← fr_len.2]; exact hj
  have hc := cnt_b (n := j) (by omega)
  refine ⟨cnt j ++ fn, ⟨j, fn, by rw [List.getElem?_eq_getElem hj, e], h1, rfl⟩, ?_⟩
  rw [List.length_append]
  have hs : ((f.fs.map ltr).map mxl).sum ≤ 11000 := hs
  omega
def CoE (f : Fr) (ln : List Nat) : Prop := ∃ j fn, coTab[j]? = some (f.kd, f.fs.map ltr) ∧ FldsE f.fs fn ∧ ln = cnt j ++ fn
theorem co_s {m : Nat} (hm : m ≤ 10 ^ 6) {f : Fr} (h1 : (f.kd, f.fs.map ltr) ∈ coTab) (h2 : ∀ x ∈ f.fs, FldSm0 m x) : ∃ ln, CoE f ln ∧ ln.length ≤ 11010 := by
  obtain ⟨j, hj, e⟩ := List.mem_iff_getElem.mp h1
  obtain ⟨fn, h3, h4⟩ := flds_s hm h2
  have hs := coTab_sum _ h1
  have hj60 : j < 10 := by rw [← coTab_n]; exact hj
  have hc := cnt_b (n := j) (by omega)
  refine ⟨cnt j ++ fn, ⟨j, fn, by rw [List.getElem?_eq_getElem hj, e], h3, rfl⟩, ?_⟩
  rw [List.length_append]
  have hs : ((f.fs.map ltr).map mxl).sum ≤ 11000 := hs
  omega
def mxl2 (c : Nat) : Nat := if c = 70 then 22100 else mxl c
theorem fl2_s {m : Nat} (hm : m ≤ 10 ^ 6) : ∀ {x : Fl2}, Fl2Sm0 m x → ∃ ns, FldE2 x ns ∧ ns.length ≤ mxl2 (ltr2 x) ∧ ns.length ≤ mx2 x
  | .one x, h => by
    obtain ⟨ns, h1, h2⟩ := fld_s hm h
    have h2 : ns.length ≤ mxl (ltr x) := h2
    have h3 := mxl_le (ltr x)
    refine ⟨ns, h1, ?_, by show _ ≤ 10000; omega⟩
    have : mxl2 (ltr2 (.one x)) = mxl (ltr x) := by cases x <;> rfl
    omega
  | .fr l, h => by
    obtain ⟨lss, h1, h2⟩ := all_ex (R := fun f (ln : List Nat) => FrE f ln ∧ ln.length ≤ 11010) fun f hf => fr_s hm (h.2 f hf)
    have h3 : ∀ ln ∈ lss, ln.length ≤ 11010 := fun ln hl => by
      obtain ⟨i, hi, e⟩ := List.mem_iff_getElem.mp hl
      have hd : l[i]? = some (l[i]'(by omega)) := List.getElem?_eq_getElem (by omega)
      exact (h2 i _ ln hd (by rw [List.getElem?_eq_getElem hi, e])).2
    have hf := flat_le h3
    have hl2 : l.length ≤ 2 := h.1
    have hc := cnt_small (n := l.length) (by omega)
    have hm2 := Nat.mul_le_mul_right 11010 (show lss.length ≤ 2 by omega)
    have hb : (cnt l.length ++ lss.flatten).length ≤ 22100 := by rw [List.length_append]; omega
    exact ⟨_, ⟨lss, h1, rfl, fun i f ln hf hl => (h2 i f ln hf hl).1, fun ln hl => Nat.le_trans (h3 ln hl) (by decide)⟩, hb, Nat.le_trans hb (by show 22100 ≤ 300000; decide)⟩
theorem flds2_s {m : Nat} (hm : m ≤ 10 ^ 6) : ∀ {xs : List Fl2}, (∀ x ∈ xs, Fl2Sm0 m x) → ∃ ns, FldsE2 xs ns ∧ ns.length ≤ ((xs.map ltr2).map mxl2).sum
  | [], _ => ⟨[], .nil, by simp⟩
  | x :: xs, h => by
    obtain ⟨a, h1, h2, h5⟩ := fl2_s hm (h x (by simp))
    obtain ⟨b, h3, h4⟩ := flds2_s hm (xs := xs) fun y hy => h y (List.mem_cons_of_mem _ hy)
    refine ⟨a ++ b, .cons h1 h5 h3, ?_⟩
    rw [List.length_append, List.map_cons, List.map_cons, List.sum_cons]
    omega
def ObE (o : Ob) (ln : List Nat) : Prop := ∃ j fn, obTab[j]? = some (o.kd, o.fs.map ltr2) ∧ FldsE2 o.fs fn ∧ ln = cnt j ++ fn
theorem ob_s {m : Nat} (hm : m ≤ 10 ^ 6) {o : Ob} (h : (o.kd, o.fs.map ltr2) ∈ obTab ∧ ∀ x ∈ o.fs, Fl2Sm0 m x) : ∃ ln, ObE o ln ∧ ln.length ≤ 22510 := by
  obtain ⟨j, hj, e⟩ := List.mem_iff_getElem.mp h.1
  obtain ⟨fn, h3, h4⟩ := flds2_s hm h.2
  have hs := obTab_sum2 _ h.1
  have hj60 : j < 10 := by rw [← obTab_n]; exact hj
  have hc := cnt_b (n := j) (by omega)
  refine ⟨cnt j ++ fn, ⟨j, fn, by rw [List.getElem?_eq_getElem hj, e], h3, rfl⟩, ?_⟩
  rw [List.length_append]
  have hs : ((o.fs.map ltr2).map mxl2).sum ≤ 22500 := hs
  omega
structure MacN (m : Nat) (M : Pt) (ob : List (List Nat)) (cn : List Nat) (fr : List (List Nat)) : Prop where
  ol : ob.length = M.obs.length
  oe : ∀ (i : Nat) (o : Ob) (ln : List Nat), M.obs[i]? = some o → ob[i]? = some ln → ObE o ln
  ob : ∀ ln ∈ ob, ln.length ≤ 22510
  os : ∀ o ∈ M.obs, ∀ x ∈ o.fs, Fl2Sm0 m x
  oc : M.obs.length = m
  c : CoE M.c cn
  cb : cn.length ≤ 11010
  cs : ∀ x ∈ M.c.fs, FldSm0 m x
  fl : fr.length = M.frs.length
  fe : ∀ (i : Nat) (f : Fr) (ln : List Nat), M.frs[i]? = some f → fr[i]? = some ln → FrE f ln
  fb : ∀ ln ∈ fr, ln.length ≤ 11010
  fs : ∀ f ∈ M.frs, ∀ x ∈ f.fs, FldSm0 m x
  hm : m ≤ 29
  hf : M.frs.length ≤ 5
def hdN (tk s a l n : Nat) (out here : List Nat) : List Nat := 1 :: (cnt tk ++ (cnt s ++ (strN out ++ (cnt a ++ (strN here ++ (cnt l ++ cnt n))))))
def tlN (cn : List Nat) (fr : List (List Nat)) : List Nat := cn ++ (cnt fr.length ++ fr.flatten)
def allN (tk s a l : Nat) (out here : List Nat) (ob : List (List Nat)) (cn : List Nat) (fr : List (List Nat)) : List Nat := hdN tk s a l ob.length out here ++ (ob.flatten ++ tlN cn fr)
theorem hd_le {M : Pt} {out here : List Nat} {a l s tk n : Nat} (X : PtV M out here a l s) (ht : tk ≤ 10 ^ 6) (hn : n ≤ 10 ^ 6) : (hdN tk s a l n out here).length ≤ 2000 := by
  have h1 := cnt_b ht
  have h2 := cnt_b hn
  have h3 := cnt_b X.s1
  have h4 := cnt_b X.l1
  have h5 := cnt_b (n := a) (by have := X.a1; omega)
  have h6 := cnt_b (n := out.length) (by have := X.o1; omega)
  have h7 := cnt_b (n := here.length) (by have := X.h1; omega)
  have := X.o1
  have := X.h1
  simp only [hdN, strN, List.length_cons, List.length_append]
  omega
theorem MacN.le {m : Nat} {M : Pt} {ob : List (List Nat)} {cn : List Nat} {fr : List (List Nat)} (N : MacN m M ob cn fr) : ob.flatten.length ≤ 29 * 22510 ∧ (tlN cn fr).length ≤ 67000 := by
  have h1 := flat_le N.ob
  have h2 := flat_le N.fb
  have := N.cb
  have := N.ol
  have := N.oc
  have := N.hm
  have := N.hf
  have := N.fl
  have h3 := Nat.mul_le_mul_right 22510 (show ob.length ≤ 29 by omega)
  have h4 := Nat.mul_le_mul_right 11010 (show fr.length ≤ 5 by omega)
  have h5 := cnt_small (n := fr.length) (by omega)
  refine ⟨by omega, ?_⟩
  simp only [tlN, List.length_append]
  omega
end

section
--SPLIT
end
abbrev s_held : Stmt := top 49
abbrev N_held : List Str := ["machine", "taken", "most", "same", "numbers", "item", "frame"]
abbrev P_held : List Str := ["machine", "taken", "most"]
theorem sc_held : FnScope N_held P_held (defScope s_held) := ⟨rfl, rfl, rfl, by decide +kernel, rfl, by decide +kernel, by decide +kernel⟩
abbrev s_write_machine : Stmt := top 48
abbrev N_write_machine : List Str := ["machine", "taken", "numbers"]
abbrev P_write_machine : List Str := ["machine", "taken"]
theorem sc_write_machine : FnScope N_write_machine P_write_machine (defScope s_write_machine) := ⟨rfl, rfl, rfl, by decide +kernel, rfl, by decide +kernel, by decide +kernel⟩
section
variable {P : Program} {w : World} {K : PySem.W.Frag} {mg : Str → Option Value} {base : Heap}
theorem mac_n {m : Nat} {M : Pt} (h : PtSm m M) (hm : m ≤ 29) : ∃ ob cn fr, MacN m M ob cn fr := by
  have h6 : m ≤ 10 ^ 6 := by omega
  have h20 : m ≤ 10 ^ 20 := Nat.le_trans h6 (by decide)
  obtain ⟨ob, a1, a2⟩ := all_ex (R := fun o (ln : List Nat) => ObE o ln ∧ ln.length ≤ 22510) (ds := M.obs) fun o ho => ob_s h6 ⟨(h.o o ho).1, fun x hx => ((h.o o ho).2 x hx).z h20⟩
  obtain ⟨fr, b1, b2⟩ := all_ex (R := fun f (ln : List Nat) => FrE f ln ∧ ln.length ≤ 11010) (ds := M.frs) fun f hf => fr_s h6 ((h.f f hf).z h20)
  obtain ⟨cn, c1, c2⟩ := co_s h6 h.c.1 fun x hx => (h.c.2 x hx).z h20
  refine ⟨ob, cn, fr, a1, fun i o ln x y => (a2 i o ln x y).1, fun ln hl => ?_, fun o ho x hx => ((h.o o ho).2 x hx).z h20, h.ol, c1, c2, fun x hx => (h.c.2 x hx).z h20, b1, fun i f ln x y => (b2 i f ln x y).1, fun ln hl => ?_, fun f hf x hx => ((h.f f hf).2 x hx).z h20, hm, h.fl⟩
  · obtain ⟨i, hi, e⟩ := List.mem_iff_getElem.mp hl
    exact (a2 i _ ln (List.getElem?_eq_getElem (by omega)) (by rw [List.getElem?_eq_getElem hi, e])).2
  · obtain ⟨i, hi, e⟩ := List.mem_iff_getElem.mp hl
    exact (b2 i _ ln (List.getElem?_eq_getElem (by omega)) (by rw [List.getElem?_eq_getElem hi, e])).2
def spHeld (K : PySem.W.Frag) (C : Addr) : Sp := fun vs H Q _ => ∃ (ma fl hl : Addr) (M : Pt) (m tk most : Nat) (out here : List Nat) (a l s : Nat), vs = [.ref ma, .int (tk : Int), .int (most : Int)] ∧ MacAt K C H ma fl hl M ∧ PtSm m M ∧ 17 ≤ m ∧ m ≤ 500 ∧ PtV M out here a l s ∧ tk ≤ 10 ^ 6 ∧
  ∀ t, Full M m t → ∃ (n : Nat) (ob : List (List Nat)) (cn : List Nat) (fr : List (List Nat)), MacN n (renP M (M.st t)) ob cn fr ∧ (allN tk s a l out here ob cn fr).length ≤ most ∧
    ∀ r H', H r = none → Same H H' → H' r = some (.lst (nV (allN tk s a l out here ob cn fr))) → Q (.ref r) H'
theorem ok_held {C : Addr} {f : Addr} {fd : FuncData} (F : Fun K "_held" "_held" s_held f fd) (T : Txt K mg) (UC_Machine : UseC K mg "Machine" fM C) (U_renumber : Use P w K mg base CX0 "renumber" 7 P_renumber (spRenumber K C)) (U_write_count : Use P w K mg base CX0 "write_count" 1 P_write_count (spCount K)) (U_write_string : Use P w K mg base CX0 "write_string" 2 P_write_string (spWStr K))
    (U_write_object : Use P w K mg base CX0 "write_object" 9 P_write_object (spWOb K obTab)) (U_write_control : Use P w K mg base CX0 "write_control" 6 P_write_control (spWFr K coTab)) (U_write_frame : Use P w K mg base CX0 "write_frame" 6 P_write_frame (spWFr K frTab)) : FnG P w K mg base CX0 10 f fd P_held (spHeld K C) := by
  refine okG0 F sc_held (fun vs H Q E h => ?_) fun cdv A outer s H vs Q E hr hg h => ?_
  · obtain ⟨ma, fl, hl, M, m, tk, most, out, here, a, l, s, rfl, _⟩ := h
    rfl
  · obtain ⟨ma, fl, hl, M, m, tk, most, out, here, a, l, st, rfl, MA, sm, hm, hm2, X, htk, k⟩ := h
    refine ⟨_, (pss_cons (ps_set (i := 3) sc_held.nd rfl (Or.inl rfl) (pe_use U_renumber (hr.mono (by decide)) hg rfl (pa_cons (pv 0) pa_nil)))
  (pss_cons (ps_set (i := 4) sc_held.nd rfl (Or.inl rfl) (pe_op op_cat (pe_op op_cat (pe_op op_cat (pe_lst (pa_cons (pe_globI T.c_MARK (by rfl)) pa_nil)) (pe_use U_write_count (hr.mono (by decide)) hg rfl (pa_cons (pv 1) pa_nil))) (pe_use U_write_count (hr.mono (by decide)) hg rfl (pa_cons (pe_fd UC_Machine (by decide +kernel) (pv 3)) pa_nil))) (pe_use U_write_string (hr.mono (by decide)) hg rfl (pa_cons (pe_fd UC_Machine (by decide +kernel) (pv 3)) pa_nil))))
  (pss_cons (ps_expr (pe_bm PySem.F.plainAttrs_list PySem.F.slot_list_extend PySem.F.type_list_extend mt_extend (pv 4) (pa_cons (pe_op op_cat (pe_op op_cat (pe_use U_write_count (hr.mono (by decide)) hg rfl (pa_cons (pe_fd UC_Machine (by decide +kernel) (pv 3)) pa_nil)) (pe_use U_write_string (hr.mono (by decide)) hg rfl (pa_cons (pe_fd UC_Machine (by decide +kernel) (pv 3)) pa_nil))) (pe_use U_write_count (hr.mono (by decide)) hg rfl (pa_cons (pe_fd UC_Machine (by decide +kernel) (pv 3)) pa_nil))) pa_nil)))
  (pss_cons (ps_expr (pe_bm PySem.F.plainAttrs_list PySem.F.slot_list_extend PySem.F.type_list_extend mt_extend (pv 4) (pa_cons (pe_use U_write_count (hr.mono (by decide)) hg rfl (pa_cons (pe_callB call_len (by rfl) T.b_len PySem.boot_len (pa_cons (pe_fd UC_Machine (by decide +kernel) (pv 3)) pa_nil)) pa_nil)) pa_nil)))
  (pss_cons (ps_for PassesOwn.never rfl (pi_list (pe_fd UC_Machine (by decide +kernel) (pv 3))) (pg_name (i := 5) sc_held.nd rfl (Or.inl rfl))
   (pss_cons (ps_if (pt_cmpR op_gt (pe_callB call_len (by rfl) T.b_len PySem.boot_len (pa_cons (pv 4) pa_nil)) (pv 2) (nomark _))
   (pss_one (ps_ret (pv 4)))
   pss_nil)
  (pss_one (ps_expr (pe_bm PySem.F.plainAttrs_list PySem.F.slot_list_extend PySem.F.type_list_extend mt_extend (pv 4) (pa_cons (pe_use U_write_object (hr.mono (by decide)) hg rfl (pa_cons (pv 5) pa_nil)) pa_nil))))))
  (pss_cons (ps_expr (pe_bm PySem.F.plainAttrs_list PySem.F.slot_list_extend PySem.F.type_list_extend mt_extend (pv 4) (pa_cons (pe_op op_cat (pe_use U_write_control (hr.mono (by decide)) hg rfl (pa_cons (pe_fd UC_Machine (by decide +kernel) (pv 3)) pa_nil)) (pe_use U_write_count (hr.mono (by decide)) hg rfl (pa_cons (pe_callB call_len (by rfl) T.b_len PySem.boot_len (pa_cons (pe_fd UC_Machine (by decide +kernel) (pv 3)) pa_nil)) pa_nil))) pa_nil)))
  (pss_cons (ps_for PassesOwn.never rfl (pi_list (pe_fd UC_Machine (by decide +kernel) (pv 3))) (pg_name (i := 6) sc_held.nd rfl (Or.inl rfl))
   (pss_cons (ps_if (pt_cmpR op_gt (pe_callB call_len (by rfl) T.b_len PySem.boot_len (pa_cons (pv 4) pa_nil)) (pv 2) (nomark _))
   (pss_one (ps_ret (pv 4)))
   pss_nil)
  (pss_one (ps_expr (pe_bm PySem.F.plainAttrs_list PySem.F.slot_list_extend PySem.F.type_list_extend mt_extend (pv 4) (pa_cons (pe_use U_write_frame (hr.mono (by decide)) hg rfl (pa_cons (pv 6) pa_nil)) pa_nil))))))
  (pss_one (ps_ret (pv 4)))))))))), ?_⟩
    refine ⟨_, rfl, ma, fl, hl, M, m, rfl, MA, sm, hm, hm2, fun mb fb hb t H1 full MB S1 _ _ _ _ => ?_⟩
    obtain ⟨n, ob, cn, fr, N, hmo, k⟩ := k t full
    obtain ⟨vc, ⟨dx, em⟩, dvc⟩ := MB.ex
    obtain ⟨ys, ey, ay⟩ := id MB.f
    obtain ⟨xs, ex, ax⟩ := id MB.h
    have b60 : ∀ n : Nat, n ≤ 10 ^ 6 → n < 128 ^ 60 := fun n h => Nat.lt_of_le_of_lt h (by decide +kernel)
    have hN := N.le
    have hH := hd_le (n := ob.length) X htk (by have := N.ol; have := N.oc; have := N.hm; omega)
    have h6 : n ≤ 10 ^ 6 := by have := N.hm; omega
    -- the beginning
    refine ⟨sz_1, fun l0 g0 => ?_⟩
    have S2 := Same.new (o := .lst [.int 1]) g0
    have e0 : upd H1 l0 (.lst [V.int 1]) l0 = some (.lst (nV [1])) := upd_same
    generalize upd H1 l0 (.lst [V.int 1]) = H2 at S2 e0 ⊢
    refine ⟨_, rfl, tk, rfl, b60 _ htk, fun l1 H3 n1 S3 e1 => ?_⟩
    have c1 := cnt_b htk
    have c2 := cnt_b X.s1
    have c3 := cnt_b (n := out.length) (by have := X.o1; omega)
    have c4 := cnt_b (n := here.length) (by have := X.h1; omega)
    have c5 := cnt_b (n := a) (by have := X.a1; omega)
    have c6 := cnt_b X.l1
    have o1 := X.o1
    have h1 := X.h1
    refine ⟨l0, l1, _, _, rfl, rfl, S3 _ _ e0, e1, by rw [nV_len, nV_len]; exact Nat.le_trans (show [1].length + (cnt tk).length ≤ 2000 by simp; omega) (by decide), fun l2 g2 => ?_⟩
    have S4 := Same.new (o := .lst (nV [1] ++ nV (cnt tk))) g2
    have e2 : upd H3 l2 (.lst (nV [1] ++ nV (cnt tk))) l2 = some (.lst (nV (1 :: cnt tk))) := by rw [upd_same]; rfl
    generalize upd H3 l2 (.lst (nV [1] ++ nV (cnt tk))) = H4 at S4 e2 ⊢
    have S14 := (S2.trans S3).trans S4
    refine ⟨_, rfl, mb, dx, _, _, rfl, S14 _ _ em, mf_steps, st, by show [V.int M.steps] = _; rw [X.es], b60 _ X.s1, fun l3 H5 n3 S5 e3 => ?_⟩
    refine ⟨l2, l3, _, _, rfl, rfl, S5 _ _ e2, e3, by rw [nV_len, nV_len]; exact Nat.le_trans (show (1 :: cnt tk).length + (cnt st).length ≤ 2000 by simp; omega) (by decide), fun l4 g4 => ?_⟩
    have S6 := Same.new (o := .lst (nV (1 :: cnt tk) ++ nV (cnt st))) g4
    have e4 : upd H5 l4 (.lst (nV (1 :: cnt tk) ++ nV (cnt st))) l4 = some (.lst (nV (1 :: cnt tk ++ cnt st))) := by rw [upd_same, ← nV_app]
    generalize upd H5 l4 (.lst (nV (1 :: cnt tk) ++ nV (cnt st))) = H6 at S6 e4 ⊢
    have S16 := (S14.trans S5).trans S6
    refine ⟨_, rfl, mb, dx, _, _, rfl, S16 _ _ em, mf_out, out, by show [V.str M.out] = _; rw [X.eo], by omega, X.o2, fun l5 H7 n5 S7 e5 => ?_⟩
    have so : (strN out).length ≤ 1010 := by rw [strN, List.length_append]; omega
    refine ⟨l4, l5, _, _, rfl, rfl, S7 _ _ e4, e5, by rw [nV_len, nV_len]; exact Nat.le_trans (show (1 :: cnt tk ++ cnt st).length + (strN out).length ≤ 2000 by simp; omega) (by decide), fun nl gn => ?_⟩
    have hnl1 : H1 nl = none := same_none (S16.trans S7) gn
    have S8 := Same.new (o := .lst (nV (1 :: cnt tk ++ cnt st) ++ nV (strN out))) gn
    have en : upd H7 nl (.lst (nV (1 :: cnt tk ++ cnt st) ++ nV (strN out))) nl = some (.lst (nV (1 :: cnt tk ++ cnt st ++ strN out))) := by rw [upd_same, ← nV_app]
    generalize upd H7 nl (.lst (nV (1 :: cnt tk ++ cnt st) ++ nV (strN out))) = H8 at S8 en ⊢
    have S18 := (S16.trans S7).trans S8
    clear S2 S3 S4 S5 S6 S7 S8 S14 S16 e0 e1 e2 e3 e4 e5
    -- the next three
    refine ⟨_, rfl, .inl ⟨rfl, _, SqL.of en⟩, _, rfl, mb, dx, _, _, rfl, S18 _ _ em, mf_active, a, by show [V.int M.act] = _; rw [X.ea], b60 _ (by have := X.a1; omega), fun l6 H9 n6 S9 e6 => ?_⟩
    have S19 := S18.trans S9
    refine ⟨_, rfl, mb, dx, _, _, rfl, S19 _ _ em, mf_here, here, by show [V.str M.here] = _; rw [X.eh], by omega, X.h2, fun l7 H10 n7 S10 e7 => ?_⟩
    have sh : (strN here).length ≤ 40 := by rw [strN, List.length_append]; omega
    refine ⟨l6, l7, _, _, rfl, rfl, S10 _ _ e6, e7, by rw [nV_len, nV_len]; exact Nat.le_trans (show (cnt a).length + (strN here).length ≤ 2000 by omega) (by decide), fun l8 g8 => ?_⟩
    have S11 := Same.new (o := .lst (nV (cnt a) ++ nV (strN here))) g8
    have e8 : upd H10 l8 (.lst (nV (cnt a) ++ nV (strN here))) l8 = some (.lst (nV (cnt a ++ strN here))) := by rw [upd_same, ← nV_app]
    generalize upd H10 l8 (.lst (nV (cnt a) ++ nV (strN here))) = H11 at S11 e8 ⊢
    have S811 := (S9.trans S10).trans S11
    refine ⟨_, rfl, mb, dx, _, _, rfl, (S18.trans S811) _ _ em, mf_line, l, by show [V.int M.line] = _; rw [X.el], b60 _ X.l1, fun l9 H12 n9 S12 e9 => ?_⟩
    refine ⟨l8, l9, _, _, rfl, rfl, S12 _ _ e8, e9, by rw [nV_len, nV_len]; exact Nat.le_trans (show (cnt a ++ strN here).length + (cnt l).length ≤ 2000 by rw [List.length_append]; omega) (by decide), fun l10 g10 => ?_⟩
    have S13 := Same.new (o := .lst (nV (cnt a ++ strN here) ++ nV (cnt l))) g10
    have e10 : upd H12 l10 (.lst (nV (cnt a ++ strN here) ++ nV (cnt l))) l10 = some (.lst (nV (cnt a ++ strN here ++ cnt l))) := by rw [upd_same, ← nV_app]
    generalize upd H12 l10 (.lst (nV (cnt a ++ strN here) ++ nV (cnt l))) = H13 at S13 e10 ⊢
    have S813 := (S811.trans S12).trans S13
    refine ext_ok (K := K) (S813 _ _ en) e10 (by simp only [List.length_append, List.length_cons]; omega) fun H14 e14 kp14 _ => ?_
    have S114 : Same H1 H14 := fun b o e => kp14 _ _ ((S18.trans S813) _ _ e) (ne_of_none e hnl1)
    clear S9 S10 S11 S12 S13 S811 S813 S18 S19 e6 e7 e8 e9 e10 kp14 en
    have hxl : xs.length = ob.length := by rw [ax.length, List.length_map, N.ol]
    have hol : ob.length ≤ 29 := by have := N.ol; have := N.oc; have := N.hm; omega
    refine ⟨_, rfl, .inl ⟨rfl, _, SqL.of e14⟩, _, rfl, mb, dx, _, _, rfl, S114 _ _ em, mf_heap, _, _, rfl, .inl ⟨_, SqL.of (S114 _ _ ex), rfl⟩, ob.length, by rw [hxl], b60 _ (by omega), fun l11 H15 n11 S15 e11 => ?_⟩
    have c7 := cnt_b (n := ob.length) (by omega)
    refine ext_ok (K := K) (S15 _ _ e14) e11 (by simp only [List.length_append, List.length_cons]; omega) fun H16 e16 kp16 _ => ?_
    have S116 : Same H1 H16 := fun b o e => kp16 _ _ (S15 _ _ (S114 _ _ e)) (ne_of_none e hnl1)
    clear S15 S114 e11 e14 kp16
    rw [show 1 :: cnt tk ++ cnt st ++ strN out ++ (cnt a ++ strN here ++ cnt l) ++ cnt ob.length = hdN tk st a l ob.length out here by simp [hdN, List.append_assoc]] at e16
    -- the heap
    have hall : (allN tk st a l out here ob cn fr).length = (hdN tk st a l ob.length out here).length + (ob.flatten.length + (tlN cn fr).length) := by simp only [allN, List.length_append]
    refine ⟨_, rfl, mb, dx, _, _, rfl, S116 _ _ em, mf_heap, hb, rfl, ⟨_, SqL.of (S116 _ _ ex)⟩, ?_⟩
    refine for_list (xs := xs) (fun i σ H5 => ∃ x5, σ = [some (.ref ma), some (.int (tk : Int)), some (.int (most : Int)), some (.ref mb), some (.ref nl), x5, none] ∧ Same H1 H5 ∧ H5 nl = some (.lst (nV (hdN tk st a l ob.length out here ++ (ob.take i).flatten)))) ⟨none, rfl, S116, by simpa using e16⟩ ?_ ?_ ?_
    · rintro i σ H5 _ ⟨x5, rfl, S5, _⟩
      exact SqL.of (S5 _ _ ex)
    · rintro i y σ H5 hy ⟨x5, rfl, S5, e5⟩
      have htl := take_flat ob i
      refine ⟨_, rfl, _, _, rfl, .inl ⟨_, SqL.of e5, rfl⟩, _, rfl, _, _, rfl, rfl, _, rfl, iteFb (decide_eq_false (by rw [nV_len, List.length_append]; omega)) ?_⟩
      obtain ⟨d, hd, dy⟩ := (ax.mono S5).getV hy
      rw [List.getElem?_map] at hd
      obtain ⟨o, hoi, rfl⟩ := Option.map_eq_some_iff.mp hd
      have hil : i < ob.length := by have := (List.getElem?_eq_some_iff.mp hy).1; omega
      have hl : ob[i]? = some ob[i] := List.getElem?_eq_getElem hil
      obtain ⟨j, fn, hj, hfn, hln⟩ := N.oe i o _ hoi hl
      have hb := N.ob _ (List.mem_of_getElem? hl)
      generalize ob[i] = ln at hl hln hb
      subst hln
      rw [List.length_append] at hb
      refine ⟨_, rfl, .inl ⟨rfl, _, SqL.of e5⟩, _, rfl, y, o.kd, o.fs, j, fn, n, rfl, dy, hj, N.os o (List.mem_of_getElem? hoi), h6, hfn, by omega, fun l H6 _ S6 e6 => ?_⟩
      refine ext_ok (K := K) (S6 _ _ e5) e6 (by simp only [List.length_append]; omega) fun H7 e7 kp _ => ⟨some y, rfl, fun b o e => kp _ _ (S6 _ _ (S5 _ _ e)) (ne_of_none e hnl1), ?_⟩
      rw [e7, List.take_succ, hl, List.append_assoc]
      simp
    rintro σ H17 ⟨x5, rfl, S17, e17⟩
    rw [hxl, List.take_length] at e17
    clear S116 e16
    -- control
    obtain ⟨jc, fc, hjc, hfc, hcn⟩ := N.c
    have hcb := N.cb
    subst hcn
    have hyl : ys.length = fr.length := by rw [ay.length, List.length_map, N.fl]
    have hfl : fr.length ≤ 5 := by have := N.fl; have := N.hf; omega
    have c8 := cnt_b (n := fr.length) (by omega)
    refine ⟨_, rfl, .inl ⟨rfl, _, SqL.of e17⟩, _, rfl, mb, dx, _, _, rfl, S17 _ _ em, mf_control, vc, _, _, jc, fc, n, rfl, dvc.mono S17, hjc, N.cs, h6, hfc, fun l12 H18 n12 S18 e18 => ?_⟩
    have S118 := S17.trans S18
    refine ⟨_, rfl, mb, dx, _, _, rfl, S118 _ _ em, mf_frames, _, _, rfl, .inl ⟨_, SqL.of (S118 _ _ ey), rfl⟩, fr.length, by rw [hyl], b60 _ (by omega), fun l13 H19 n13 S19 e19 => ?_⟩
    refine ⟨l12, l13, _, _, rfl, rfl, S19 _ _ e18, e19, by rw [nV_len, nV_len]; exact Nat.le_trans (show (cnt jc ++ fc).length + (cnt fr.length).length ≤ 20000 by omega) (by decide), fun l14 g14 => ?_⟩
    have S20 := Same.new (o := .lst (nV (cnt jc ++ fc) ++ nV (cnt fr.length))) g14
    have e20 : upd H19 l14 (.lst (nV (cnt jc ++ fc) ++ nV (cnt fr.length))) l14 = some (.lst (nV (cnt jc ++ fc ++ cnt fr.length))) := by rw [upd_same, ← nV_app]
    generalize upd H19 l14 (.lst (nV (cnt jc ++ fc) ++ nV (cnt fr.length))) = H20 at S20 e20 ⊢
    have S1720 := (S18.trans S19).trans S20
    refine ext_ok (K := K) (S1720 _ _ e17) e20 (by rw [List.length_append (as := hdN _ _ _ _ _ _ _), List.length_append (bs := cnt fr.length)]; omega) fun H21 e21 kp21 _ => ?_
    have S121 : Same H1 H21 := fun b o e => kp21 _ _ ((S17.trans S1720) _ _ e) (ne_of_none e hnl1)
    clear S17 S18 S19 S20 S118 S1720 e17 e18 e19 e20 kp21
    have htn : (tlN (cnt jc ++ fc) fr).length = (cnt jc ++ fc).length + ((cnt fr.length).length + fr.flatten.length) := by simp only [tlN, List.length_append]
    -- frames
    refine ⟨_, rfl, mb, dx, _, _, rfl, S121 _ _ em, mf_frames, fb, rfl, ⟨_, SqL.of (S121 _ _ ey)⟩, ?_⟩
    refine for_list (xs := ys) (fun i σ H5 => ∃ x6, σ = [some (.ref ma), some (.int (tk : Int)), some (.int (most : Int)), some (.ref mb), some (.ref nl), x5, x6] ∧ Same H1 H5 ∧ H5 nl = some (.lst (nV (hdN tk st a l ob.length out here ++ ob.flatten ++ (cnt jc ++ fc ++ cnt fr.length) ++ (fr.take i).flatten)))) ⟨none, rfl, S121, by simpa using e21⟩ ?_ ?_ ?_
    · rintro i σ H5 _ ⟨x6, rfl, S5, _⟩
      exact SqL.of (S5 _ _ ey)
    · rintro i y σ H5 hy ⟨x6, rfl, S5, e5⟩
      have htl := take_flat fr i
      have hlen : (hdN tk st a l ob.length out here ++ ob.flatten ++ (cnt jc ++ fc ++ cnt fr.length) ++ (fr.take i).flatten).length ≤ (allN tk st a l out here ob (cnt jc ++ fc) fr).length := by
        rw [hall, htn]
        simp only [List.length_append]
        omega
      refine ⟨_, rfl, _, _, rfl, .inl ⟨_, SqL.of e5, rfl⟩, _, rfl, _, _, rfl, rfl, _, rfl, iteFb (decide_eq_false (by rw [nV_len]; omega)) ?_⟩
      obtain ⟨d, hd, dy⟩ := (ay.mono S5).getV hy
      rw [List.getElem?_map] at hd
      obtain ⟨g, hgi, rfl⟩ := Option.map_eq_some_iff.mp hd
      have hil : i < fr.length := by have := (List.getElem?_eq_some_iff.mp hy).1; omega
      have hl : fr[i]? = some fr[i] := List.getElem?_eq_getElem hil
      obtain ⟨j, fn, hj, hfn, hln⟩ := N.fe i g _ hgi hl
      have hb := N.fb _ (List.mem_of_getElem? hl)
      generalize fr[i] = ln at hl hln hb
      subst hln
      refine ⟨_, rfl, .inl ⟨rfl, _, SqL.of e5⟩, _, rfl, y, g.kd, g.fs, j, fn, n, rfl, dy, hj, N.fs g (List.mem_of_getElem? hgi), h6, hfn, fun l H6 _ S6 e6 => ?_⟩
      refine ext_ok (K := K) (S6 _ _ e5) e6 (by omega) fun H7 e7 kp _ => ⟨some y, rfl, fun b o e => kp _ _ (S6 _ _ (S5 _ _ e)) (ne_of_none e hnl1), ?_⟩
      rw [e7, List.take_succ, hl, List.append_assoc]
      simp
    rintro σ H22 ⟨x6, rfl, S22, e22⟩
    rw [hyl, List.take_length] at e22
    refine ⟨_, rfl, k nl H22 (same_none S1 hnl1) (S1.trans S22) ?_⟩
    rw [e22]
    simp [allN, tlN, List.append_assoc]
def spWMach (K : PySem.W.Frag) (C : Addr) : Sp := fun vs H Q _ => ∃ (ma fl hl : Addr) (M : Pt) (m tk : Nat) (out here : List Nat) (a l s : Nat), vs = [.ref ma, .int (tk : Int)] ∧ MacAt K C H ma fl hl M ∧ PtSm m M ∧ 17 ≤ m ∧ m ≤ 500 ∧ PtV M out here a l s ∧ tk ≤ 10 ^ 6 ∧
  ∀ t, Full M m t → ∃ (n : Nat) (ob : List (List Nat)) (cn : List Nat) (fr : List (List Nat)), MacN n (renP M (M.st t)) ob cn fr ∧
    ∀ r H', H r = none → Same H H' → H' r = some (.lst (nV (allN tk s a l out here ob cn fr))) → (allN tk s a l out here ob cn fr).length ≤ 800000 → Q (.ref r) H'
theorem ok_wmachine {C : Addr} {f : Addr} {fd : FuncData} (F : Fun K "write_machine" "write_machine" s_write_machine f fd) (T : Txt K mg) (U_held : Use P w K mg base CX0 "_held" 10 P_held (spHeld K C)) : FnG P w K mg base CX0 11 f fd P_write_machine (spWMach K C) := by
  refine okG0 F sc_write_machine (fun vs H Q E h => ?_) fun cdv A outer s H vs Q E hr hg h => ?_
  · obtain ⟨ma, fl, hl, M, m, tk, out, here, a, l, s, rfl, _⟩ := h
    rfl
  · obtain ⟨ma, fl, hl, M, m, tk, out, here, a, l, st, rfl, MA, sm, hm, hm2, X, htk, k⟩ := h
    refine ⟨_, (pss_cons (ps_set (i := 2) sc_write_machine.nd rfl (Or.inl rfl) (pe_use U_held (hr.mono (by decide)) hg rfl (pa_cons (pv 0) (pa_cons (pv 1) (pa_cons (pe_globI T.c_MOST_NUMBERS (by rfl)) pa_nil)))))
  (pss_cons (ps_if (pt_cmpR op_gt (pe_callB call_len (by rfl) T.b_len PySem.boot_len (pa_cons (pv 2) pa_nil)) (pe_globI T.c_MOST_NUMBERS (by rfl)) (nomark _))
   pss_never
   pss_nil)
  (pss_one (ps_ret (pv 2))))), ?_⟩
    refine ⟨_, rfl, _, rfl, ma, fl, hl, M, m, tk, 1000000, out, here, a, l, st, rfl, MA, sm, hm, hm2, X, htk, fun t full => ?_⟩
    obtain ⟨n, ob, cn, fr, N, k⟩ := k t full
    have hN := N.le
    have hH := hd_le (n := ob.length) X htk (by have := N.ol; have := N.oc; have := N.hm; omega)
    have hall : (allN tk st a l out here ob cn fr).length = (hdN tk st a l ob.length out here).length + (ob.flatten.length + (tlN cn fr).length) := by simp only [allN, List.length_append]
    refine ⟨n, ob, cn, fr, N, by omega, fun r H' hr S e => ?_⟩
    refine ⟨_, rfl, _, _, rfl, .inl ⟨_, SqL.of e, rfl⟩, _, _, rfl, rfl, _, rfl, iteFb (decide_eq_false (by rw [nV_len]; omega)) ?_⟩
    exact ⟨_, rfl, k r H' hr S e (by omega)⟩
end

section
--SPLIT
end
section
variable {P : Program} {w : World} {K : PySem.W.Frag} {mg : Str → Option Value} {base : Heap}
/-! a machine turned about: its objects at other places, more objects beside -/
structure Oth (M : Pt) (m : Nat) (O : Pt) (l : List Int) : Prop where
  nd : l.Nodup
  all : ∀ k : Nat, k < m → (k : Int) ∈ l
  first : ∀ i : Nat, i < 17 → l[i]? = some (i : Int)
  ol : O.obs.length = l.length
  sm : ∀ o ∈ O.obs, ObSm l.length o
  ob : ∀ k : Nat, k < m → O.obs[l.idxOf (k : Int)]? = some (tob l (M.ob (k : Int)))
  c : O.c = tfr l M.c
  frs : O.frs = M.frs.map (tfr l)
  out : O.out = M.out
  act : O.act = M.act
  here : O.here = M.here
  line : O.line = M.line
  steps : O.steps = M.steps
theorem idx_map {S l : List Int} (hS : S.Nodup) (hin : ∀ x ∈ S, x ∈ l) {k : Int} (hk : k ∈ S) : (S.map (gx l)).idxOf (gx l k) = S.idxOf k := by
  have hn : (S.map (gx l)).Nodup := by
    refine List.pairwise_map.mpr ?_
    exact List.Pairwise.imp_of_mem (fun {x y} hx hy h e => h (gx_inj (hin _ hx) (hin _ hy) e)) hS
  refine idx_of hn ?_
  rw [List.getElem?_map, idx_at hk]
  rfl
theorem tv_comp {S l : List Int} (hS : S.Nodup) (hin : ∀ x ∈ S, x ∈ l) {x : Val} (h : ∀ k ∈ valR x, k ∈ S) : tv (S.map (gx l)) (tv l x) = tv S x := by
  cases x with
  | ref n =>
    have := idx_map hS hin (h (n : Int) (by simp [valR]))
    show Val.ref ((S.map (gx l)).idxOf ((l.idxOf (n : Int) : Nat) : Int)) = .ref (S.idxOf (n : Int))
    rw [show ((l.idxOf (n : Int) : Nat) : Int) = gx l (n : Int) from rfl, this]
  | _ => rfl
theorem tf_comp {S l : List Int} (hS : S.Nodup) (hin : ∀ x ∈ S, x ∈ l) {x : Fld} (h : FldL S x) : tf (S.map (gx l)) (tf l x) = tf S x := by
  have hv : ∀ y ∈ fldVs x, fldR x = (fldVs x).flatMap valR → tv (S.map (gx l)) (tv l y) = tv S y := fun y hy e => tv_comp hS hin fun k hk => h k (by rw [e]; exact List.mem_flatMap.mpr ⟨y, hy, hk⟩)
  cases x with
  | v x => exact congrArg Fld.v (hv x (by simp [fldVs]) rfl)
  | V xs =>
    show Fld.V ((xs.map _).map _) = .V _
    rw [List.map_map]
    exact congrArg Fld.V (List.map_congr_left fun y hy => hv y hy rfl)
  | W ps =>
    show Fld.W ((ps.map _).map _) = .W _
    rw [List.map_map]
    refine congrArg Fld.W (List.map_congr_left fun p hp => ?_)
    show (tv _ (tv l p.1), tv _ (tv l p.2)) = (tv S p.1, tv S p.2)
    rw [hv p.1 (List.mem_flatMap.mpr ⟨p, hp, by simp⟩) rfl, hv p.2 (List.mem_flatMap.mpr ⟨p, hp, by simp⟩) rfl]
  | X ps =>
    show Fld.X ((ps.map _).map _) = .X _
    rw [List.map_map]
    refine congrArg Fld.X (List.map_congr_left fun p hp => ?_)
    show (p.1, tv _ (tv l p.2)) = (p.1, tv S p.2)
    rw [hv p.2 (List.mem_map.mpr ⟨p, hp, rfl⟩) rfl]
  | s2 z x => exact congrArg (Fld.s2 z) (hv x (by simp [fldVs]) rfl)
  | a k =>
    have := idx_map hS hin (h (k : Int) (by simp [fldR]))
    show Fld.a ((S.map (gx l)).idxOf ((l.idxOf (k : Int) : Nat) : Int)) = .a (S.idxOf (k : Int))
    rw [show ((l.idxOf (k : Int) : Nat) : Int) = gx l (k : Int) from rfl, this]
  | b k =>
    show Fld.b (if 0 ≤ (if 0 ≤ k then ((l.idxOf k : Nat) : Int) else k) then (((S.map (gx l)).idxOf (if 0 ≤ k then ((l.idxOf k : Nat) : Int) else k) : Nat) : Int) else (if 0 ≤ k then ((l.idxOf k : Nat) : Int) else k)) = .b (if 0 ≤ k then ((S.idxOf k : Nat) : Int) else k)
    by_cases c : 0 ≤ k
    · have := idx_map hS hin (h k (by simp [fldR, c]))
      rw [if_pos c, if_pos c, if_pos (by omega), show ((l.idxOf k : Nat) : Int) = gx l k from rfl, this]
    · rw [if_neg c, if_neg c, if_neg c]
  | _ => rfl
theorem tfr_comp {S l : List Int} (hS : S.Nodup) (hin : ∀ x ∈ S, x ∈ l) {f : Fr} (h : ∀ k ∈ frR f, k ∈ S) : tfr (S.map (gx l)) (tfr l f) = tfr S f := by
  show Fr.mk f.kd ((f.fs.map _).map _) = Fr.mk f.kd _
  rw [List.map_map]
  exact congrArg (Fr.mk f.kd) (List.map_congr_left fun x hx => tf_comp hS hin fun k hk => h k (List.mem_flatMap.mpr ⟨x, hx, hk⟩))
theorem tf2_comp {S l : List Int} (hS : S.Nodup) (hin : ∀ x ∈ S, x ∈ l) {x : Fl2} (h : Fl2L S x) : tf2 (S.map (gx l)) (tf2 l x) = tf2 S x := by
  cases x with
  | one x => exact congrArg Fl2.one (tf_comp hS hin h)
  | fr fl =>
    show Fl2.fr ((fl.map _).map _) = .fr _
    rw [List.map_map]
    exact congrArg Fl2.fr (List.map_congr_left fun f hf => tfr_comp hS hin fun k hk => h k (List.mem_flatMap.mpr ⟨f, hf, hk⟩))
theorem tob_comp {S l : List Int} (hS : S.Nodup) (hin : ∀ x ∈ S, x ∈ l) {o : Ob} (h : ∀ k ∈ obR o, k ∈ S) : tob (S.map (gx l)) (tob l o) = tob S o := by
  show Ob.mk o.kd ((o.fs.map _).map _) = Ob.mk o.kd _
  rw [List.map_map]
  exact congrArg (Ob.mk o.kd) (List.map_congr_left fun x hx => tf2_comp hS hin fun k hk => h k (List.mem_flatMap.mpr ⟨x, hx, hk⟩))
theorem Full.in_l {M O : Pt} {m t : Nat} {l : List Int} (h : Full M m t) (o : Oth M m O l) : ∀ x ∈ M.st t, x ∈ l := fun x hx => by
  obtain ⟨j, rfl, ho, _⟩ := h.at hx
  have := (List.getElem?_eq_some_iff.mp ho).1
  rw [h.sm.ol] at this
  exact o.all j this
theorem Oth.roots {M O : Pt} {m : Nat} {l : List Int} (o : Oth M m O l) : O.roots = M.roots.map (gx l) := by
  show O.c.fs.flatMap fldR ++ O.frs.flatMap frR = (M.c.fs.flatMap fldR ++ M.frs.flatMap frR).map (gx l)
  rw [o.c, o.frs, List.map_append]
  congr 1
  · exact frR_tf l M.c
  · rw [List.flatMap_map, List.map_flatMap]
    congr 1
    funext x
    exact frR_tf l x
theorem Oth.R {M O : Pt} {m t : Nat} {l : List Int} (o : Oth M m O l) (h : Full M m t) {z : Int} (hz : z ∈ M.st t) : O.R (gx l z) = (M.R z).map (gx l) := by
  obtain ⟨j, rfl, ho, hos, hR, hsub⟩ := h.at hz
  have hj : j < m := by have := (List.getElem?_eq_some_iff.mp ho).1; rw [h.sm.ol] at this; exact this
  rw [hR, ← obR_tf]
  unfold Pt.R
  rw [show (gx l (j : Int)).toNat = l.idxOf (j : Int) from Int.toNat_natCast _, o.ob j hj]
theorem Oth.st {M O : Pt} {m t : Nat} {l : List Int} (o : Oth M m O l) (h : Full M m t) : ∀ s ≤ t, O.st s = (M.st s).map (gx l)
  | 0, _ => by
    have hin := h.in_l o
    show addN _ _ = (addN _ _).map _
    rw [o.roots]
    have h17 : ((List.range 17).map fun (i : Nat) => (i : Int)).map (gx l) = (List.range 17).map fun (i : Nat) => (i : Int) := by
      rw [List.map_map]
      refine List.map_congr_left fun i hi => ?_
      show gx l (i : Int) = i
      unfold gx
      rw [idx_of o.nd (o.first i (List.mem_range.mp hi))]
    rw [← addN_map _ _ ?_ fun x hx => hin x (h.e.closed.1 x hx), h17]
    intro x hx
    obtain ⟨i, hi, rfl⟩ := List.mem_map.mp hx
    exact List.mem_of_getElem? (o.first i (List.mem_range.mp hi))
  | s + 1, hs => by
    have hin := h.in_l o
    have ih := o.st h s (by omega)
    have hst : ∀ x ∈ M.st s, x ∈ M.st t := fun x hx => by
      obtain ⟨more, em⟩ := St_le (R := M.R) (roots := M.roots) (show s ≤ t by omega)
      show x ∈ St M.R M.roots t
      rw [em]; exact List.mem_append_left _ hx
    have hlt := h.e.go s (by omega)
    have hz : (M.st s)[s]? = some (M.st s)[s] := List.getElem?_eq_getElem hlt
    generalize (M.st s)[s] = z at hz
    have hzt := hst z (List.mem_of_getElem? hz)
    have h2 : (O.st s)[s]? = some (gx l z) := by rw [ih, List.getElem?_map, hz]; rfl
    obtain ⟨j, rfl, ho, hos, hR, hsub⟩ := h.at hzt
    show St _ _ (s + 1) = (St _ _ (s + 1)).map _
    rw [St_lt h2, St_lt hz, o.R h hzt, show St O.R O.roots s = _ from ih]
    exact addN_map _ _ (fun x hx => hin x (hst x hx)) fun x hx => hin x (hsub x (by rw [← hR]; exact hx))
theorem Oth.full {M O : Pt} {m t : Nat} {l : List Int} (o : Oth M m O l) (h : Full M m t) (hl : ∀ k ∈ M.roots, k ∈ l) (h17 : 17 ≤ l.length) : Full O l.length t := by
  refine ⟨⟨⟨by rw [o.c]; show (M.c.kd, (M.c.fs.map (tf l)).map ltr) ∈ coTab; rw [map_ltr]; exact h.sm.c.1, fun x hx => ?_⟩, by rw [o.frs, List.length_map]; exact h.sm.fl, fun f hf => ?_, o.ol, o.sm⟩, h17, ⟨?_, fun j hj => ?_⟩⟩
  · rw [o.c] at hx
    obtain ⟨y, hy, rfl⟩ := List.mem_map.mp hx
    exact (h.sm.c.2 y hy).t fun k hk => hl k (List.mem_append_left _ (List.mem_flatMap.mpr ⟨y, hy, hk⟩))
  · rw [o.frs] at hf
    obtain ⟨g, hg, rfl⟩ := List.mem_map.mp hf
    exact (h.sm.f g hg).t fun k hk => hl k (List.mem_append_right _ (List.mem_flatMap.mpr ⟨g, hg, hk⟩))
  · have := h.e.fin
    rw [show St O.R O.roots t = _ from o.st h t (Nat.le_refl t), List.length_map]
    exact this
  · have := h.e.go j hj
    rw [show St O.R O.roots j = _ from o.st h j (by omega), List.length_map]
    exact this
/-- renumbered, it is the same -/
theorem Oth.ren {M O : Pt} {m t : Nat} {l : List Int} (o : Oth M m O l) (h : Full M m t) : renP O (O.st t) = renP M (M.st t) := by
  have hin := h.in_l o
  have hS : (M.st t).Nodup := St_nodup t
  have hr := h.e.closed.1
  rw [o.st h t (Nat.le_refl t)]
  have e1 : tfr ((M.st t).map (gx l)) O.c = tfr (M.st t) M.c := by rw [o.c]; exact tfr_comp hS hin fun k hk => hr k (List.mem_append_left _ hk)
  have e2 : O.frs.map (tfr ((M.st t).map (gx l))) = M.frs.map (tfr (M.st t)) := by
    rw [o.frs, List.map_map]
    exact List.map_congr_left fun f hf => tfr_comp hS hin fun k hk => hr k (List.mem_append_right _ (List.mem_flatMap.mpr ⟨f, hf, hk⟩))
  have e3 : ((M.st t).map (gx l)).map (fun k => tob ((M.st t).map (gx l)) (O.ob k)) = (M.st t).map fun k => tob (M.st t) (M.ob k) := by
    rw [List.map_map]
    refine List.map_congr_left fun k hk => ?_
    obtain ⟨j, rfl, ho, hos, hR, hsub⟩ := h.at hk
    have hj : j < m := by have := (List.getElem?_eq_some_iff.mp ho).1; rw [h.sm.ol] at this; exact this
    have eo : O.ob (gx l (j : Int)) = tob l (M.ob (j : Int)) := by
      unfold Pt.ob
      rw [show (gx l (j : Int)).toNat = l.idxOf (j : Int) from Int.toNat_natCast _, o.ob j hj]
      rfl
    show tob _ (O.ob (gx l (j : Int))) = _
    rw [eo]
    exact tob_comp hS hin hsub
  show Pt.mk _ _ _ _ _ _ _ _ = Pt.mk _ _ _ _ _ _ _ _
  rw [e1, e2, e3, o.out, o.act, o.here, o.line, o.steps]
end

section
--SPLIT
end
section
variable {P : Program} {w : World} {K : PySem.W.Frag} {mg : Str → Option Value} {base : Heap}
/-! places: where each old object stands; the others hold numbers below 0 -/
theorem idxN_of {l : List Nat} (hn : l.Nodup) {i : Nat} {k : Nat} (h : l[i]? = some k) : l.idxOf k = i := by
  have hm := List.mem_of_getElem? h
  have h1 := List.idxOf_lt_length_of_mem hm
  have a : l[l.idxOf k]? = some k := by rw [List.getElem?_eq_getElem h1, List.getElem_idxOf h1]
  have h2 := List.getElem?_eq_some_iff.mp h
  have h3 := List.getElem?_eq_some_iff.mp a
  rcases Nat.lt_trichotomy (l.idxOf k) i with c | c | c
  · exact absurd (h3.2.trans h2.2.symm) (List.pairwise_iff_getElem.mp hn _ _ h3.1 h2.1 c)
  · exact c
  · exact absurd (h2.2.trans h3.2.symm) (List.pairwise_iff_getElem.mp hn _ _ h2.1 h3.1 c)
def plF (ps : List Nat) (p : Nat) : Int := if p ∈ ps then ((ps.idxOf p : Nat) : Int) else -((p : Int) + 1)
def plL (ps : List Nat) (many : Nat) : List Int := (List.range many).map (plF ps)
theorem plL_len (ps : List Nat) (many : Nat) : (plL ps many).length = many := by simp [plL]
theorem plF_inj {ps : List Nat} {x y : Nat} (h : plF ps x = plF ps y) : x = y := by
  unfold plF at h
  by_cases hx : x ∈ ps
  · by_cases hy : y ∈ ps
    · rw [if_pos hx, if_pos hy] at h
      have h1 := List.idxOf_lt_length_of_mem hx
      have h2 := List.idxOf_lt_length_of_mem hy
      have e1 := List.getElem_idxOf h1
      have e2 := List.getElem_idxOf h2
      have e : ps.idxOf x = ps.idxOf y := Int.ofNat_inj.mp h
      rw [← e1, ← e2]
      congr 1
    · rw [if_pos hx, if_neg hy] at h; omega
  · by_cases hy : y ∈ ps
    · rw [if_neg hx, if_pos hy] at h; omega
    · rw [if_neg hx, if_neg hy] at h; omega
theorem plL_nodup (ps : List Nat) (many : Nat) : (plL ps many).Nodup :=
  List.pairwise_map.mpr (List.Pairwise.imp (fun h e => h (plF_inj e)) List.nodup_range)
theorem plL_at {ps : List Nat} {many : Nat} (hn : ps.Nodup) (hb : ∀ x ∈ ps, x < many) {k x : Nat} (h : ps[k]? = some x) : (plL ps many)[x]? = some (k : Int) := by
  have hm := List.mem_of_getElem? h
  unfold plL
  rw [List.getElem?_map, List.getElem?_range (hb x hm)]
  show some (plF ps x) = _
  unfold plF
  rw [if_pos hm, idxN_of hn h]
theorem plL_idx {ps : List Nat} {many : Nat} (hn : ps.Nodup) (hb : ∀ x ∈ ps, x < many) {k x : Nat} (h : ps[k]? = some x) : (plL ps many).idxOf (k : Int) = x := idx_of (plL_nodup _ _) (plL_at hn hb h)
theorem plL_pl {ps : List Nat} {many : Nat} (hn : ps.Nodup) (hb : ∀ x ∈ ps, x < many) : ∀ k ∈ plL ps many, 0 ≤ k → (ps.map fun (x : Nat) => (x : Int))[k.toNat]? = some (gx (plL ps many) k) := fun k hk h0 => by
  unfold plL at hk
  obtain ⟨p, hp, rfl⟩ := List.mem_map.mp hk
  have hp := List.mem_range.mp hp
  by_cases c : p ∈ ps
  · have h1 := List.idxOf_lt_length_of_mem c
    have e : ps[ps.idxOf p]? = some p := by rw [List.getElem?_eq_getElem h1, List.getElem_idxOf h1]
    have ef : plF ps p = ((ps.idxOf p : Nat) : Int) := by unfold plF; rw [if_pos c]
    rw [ef, Int.toNat_natCast, List.getElem?_map, e]
    show some ((p : Nat) : Int) = some (gx _ _)
    unfold gx
    rw [plL_idx hn hb e]
  · have ef : plF ps p = -((p : Int) + 1) := by unfold plF; rw [if_neg c]
    rw [ef] at h0
    omega
/-- the places drawn so far and the slots left -/
structure PlSt (many : Nat) (ps sl : List Nat) : Prop where
  nd : (ps ++ sl).Nodup
  lt : ∀ x ∈ ps ++ sl, x < many
  first : ∀ i : Nat, i < 17 → ps[i]? = some i
theorem PlSt.start {many : Nat} (h : 17 ≤ many) : PlSt many (List.range 17) ((List.range (many - 17)).map fun i => 17 + i) := by
  refine ⟨?_, fun x hx => ?_, fun i hi => List.getElem?_range hi⟩
  · refine List.nodup_append.mpr ⟨List.nodup_range, List.pairwise_map.mpr (List.Pairwise.imp (fun h e => h (by omega)) List.nodup_range), fun a ha b hb e => ?_⟩
    have ha := List.mem_range.mp ha
    obtain ⟨i, _, rfl⟩ := List.mem_map.mp hb
    omega
  · rcases List.mem_append.mp hx with hx | hx
    · have := List.mem_range.mp hx; omega
    · obtain ⟨i, hi, rfl⟩ := List.mem_map.mp hx
      have := List.mem_range.mp hi
      omega
theorem PlSt.next {many : Nat} {ps sl : List Nat} (h : PlSt many ps sl) (hl : 17 ≤ ps.length) {at_ x : Nat} (hx : sl[at_]? = some x) : PlSt many (ps ++ [x]) (sl.take at_ ++ sl.drop (at_ + 1)) := by
  have hlt := (List.getElem?_eq_some_iff.mp hx)
  have hs : sl = sl.take at_ ++ x :: sl.drop (at_ + 1) := by
    rw [← hlt.2, ← List.drop_eq_getElem_cons hlt.1, List.take_append_drop]
  have hp : (ps ++ sl).Perm ((ps ++ [x]) ++ (sl.take at_ ++ sl.drop (at_ + 1))) := by
    conv => lhs; rw [hs]
    rw [List.append_assoc]
    exact List.Perm.append_left ps List.perm_middle
  refine ⟨hp.nodup_iff.mp h.nd, fun y hy => h.lt y (hp.mem_iff.mpr hy), fun i hi => ?_⟩
  rw [List.getElem?_append_left (by omega)]
  exact h.first i hi
end

section
--SPLIT
end
abbrev s_law_other : Stmt := top 79
abbrev N_law_other : List Str := ["box", "parts", "old", "many", "slots", "places", "k", "at", "heap", "control", "frames", "frame"]
abbrev P_law_other : List Str := ["box", "parts"]
theorem sc_law_other : FnScope N_law_other P_law_other (defScope s_law_other) := ⟨rfl, rfl, rfl, by decide +kernel, rfl, by decide +kernel, by decide +kernel⟩
section
variable {P : Program} {w : World} {K : PySem.W.Frag} {mg : Str → Option Value} {base : Heap}
theorem cut_to (ns : List Nat) (n : Nat) : cutV (nV ns) none (some (n : Int)) = nV (ns.take n) := by
  unfold cutV
  rw [HT.sIx_nat, HT.sIx_none, List.drop_zero, Nat.sub_zero, nV_len]
  unfold nV
  rw [List.map_take]
  by_cases h : n ≤ ns.length
  · rw [Nat.min_eq_left h]
  · rw [Nat.min_eq_right (by omega), List.take_of_length_le (by simp), List.take_of_length_le (by simp; omega)]
theorem cut_from (ns : List Nat) (n : Nat) : cutV (nV ns) (some (n : Int)) none = nV (ns.drop n) := by
  unfold cutV
  rw [HT.sIx_nat, HT.sIx_none, nV_len]
  unfold nV
  rw [List.map_drop]
  by_cases h : n ≤ ns.length
  · rw [Nat.min_eq_left h, List.take_of_length_le (by simp)]
  · rw [Nat.min_eq_right (by omega), Nat.sub_self, List.take_zero, List.drop_of_length_le (by simp; omega)]
theorem rg_nV (a n : Nat) : rgV (a : Int) ((a + n : Nat) : Int) = nV ((List.range n).map fun i => a + i) := by
  unfold rgV nV
  rw [show (((a + n : Nat) : Int) - (a : Int)).toNat = n by omega, List.map_map]
  refine List.map_congr_left fun i _ => ?_
  show V.int ((a : Int) + (i : Int)) = V.int ((a + i : Nat) : Int)
  rw [Int.natCast_add]
theorem DtAll.set {H : Hp} : ∀ {xs : List V} {ds : List PyData}, DtAll K H xs ds → ∀ {i : Nat} {v : V} {d : PyData}, Dt K H v d → DtAll K H (xs.set i v) (ds.set i d)
  | _, _, .nil, _, _, _, _ => .nil
  | _, _, .cons a as, 0, _, _, h => .cons h as
  | _, _, .cons a as, i + 1, _, _, h => .cons a (DtAll.set as h)
theorem PtAt.keep {H H' : Hp} {lp fl hl p dl : Addr} {M : Pt} (A : PtAt K H lp fl hl M) (k : Keep p H H') (B : BoxAt H p dl) (h1 : lp ≠ p) (h2 : fl ≠ p) (h3 : hl ≠ p) : PtAt K H' lp fl hl M :=
  ⟨let ⟨v, e, d⟩ := A.ex; ⟨v, k _ _ e h1, d.keepT (k.keepT B.at_)⟩, listAt_keep A.f k h2 B.at_, listAt_keep A.h k h3 B.at_⟩
def spLOther (K : PySem.W.Frag) : Sp := fun vs H Q _ => ∃ (p dl lp fl hl : Addr) (M : Pt) (m : Nat), vs = [.ref p, .ref lp] ∧ BoxAt H p dl ∧ PtAt K H lp fl hl M ∧ PtSm m M ∧ 17 ≤ m ∧ m ≤ 29 ∧ lp ≠ p ∧ fl ≠ p ∧ hl ≠ p ∧
  ∀ lq fq hq (O : Pt) (l : List Int) H', PtAt K H' lq fq hq O → Oth M m O l → 17 ≤ l.length → l.length ≤ 34 → lq ≠ p → fq ≠ p → hq ≠ p → BoxAt H' p dl → Keep p H H' → Q (.ref lq) H'
theorem ok_lother {f : Addr} {fd : FuncData} (F : Fun K "_law_other" "_law_other" s_law_other f fd) (T : Txt K mg) (U_law_draw : Use P w K mg base CX0 "_law_draw" 1 P_law_draw (spDraw K)) (U_law_objects : Use P w K mg base CX0 "_law_objects" 1 P_law_objects (spTab obTab)) (U_law_controls : Use P w K mg base CX0 "_law_controls" 1 P_law_controls (spTab coTab)) (U_law_frames : Use P w K mg base CX0 "_law_frames" 1 P_law_frames (spTab frTab))
    (U_law_shape : Use P w K mg base CX0 "_law_shape" 12 P_law_shape (spShape2 K)) (U_law_turned : Use P w K mg base CX0 "_law_turned" 3 P_law_turned (spTurned K)) : FnG P w K mg base CX0 13 f fd P_law_other (spLOther K) := by
  refine okG0 F sc_law_other (fun vs H Q E h => ?_) fun cdv A outer s H vs Q E hr hg h => ?_
  · obtain ⟨p, dl, lp, fl, hl, M, m, rfl, _⟩ := h
    rfl
  · obtain ⟨p, dl, lp, fl, hl, M, m, rfl, B, PA, sm, hm, hm2, hlp, hfp, hhp, k⟩ := h
    refine ⟨_, (pss_cons (ps_set (i := 2) sc_law_other.nd rfl (Or.inl rfl) (pe_callB call_len (by rfl) T.b_len PySem.boot_len (pa_cons (pe_ix ix_list (pv 1) pe_int (fun _ _ => rfl)) pa_nil)))
  (pss_cons (ps_set (i := 3) sc_law_other.nd rfl (Or.inr rfl) (pe_op op_add (pv 2) (pe_use U_law_draw (hr.mono (by decide)) hg rfl (pa_cons (pv 0) (pa_cons pe_int pa_nil)))))
  (pss_cons (ps_set (i := 4) sc_law_other.nd rfl (Or.inl rfl) (pe_listRg rfl (by rfl) T.b_list (prg_2 (by rfl) T.b_range pe_int (pv 3))))
  (pss_cons (ps_set (i := 5) sc_law_other.nd rfl (Or.inr rfl) (pe_listRg rfl (by rfl) T.b_list (prg_1 (by rfl) T.b_range pe_int)))
  (pss_cons (ps_for PassesOwn.never rfl (pi_range2 (by rfl) T.b_range (pa_cons pe_int (pa_cons (pv 2) pa_nil))) (pg_name (i := 6) sc_law_other.nd rfl (Or.inl rfl))
   (pss_cons (ps_set (i := 7) sc_law_other.nd rfl (Or.inl rfl) (pe_use U_law_draw (hr.mono (by decide)) hg rfl (pa_cons (pv 0) (pa_cons (pe_callB call_len (by rfl) T.b_len PySem.boot_len (pa_cons (pv 4) pa_nil)) pa_nil))))
  (pss_cons (ps_expr (pe_bm PySem.F.plainAttrs_list PySem.F.slot_list_append PySem.F.type_list_append mt_append (pv 5) (pa_cons (pe_ix ix_list (pv 4) (pv 7) (fun _ _ => rfl)) pa_nil)))
  (pss_one (ps_set (i := 4) sc_law_other.nd rfl (Or.inl rfl) (pe_op op_cat (pe_slice sl_list (pv 4) po_none (po_some (pv 7))) (pe_slice sl_list (pv 4) (po_some (pe_op op_add (pv 7) pe_int)) po_none)))))))
  (pss_cons (ps_setLc (i := 8) (own := [("k", 6)]) (g := (gName 6)) rfl sc_law_other.nd rfl rfl (sw_true rfl rfl rfl (by decide +kernel)) (pi_range1 (by rfl) T.b_range (pa_cons (pv 3) pa_nil)) (blkOk_by (N := N_law_other) (sc := defScope s_law_other) (by decide +kernel)) (fun _ _ _ _ _ => (pg_name (i := 6) sc_law_other.nd rfl (Or.inl rfl))) (fun _ _ _ _ _ => pts_nil) (fun _ _ _ _ _ => (pe_use U_law_shape (hr.mono (by decide)) hg rfl (pa_cons (pv 0) (pa_cons (pe_use0 U_law_objects (hr.mono (by decide)) hg rfl) (pa_cons (pv 3) pa_nil))))))
  (pss_cons (ps_for PassesOwn.never rfl (pi_range1 (by rfl) T.b_range (pa_cons (pv 2) pa_nil)) (pg_name (i := 6) sc_law_other.nd rfl (Or.inl rfl))
   (pss_one (ps_asg (pe_use U_law_turned (hr.mono (by decide)) hg rfl (pa_cons (pe_use0 U_law_objects (hr.mono (by decide)) hg rfl) (pa_cons (pe_ix ix_list (pe_ix ix_list (pv 1) pe_int (fun _ _ => rfl)) (pv 6) (fun _ _ => rfl)) (pa_cons (pv 5) pa_nil)))) (pg_sub (pv 8) (pe_ix ix_list (pv 5) (pv 6) (fun _ _ => rfl)) set_list))))
  (pss_cons (ps_set (i := 9) sc_law_other.nd rfl (Or.inl rfl) (pe_use U_law_turned (hr.mono (by decide)) hg rfl (pa_cons (pe_use0 U_law_controls (hr.mono (by decide)) hg rfl) (pa_cons (pe_ix ix_list (pv 1) pe_int (fun _ _ => rfl)) (pa_cons (pv 5) pa_nil)))))
  (pss_cons (ps_setLc (i := 10) (own := [("frame", 11)]) (g := (gName 11)) rfl sc_law_other.nd rfl rfl (sw_true rfl rfl rfl (by decide +kernel)) (pi_list (pe_ix ix_list (pv 1) pe_int (fun _ _ => rfl))) (blkOk_by (N := N_law_other) (sc := defScope s_law_other) (by decide +kernel)) (fun _ _ _ _ _ => (pg_name (i := 11) sc_law_other.nd rfl (Or.inl rfl))) (fun _ _ _ _ _ => pts_nil) (fun _ _ _ _ _ => (pe_use U_law_turned (hr.mono (by decide)) hg rfl (pa_cons (pe_use0 U_law_frames (hr.mono (by decide)) hg rfl) (pa_cons (pv 11) (pa_cons (pv 5) pa_nil))))))
  (pss_one (ps_ret (pe_op op_cat (pe_lst (pa_cons (pv 9) (pa_cons (pv 10) (pa_cons (pv 8) pa_nil)))) (pe_slice sl_list (pv 1) (po_some pe_int) po_none))))))))))))), ?_⟩
    obtain ⟨vc, el, dvc⟩ := id PA.ex
    obtain ⟨ys, ey, ay⟩ := id PA.f
    obtain ⟨xs, ex, ax⟩ := id PA.h
    have hxl : xs.length = m := by rw [ax.length, List.length_map, sm.ol]
    have hyl : ys.length = M.frs.length := by rw [ay.length, List.length_map]
    refine ⟨_, rfl, lp, _, _, _, rfl, rfl, SqL.of el, at2, _, _, rfl, .inl ⟨_, SqL.of ex, rfl⟩, ?_⟩
    rw [hxl]
    refine ⟨_, rfl, _, rfl, p, dl, 6, rfl, B, by decide, fun r H1 r0 r1 B1 K1 => ⟨_, _, rfl, rfl, ?_⟩⟩
    obtain ⟨more, rfl⟩ := Int.eq_ofNat_of_zero_le r0
    have hmore : more < 6 := by omega
    obtain ⟨many, hmany⟩ : ∃ many : Nat, ((m : Nat) : Int) + (more : Int) = (many : Int) := ⟨m + more, by omega⟩
    dsimp only
    rw [hmany]
    obtain ⟨k0, hk0⟩ : ∃ k0, many = 17 + k0 := ⟨many - 17, by omega⟩
    have hM1 : many ≤ 34 := by omega
    have hM2 : m ≤ many := by omega
    refine ⟨_, rfl, _, _, rfl, rfl, RgOk.of_le (by decide) (by omega) (by decide) (by omega), fun sa hsa => ?_⟩
    have esl : rgV 17 (many : Int) = nV ((List.range (many - 17)).map fun i => 17 + i) := by
      have := rg_nV 17 k0
      rw [← hk0] at this
      rw [show many - 17 = k0 by omega]
      exact this
    rw [esl]
    have hsap := (B1.ne_new hsa).1
    have S2 := Same.new (o := .lst (nV ((List.range (many - 17)).map fun i => 17 + i))) hsa
    have es := upd_same (H := H1) (a := sa) (o := HO.lst (nV ((List.range (many - 17)).map fun i => 17 + i)))
    have B2 := B1.same S2
    have K2 := K1.trans (Same.keep S2)
    generalize upd H1 sa (.lst (nV ((List.range (many - 17)).map fun i => 17 + i))) = H2 at es B2 K2
    refine ⟨_, rfl, RgOk.of_le (by decide) (by decide) (by decide) (by decide), fun pa hpa => ?_⟩
    have epl : rgV 0 17 = nV (List.range 17) := by decide
    rw [epl]
    obtain ⟨hpap, hpad⟩ := B2.ne_new hpa
    have hsp : sa ≠ pa := ne_of_none es hpa
    have hpaH : H pa = none := none_back0 K2 B2.at_ hpa
    have S3 := Same.new (o := .lst (nV (List.range 17))) hpa
    have ep := upd_same (H := H2) (a := pa) (o := HO.lst (nV (List.range 17)))
    have es3 := S3 _ _ es
    have B3 := B2.same S3
    have K3 := K2.trans (Same.keep S3)
    generalize upd H2 pa (.lst (nV (List.range 17))) = H3 at ep es3 B3 K3
    clear S2 es B1 B2 K1 K2 S3 hsa hpa esl epl
    refine ⟨_, rfl, _, _, rfl, ⟨by decide, by decide, by omega, by omega⟩, ?_⟩
    rw [show ((m : Int) - 17).toNat = m - 17 by omega]
    refine for_range (lo := 17) (n := m - 17) (fun i σ H' => ∃ (x6 x7 : Option V) (sa : Addr) (ps sl : List Nat), σ = [some (.ref p), some (.ref lp), some (.int (m : Int)), some (.int (many : Int)), some (.ref sa), some (.ref pa), x6, x7, none, none, none, none] ∧ H' pa = some (.lst (nV ps)) ∧ H' sa = some (.lst (nV sl)) ∧ sa ≠ pa ∧ sa ≠ p ∧ ps.length = 17 + i ∧ sl.length = many - 17 - i ∧ PlSt many ps sl ∧ BoxAt H' p dl ∧ Keep p H H') ⟨none, none, sa, _, _, rfl, ep, es3, hsp, hsap, by simp, by simp, PlSt.start (by omega), B3, K3⟩ ?_ ?_
    · rintro i σ H5 hi ⟨x6, x7, sa, ps, sl, rfl, e5, s5, hsp, hsap, hpl, hsl, PS, B5, K5⟩
      refine ⟨_, rfl, _, rfl, _, _, rfl, .inl ⟨_, SqL.of s5, rfl⟩, p, dl, _, rfl, B5, by rw [nV_len]; omega, fun r H6 r0 r1 B6 K6 => ?_⟩
      obtain ⟨at_, rfl⟩ := Int.eq_ofNat_of_zero_le r0
      rw [nV_len] at r1
      have hat : at_ < sl.length := by omega
      have e6 := K6 _ _ e5 hpap
      have s6 := K6 _ _ s5 hsap
      have hx : sl[at_]? = some sl[at_] := List.getElem?_eq_getElem hat
      have PS2 := PS.next (by omega) hx
      generalize sl[at_] = x at hx PS2
      refine ⟨_, rfl, .inl ⟨rfl, _, SqL.of e6⟩, _, rfl, _, rfl, sa, _, _, _, rfl, rfl, SqL.of s6, atI_nat (nV_get hx), pa, _, _, rfl, rfl, e6, Nat.lt_of_le_of_lt (show (nV ps).length ≤ 1000 by rw [nV_len]; omega) (by decide), ?_⟩
      have e7 : upd H6 pa (.lst (nV ps ++ [V.int (x : Int)])) pa = some (.lst (nV (ps ++ [x]))) := by rw [upd_same, nV_app]; rfl
      have s7 : upd H6 pa (.lst (nV ps ++ [V.int (x : Int)])) sa = some (.lst (nV sl)) := by rw [upd_ne hsp]; exact s6
      have B7 : BoxAt (upd H6 pa (.lst (nV ps ++ [V.int (x : Int)]))) p dl := B6.upd hpap hpad
      have K7 : Keep p H (upd H6 pa (.lst (nV ps ++ [V.int (x : Int)]))) := fun b o e hb => by rw [upd_ne (ne_of_none e hpaH)]; exact K6 _ _ (K5 _ _ e hb) hb
      generalize upd H6 pa (.lst (nV ps ++ [V.int (x : Int)])) = H7 at e7 s7 B7 K7
      refine ⟨_, rfl, _, rfl, _, rfl, sa, _, rfl, SqL.of s7, fun q1 g1 => ?_⟩
      have S8 := Same.new (o := .lst (cutV (nV sl) none (some (at_ : Int)))) g1
      have e8 := upd_same (H := H7) (a := q1) (o := HO.lst (cutV (nV sl) none (some (at_ : Int))))
      generalize upd H7 q1 (.lst (cutV (nV sl) none (some (at_ : Int)))) = H8 at S8 e8
      refine ⟨_, rfl, _, rfl, _, _, rfl, rfl, _, rfl, sa, _, rfl, SqL.of (S8 _ _ s7), fun q2 g2 => ?_⟩
      have S9 := Same.new (o := .lst (cutV (nV sl) (some ((at_ : Int) + 1)) none)) g2
      have e9 := upd_same (H := H8) (a := q2) (o := HO.lst (cutV (nV sl) (some ((at_ : Int) + 1)) none))
      generalize upd H8 q2 (.lst (cutV (nV sl) (some ((at_ : Int) + 1)) none)) = H9 at S9 e9
      rw [cut_to] at e8
      rw [show ((at_ : Int) + 1) = ((at_ + 1 : Nat) : Int) by omega, cut_from] at e9
      refine ⟨q1, q2, _, _, rfl, rfl, S9 _ _ e8, e9, by rw [nV_len, nV_len, List.length_take, List.length_drop]; exact Nat.le_trans (show _ ≤ 1000 by omega) (by decide), fun l3 g3 => ?_⟩
      have S10 := Same.new (o := .lst (nV (sl.take at_) ++ nV (sl.drop (at_ + 1)))) g3
      have S710 := (S8.trans S9).trans S10
      exact ⟨_, _, l3, ps ++ [x], sl.take at_ ++ sl.drop (at_ + 1), rfl, S710 _ _ e7, by rw [upd_same, nV_app], (ne_of_none ((S8.trans S9) _ _ e7) g3).symm, ((B7.same (S8.trans S9)).ne_new g3).1, by rw [List.length_append, List.length_singleton]; omega, by rw [List.length_append, List.length_take, List.length_drop]; omega, PS2, B7.same S710, K7.trans (Same.keep S710)⟩
    rintro σ H5 ⟨x6, x7, sa, ps, sl, rfl, e5, s5, hsp, hsap, hpl, hsl, PS, B5, K5⟩
    have hpn : ps.Nodup := (List.nodup_append.mp PS.nd).1
    have hpb : ∀ x ∈ ps, x < many := fun x hx => PS.lt x (List.mem_append_left _ hx)
    have hpl : ps.length = m := by omega
    have PA5 := PA.keep K5 B hlp hfp hhp
    have hll : (plL ps many).length = many := plL_len _ _
    have hpx : ∀ k, k < m → ∃ x, ps[k]? = some x ∧ x < many := fun k hk => ⟨ps[k]'(by omega), List.getElem?_eq_getElem (by omega), hpb _ (List.getElem_mem _)⟩
    have hin : ∀ k : Int, 0 ≤ k → k < (m : Int) → k ∈ plL ps many := fun k h0 h1 => by
      obtain ⟨j, rfl⟩ := Int.eq_ofNat_of_zero_le h0
      obtain ⟨x, hx, _⟩ := hpx j (by omega)
      exact List.mem_of_getElem? (plL_at hpn hpb hx)
    have PL5 : PlAt H5 pa (plL ps many) := ⟨ps.map fun (x : Nat) => (x : Int), by rw [e5]; unfold nV; rw [List.map_map]; rfl, plL_pl hpn hpb⟩
    have hroot : ∀ k ∈ M.roots, k ∈ plL ps many := fun k hk => hin k (sm.roots k hk).1 (sm.roots k hk).2
    clear PA el dvc ey ay ex ax
    -- the heap
    refine ⟨_, rfl, many, rfl, by omega, by omega, fun D hD => ?_⟩
    rw [Int.toNat_natCast]
    obtain ⟨hDp, hDd⟩ := B5.ne_new hD
    refine lc_it (walk_range (lo := 0) (n := many)) (fun i H' => Acc K H5 D p dl (fun d => ∃ x, d = obD x ∧ ObSm many x) i H') (Acc.start hD B5) (fun _ _ _ _ => trivial) ?_ ?_
    · rintro i x H6 H7 hi A ⟨rfl, rfl⟩
      refine ⟨rfl, tYes_of ?_⟩
      obtain ⟨_, _, _, _, _, _, B6, _⟩ := id A
      refine ⟨_, rfl, rfl, fun tl H7 S7 T7 => ⟨_, rfl, p, dl, tl, obTab, many, rfl, T7, by decide, by decide, obTab_ok, by omega, by omega, B6.same S7, fun v kd fs H8 hmem dv hfs B8 K8 => ?_⟩⟩
      exact A.put (by omega) hD B5 B8 ((Same.keep S7).trans K8) dv ⟨⟨kd, fs⟩, rfl, hmem, hfs⟩
    rintro H6 ⟨acc, ds, e6, a6, hl6, hp6, B6, K6⟩
    obtain ⟨hs, rfl, hhs⟩ := ex_map hp6
    rw [List.length_map] at hl6
    have PA6 := PA5.keep K6 B5 hlp hfp hhp
    have PL6 : PlAt H6 pa (plL ps many) := let ⟨qs, a, b⟩ := PL5; ⟨qs, K6 _ _ a hpap, b⟩
    have ep6 := K6 _ _ e5 hpap
    have hpD : pa ≠ D := ne_of_none e5 hD
    obtain ⟨vc, el, dvc⟩ := id PA6.ex
    obtain ⟨ys', ey, ay⟩ := id PA6.f
    obtain ⟨xs', ex, ax⟩ := id PA6.h
    have hlD : lp ≠ D := let ⟨_, e, _⟩ := PA5.ex; ne_of_none e hD
    have hfD : fl ≠ D := let ⟨_, e, _⟩ := PA5.f; ne_of_none e hD
    have hhD : hl ≠ D := let ⟨_, e, _⟩ := PA5.h; ne_of_none e hD
    refine ⟨_, rfl, _, rfl, by omega, by omega, ?_⟩
    rw [Int.toNat_natCast]
    refine for_range (lo := 0) (n := m) (fun i σ H' => ∃ (x6 : Option V) (acc : List V) (hs : List Ob), σ = [some (.ref p), some (.ref lp), some (.int (m : Int)), some (.int (many : Int)), some (.ref sa), some (.ref pa), x6, x7, some (.ref D), none, none, none] ∧ H' D = some (.lst acc) ∧ DtAll K H' acc (hs.map obD) ∧ hs.length = many ∧ (∀ o ∈ hs, ObSm many o) ∧ (∀ k, k < i → ∀ x, ps[k]? = some x → hs[x]? = some (tob (plL ps many) (M.ob (k : Int)))) ∧ Keep D H6 H') ⟨x6, acc, hs, rfl, e6, a6, hl6, hhs, fun k hk => by omega, fun _ _ h _ => h⟩ ?_ ?_
    · rintro i σ H7 hi ⟨x6, acc, hs, rfl, e7, a7, hl7, hhs, hps, K7⟩
      rw [Int.zero_add]
      have hoi : M.obs[i]? = some (M.obs[i]'(by rw [sm.ol]; exact hi)) := List.getElem?_eq_getElem _
      have hob : M.ob (i : Int) = M.obs[i]'(by rw [sm.ol]; exact hi) := by unfold Pt.ob; rw [Int.toNat_natCast, hoi]; rfl
      have hos : ObSm m (M.ob (i : Int)) := by rw [hob]; exact sm.o _ (List.getElem_mem _)
      have hR : M.R (i : Int) = obR (M.ob (i : Int)) := by unfold Pt.R; rw [Int.toNat_natCast, hoi, hob]
      have hL : ∀ k ∈ obR (M.ob (i : Int)), k ∈ plL ps many := fun k hk => by
        obtain ⟨h0, h1⟩ := sm.R (i : Int) k (by rw [hR]; exact hk)
        exact hin k h0 h1
      obtain ⟨v, hv, dv⟩ := ax.get (i := i) (d := obD (M.ob (i : Int))) (by rw [List.getElem?_map, hoi, hob]; rfl)
      obtain ⟨x, hx, hxm⟩ := hpx i hi
      have hol := obTab_len10 hos.1
      rw [List.length_map] at hol
      have kT7 := K7.keepT (K := K) ⟨_, e6⟩
      refine ⟨rfl, fun tl H8 S8 T8 => ?_⟩
      refine ⟨_, rfl, lp, _, _, _, rfl, rfl, SqL.of (S8 _ _ (K7 _ _ el hlD)), at2, _, rfl, hl, _, _, _, rfl, rfl, SqL.of (S8 _ _ (K7 _ _ ex hhD)), atI_nat hv, _, rfl, tl, v, pa, obTab, plL ps many, (M.ob (i : Int)).kd, (M.ob (i : Int)).fs, rfl, T8, obTab_nd, hos.1, hol,
        (let ⟨qs, a, b⟩ := PL6; ⟨qs, S8 _ _ (K7 _ _ a hpD), b⟩), (dv.keepT kT7).mono S8, fun y hy => ⟨(hos.2 y hy).n, fun z hz => hL z (List.mem_flatMap.mpr ⟨y, hy, hz⟩)⟩, fun r H9 S9 dr => ?_⟩
      have S89 := S8.trans S9
      have e9 := S89 _ _ e7
      have al : acc.length = many := by rw [a7.length, List.length_map, hl7]
      refine ⟨_, rfl, _, rfl, _, rfl, pa, _, _, _, rfl, rfl, SqL.of (S89 _ _ (K7 _ _ ep6 hpD)), atI_nat (nV_get hx), D, acc, _, x, rfl, rfl, e9, ixN_nat (by omega), ?_⟩
      have kT : KeepT K H9 (upd H9 D (.lst (acc.set x r))) := KeepT.upd e9
      refine ⟨_, acc.set x r, hs.set x (tob (plL ps many) (M.ob (i : Int))), rfl, upd_same, ?_, by rw [List.length_set]; exact hl7, fun o ho => ?_, fun k hk y hy => ?_, fun b o e hb => by rw [upd_ne hb]; exact S89 _ _ (K7 _ _ e hb)⟩
      · rw [List.map_set]
        exact DtAll.set ((a7.mono S89).keepT kT) (dr.keepT kT)
      · rcases List.mem_or_eq_of_mem_set ho with h | h
        · exact hhs o h
        · rw [h]
          have := hos.t hL
          rw [hll] at this
          exact this
      · by_cases c : k = i
        · subst c
          rw [hx] at hy
          obtain rfl := Option.some.inj hy
          rw [List.getElem?_set_self (by omega)]
        · have hne : x ≠ y := fun e => by
            subst e
            exact c ((idxN_of hpn hy).symm.trans (idxN_of hpn hx))
          rw [List.getElem?_set_ne hne]
          exact hps k (by omega) y hy
    rintro σ H7 ⟨x6, acc, hs, rfl, e7, a7, hl7, hhs, hps, K7⟩
    have hDH : H D = none := none_back0 K5 B5.at_ hD
    have kT7 := K7.keepT (K := K) ⟨_, e6⟩
    have KK : Keep p H H7 := fun b o e hb => K7 _ _ (K6 _ _ (K5 _ _ e hb) hb) (ne_of_none e hDH)
    have B7 : BoxAt H7 p dl := by
      obtain ⟨ds, j, q1, q2, q3, q4, q5⟩ := B6
      exact ⟨ds, j, K7 _ _ q1 hDp.symm, q2, K7 _ _ q3 hDd.symm, q4, q5⟩
    have el7 := K7 _ _ el hlD
    have ey7 := K7 _ _ ey hfD
    have dvc7 := dvc.keepT kT7
    have ay7 := ay.keepT kT7
    have PL7 : PlAt H7 pa (plL ps many) := let ⟨qs, a, b⟩ := PL6; ⟨qs, K7 _ _ a hpD, b⟩
    clear PA5 PA6 PL5 PL6 K5 K6 K7 B5 B6 e6 a6 ax ex ey el dvc ay hD
    have onesT : ∀ gs : List Fld, ((gs.map Fl2.one).map (tf2 (plL ps many))).map fl2D = (gs.map (tf (plL ps many))).map fldD := fun gs => by rw [List.map_map, List.map_map, List.map_map]; rfl
    have hyl : ys'.length = M.frs.length := by rw [ay7.length, List.length_map]
    -- control
    have hcl := coTab_len sm.c.1
    rw [List.length_map] at hcl
    refine ⟨rfl, fun tl H8 S8 T8 => ?_⟩
    refine ⟨_, rfl, lp, _, _, _, rfl, rfl, SqL.of (S8 _ _ el7), at0, _, rfl, tl, vc, pa, coTab, plL ps many, M.c.kd, M.c.fs.map .one, rfl, T8, coTab_nd, by rw [ones_l]; exact sm.c.1, by rw [List.length_map]; exact hcl, PL7.same S8, by rw [ones_D]; exact dvc7.mono S8, fun x hx => ?_, fun rc H9 S9 drc => ?_⟩
    · obtain ⟨y, hy, rfl⟩ := List.mem_map.mp hx
      exact ⟨(sm.c.2 y hy).n, fun z hz => hroot z (List.mem_append_left _ (List.mem_flatMap.mpr ⟨y, hy, hz⟩))⟩
    rw [onesT] at drc
    have S79 := S8.trans S9
    have PL9 := (PL7.same S8).same S9
    -- frames
    refine ⟨_, rfl, lp, _, _, _, rfl, rfl, SqL.of (S79 _ _ el7), at1, fl, rfl, ⟨_, SqL.of (S79 _ _ ey7)⟩, fun D2 hD2 => ?_⟩
    refine lc_it (walk_list (xs := ys')) (fun j H' => LAcc K H9 D2 ((M.frs.take j).map fun f => frD (tfr (plL ps many) f)) H') (LAcc.start hD2) (fun j H' _ h => let ⟨_, _, _, S'⟩ := h; SqL.of (S' _ _ (S79 _ _ ey7))) ?_ ?_
    · rintro j y H10 H11 hj Z ⟨rfl, hy⟩
      obtain ⟨_, _, _, S10⟩ := id Z
      obtain ⟨d, hd, dy⟩ := ay7.getV hy
      rw [List.getElem?_map] at hd
      obtain ⟨g, hgm, rfl⟩ := Option.map_eq_some_iff.mp hd
      have hg1 := List.mem_of_getElem? hgm
      have hgs := sm.f g hg1
      have hgl := frTab_len10 hgs.1
      rw [List.length_map] at hgl
      refine ⟨rfl, tYes_of ⟨rfl, fun tl' H12 S12 T12 => ⟨_, rfl, _, rfl, tl', y, pa, frTab, plL ps many, g.kd, g.fs.map .one, rfl, T12, frTab_nd, by rw [ones_l]; exact hgs.1, by rw [List.length_map]; exact hgl, PL9.same (S10.trans S12), by rw [ones_D]; exact dy.mono ((S79.trans S10).trans S12), fun x hx => ?_, fun r H13 S13 dr => ?_⟩⟩⟩
      · obtain ⟨y, hy, rfl⟩ := List.mem_map.mp hx
        exact ⟨(hgs.2 y hy).n, fun z hz => hroot z (List.mem_append_right _ (List.mem_flatMap.mpr ⟨g, hg1, List.mem_flatMap.mpr ⟨y, hy, hz⟩⟩))⟩
      · rw [onesT] at dr
        obtain ⟨acc2, e13, hl13, Z13⟩ := Z.put hD2 (S12.trans S13) (d := frD (tfr (plL ps many) g)) dr (by rw [List.length_map, List.length_take]; have := sm.fl; omega)
        refine ⟨acc2, e13, hl13, ?_⟩
        rw [List.take_succ, hgm, List.map_append]
        exact Z13
    rintro H10 ⟨fa, ef, af, S10⟩
    rw [hyl, List.take_length] at af
    have S710 := S79.trans S10
    -- the list
    refine ⟨_, rfl, _, rfl, _, rfl, sz_3, fun q hq => ?_⟩
    have S11 := Same.new (o := .lst [rc, .ref D2, .ref D]) hq
    refine ⟨_, rfl, _, rfl, lp, _, rfl, SqL.of ((S710.trans S11) _ _ el7), fun q2 hq2 => ?_⟩
    have S12 := Same.new (o := .lst (cutV [vc, .ref fl, .ref hl, .str M.out, .int M.act, .str M.here, .int M.line, .int M.steps] (some 3) none)) hq2
    refine ⟨q, q2, _, _, rfl, rfl, S12 _ _ upd_same, upd_same, by show 8 ≤ sizeLine; decide, fun lq hlq => ?_⟩
    have S13 := Same.new (o := .lst ([rc, .ref D2, .ref D] ++ cutV [vc, .ref fl, .ref hl, .str M.out, .int M.act, .str M.here, .int M.line, .int M.steps] (some 3) none)) hlq
    have S1013 := (S11.trans S12).trans S13
    have S713 := S710.trans S1013
    refine k lq D2 D ⟨tfr (plL ps many) M.c, M.frs.map (tfr (plL ps many)), hs, M.out, M.act, M.here, M.line, M.steps⟩ (plL ps many) _ ⟨⟨rc, upd_same, drc.mono (S10.trans S1013)⟩, ⟨fa, S1013 _ _ ef, ?_⟩, ⟨acc, S713 _ _ e7, a7.mono S713⟩⟩ ?_ (by omega) (by omega) ((B7.same (S710.trans (S11.trans S12))).ne_new hlq).1 ((B7.same S79).ne_new hD2).1 hDp (B7.same S713) (KK.trans (Same.keep S713))
    · show DtAll K _ fa ((M.frs.map (tfr (plL ps many))).map frD)
      rw [List.map_map]
      exact af.mono S1013
    · refine ⟨plL_nodup _ _, fun k hk => hin _ (by omega) (by omega), fun i hi => plL_at hpn hpb (PS.first i hi), by rw [hll]; exact hl7, fun o ho => by rw [hll]; exact hhs o ho, fun k hk => ?_, rfl, rfl, rfl, rfl, rfl, rfl, rfl⟩
      obtain ⟨x, hx, _⟩ := hpx k hk
      rw [plL_idx hpn hpb hx]
      exact hps k hk x hx
end

section
--SPLIT
end
section
theorem enc_byte {x : Val} (h : ValOk x) : ∀ d ∈ enc x, d < 256 := by
  have c : ∀ n, n < 128 ^ 60 → ∀ d ∈ cnt n, d < 256 := fun n h => cnt_byte 59 n h
  have st : ∀ js, TxOk js → ∀ d ∈ strN js, d < 256 := fun js h d hd => by
    rcases List.mem_append.mp hd with hd | hd
    · exact c _ (Nat.lt_of_le_of_lt h.len (by decide +kernel)) d hd
    · have := h.lt d hd; omega
  intro d hd
  cases x with
  | none => rw [List.mem_singleton.mp hd]; decide
  | bool b => cases b <;> (rw [List.mem_singleton.mp hd]; decide)
  | int i =>
    rcases List.mem_cons.mp hd with rfl | hd
    · decide
    · exact c _ (big i h) d hd
  | text js =>
    rcases List.mem_cons.mp hd with rfl | hd
    · decide
    · exact st js h d hd
  | built js =>
    rcases List.mem_cons.mp hd with rfl | hd
    · decide
    · exact st js h d hd
  | host js =>
    rcases List.mem_cons.mp hd with rfl | hd
    · decide
    · exact st js h d hd
  | ref n =>
    have h : n ≤ 2 ^ 100 := h
    rcases List.mem_cons.mp hd with rfl | hd
    · decide
    · exact c _ (Nat.lt_of_le_of_lt h (by decide +kernel)) d hd
  | span a b =>
    rcases List.mem_cons.mp hd with rfl | hd
    · decide
    · rcases List.mem_append.mp hd with hd | hd
      · exact c _ (big a h.1) d hd
      · exact c _ (big b h.2) d hd
theorem cnt_b256 {n : Nat} (h : n < 128 ^ 60) : ∀ d ∈ cnt n, d < 256 := cnt_byte 59 n h
theorem strN_b {js : List Nat} (h1 : js.length ≤ 100000) (h2 : ∀ j ∈ js, j < 95) : ∀ d ∈ strN js, d < 256 := fun d hd => by
  rcases List.mem_append.mp hd with hd | hd
  · exact cnt_b256 (Nat.lt_of_le_of_lt h1 (by decide +kernel)) d hd
  · have := h2 d hd; omega
mutual
theorem TrR.byte : ∀ {d : PyData} {ns : List Nat}, TrR d ns → ∀ x ∈ ns, x < 256
  | _, _, .str js h1 h2, x, hx => by
    rcases List.mem_cons.mp hx with rfl | hx
    · decide
    · exact strN_b (by omega) h2 x hx
  | _, _, .int i h, x, hx => by
    rcases List.mem_cons.mp hx with rfl | hx
    · decide
    · exact cnt_b256 (Nat.lt_of_le_of_lt (zig_lt (k := 256) (Nat.le_of_lt h)) (by decide +kernel)) x hx
  | _, _, .bool b, x, hx => by
    rw [List.mem_singleton.mp hx]
    cases b <;> decide
  | _, _, .tup ds ns h hs, x, hx => by
    rcases List.mem_cons.mp hx with rfl | hx
    · decide
    · rcases List.mem_append.mp hx with hx | hx
      · exact cnt_b256 (Nat.lt_of_le_of_lt h (by decide +kernel)) x hx
      · exact TrRs.byte hs x hx
theorem TrRs.byte : ∀ {ds : List PyData} {ns : List Nat}, TrRs ds ns → ∀ x ∈ ns, x < 256
  | _, _, .nil, x, hx => by cases hx
  | _, _, .cons h hs, x, hx => by
    rcases List.mem_append.mp hx with hx | hx
    · exact TrR.byte h x hx
    · exact TrRs.byte hs x hx
end
theorem fm_b {α : Type} {g : α → List Nat} {xs : List α} (h : ∀ y ∈ xs, ∀ d ∈ g y, d < 256) : ∀ d ∈ xs.flatMap g, d < 256 := fun d hd => by
  obtain ⟨y, hy, hd⟩ := List.mem_flatMap.mp hd
  exact h y hy d hd
theorem app_b {a b : List Nat} (h1 : ∀ d ∈ a, d < 256) (h2 : ∀ d ∈ b, d < 256) : ∀ d ∈ a ++ b, d < 256 := fun d hd => by
  rcases List.mem_append.mp hd with hd | hd
  · exact h1 d hd
  · exact h2 d hd
theorem fld_b {m : Nat} (hm : m ≤ 10 ^ 6) : ∀ {x : Fld} {ns : List Nat}, FldSm0 m x → FldE x ns → ∀ d ∈ ns, d < 256 := by
  have c6 : ∀ n : Nat, n ≤ 10 ^ 6 + 1 → ∀ d ∈ cnt n, d < 256 := fun n h => cnt_b256 (Nat.lt_of_le_of_lt h (by decide +kernel))
  have tx : ∀ js, TxSm js → ∀ d ∈ strN js, d < 256 := fun js h => strN_b (Nat.le_trans h.len (by decide)) h.lt
  have v : ∀ {x : Val}, ValSm0 x → ∀ d ∈ enc x, d < 256 := fun h => enc_byte h.ok
  intro x ns sm he
  cases x with
  | v x => rw [show ns = _ from he]; exact v sm
  | V xs => rw [show ns = _ from he]; exact app_b (c6 _ (by have := sm.1; omega)) (fm_b fun y hy => v (sm.2 y hy))
  | W ps => rw [show ns = _ from he]; exact app_b (c6 _ (by have := sm.1; omega)) (fm_b fun y hy => app_b (v (sm.2 y hy).1) (v (sm.2 y hy).2))
  | X ps => rw [show ns = _ from he]; exact app_b (c6 _ (by have := sm.1; omega)) (fm_b fun y hy => app_b (tx _ (sm.2 y hy).1) (v (sm.2 y hy).2))
  | t d => exact TrR.byte (TrL.rd he)
  | a k => rw [show ns = _ from he]; exact c6 _ (by have : k < m := sm; omega)
  | b k => rw [show ns = _ from he]; exact c6 _ (by have h1 : -1 ≤ k := sm.1; have h2 : k < (m : Int) := sm.2; omega)
  | n i => rw [show ns = _ from he]; exact cnt_b256 (Nat.lt_trans (zig40 sm) (by decide +kernel))
  | x js => rw [show ns = _ from he]; exact tx _ sm
  | s0 => rw [show ns = _ from he]; simp
  | s1 z =>
    rcases (he : (z = "break" ∧ ns = [1]) ∨ (z = "continue" ∧ ns = [2])) with ⟨_, rfl⟩ | ⟨_, rfl⟩ <;> simp
  | s2 z y =>
    rcases (he : (z = "return" ∧ ns = 3 :: enc y) ∨ (z = "raise" ∧ ns = 4 :: enc y)) with ⟨_, rfl⟩ | ⟨_, rfl⟩
    · exact app_b (a := [3]) (by simp) (v sm.2)
    · exact app_b (a := [4]) (by simp) (v sm.2)
theorem flds_b {m : Nat} (hm : m ≤ 10 ^ 6) : ∀ {xs : List Fld} {ns : List Nat}, (∀ x ∈ xs, FldSm0 m x) → FldsE xs ns → ∀ d ∈ ns, d < 256
  | _, _, _, .nil => by simp
  | _, _, h, .cons h1 _ h3 => app_b (fld_b hm (h _ (by simp)) h1) (flds_b hm (fun y hy => h y (List.mem_cons_of_mem _ hy)) h3)
theorem fr_b {m : Nat} (hm : m ≤ 10 ^ 6) {f : Fr} {ln : List Nat} (h : ∀ x ∈ f.fs, FldSm0 m x) (he : FrE f ln) : ∀ d ∈ ln, d < 256 := by
  obtain ⟨j, fn, hj, hE, rfl⟩ := he
  have hj60 : j < 60 := by rw [← fr_len.2]; exact (List.getElem?_eq_some_iff.mp hj).1
  exact app_b (cnt_b256 (Nat.lt_of_le_of_lt (show j ≤ 60 by omega) (by decide +kernel))) (flds_b hm h hE)
theorem fl2_b {m : Nat} (hm : m ≤ 10 ^ 6) : ∀ {x : Fl2} {ns : List Nat}, Fl2Sm0 m x → FldE2 x ns → ∀ d ∈ ns, d < 256
  | .one x, _, h, he => fld_b hm h he
  | .fr l, _, h, ⟨lss, h1, e, h2, _⟩ => by
    rw [e]
    refine app_b (cnt_b256 (Nat.lt_of_le_of_lt h.1 (by decide +kernel))) fun d hd => ?_
    obtain ⟨ln, hln, hd⟩ := List.mem_flatten.mp hd
    obtain ⟨i, hi, ei⟩ := List.mem_iff_getElem.mp hln
    have hf : l[i]? = some (l[i]'(by omega)) := List.getElem?_eq_getElem (by omega)
    exact fr_b hm (h.2 _ (List.mem_of_getElem? hf)).2 (h2 i _ ln hf (by rw [List.getElem?_eq_getElem hi, ei])) d hd
theorem flds2_b {m : Nat} (hm : m ≤ 10 ^ 6) : ∀ {xs : List Fl2} {ns : List Nat}, (∀ x ∈ xs, Fl2Sm0 m x) → FldsE2 xs ns → ∀ d ∈ ns, d < 256
  | _, _, _, .nil => by simp
  | _, _, h, .cons h1 _ h3 => app_b (fl2_b hm (h _ (by simp)) h1) (flds2_b hm (fun y hy => h y (List.mem_cons_of_mem _ hy)) h3)
/-- all numbers of a machine's list are bytes -/
theorem MacN.byte {m : Nat} {M M' : Pt} {ob : List (List Nat)} {cn : List Nat} {fr : List (List Nat)} {out here : List Nat} {a l s tk : Nat} (N : MacN m M ob cn fr) (X : PtV M' out here a l s) (ht : tk ≤ 10 ^ 6) : ∀ d ∈ allN tk s a l out here ob cn fr, d < 256 := by
  have h6 : m ≤ 10 ^ 6 := by have := N.hm; omega
  have c6 : ∀ n : Nat, n ≤ 10 ^ 6 → ∀ d ∈ cnt n, d < 256 := fun n h => cnt_b256 (Nat.lt_of_le_of_lt h (by decide +kernel))
  have o1 := X.o1
  have h1 := X.h1
  have a1 := X.a1
  have ol := N.ol
  have oc := N.oc
  have fl := N.fl
  have hf := N.hf
  refine app_b (app_b (a := [1]) (by simp) (app_b (c6 _ ht) (app_b (c6 _ X.s1) (app_b (strN_b (by omega) X.o2) (app_b (c6 _ (by omega)) (app_b (strN_b (by omega) X.h2) (app_b (c6 _ X.l1) (c6 _ (by omega))))))))) (app_b (fun d hd => ?_) (app_b (fun d hd => ?_) (app_b (c6 _ (by omega)) fun d hd => ?_)))
  · obtain ⟨ln, hln, hd⟩ := List.mem_flatten.mp hd
    obtain ⟨i, hi, ei⟩ := List.mem_iff_getElem.mp hln
    have ho : M.obs[i]? = some (M.obs[i]'(by omega)) := List.getElem?_eq_getElem (by omega)
    obtain ⟨j, fn, hj, hE, e⟩ := N.oe i _ ln ho (by rw [List.getElem?_eq_getElem hi, ei])
    rw [e] at hd
    have hj10 : j < 10 := by rw [← obTab_n]; exact (List.getElem?_eq_some_iff.mp hj).1
    exact app_b (c6 j (by omega)) (flds2_b h6 (N.os _ (List.mem_of_getElem? ho)) hE) d hd
  · obtain ⟨j, fn, hj, hE, e⟩ := N.c
    rw [e] at hd
    have hj10 : j < 10 := by rw [← coTab_n]; exact (List.getElem?_eq_some_iff.mp hj).1
    exact app_b (c6 j (by omega)) (flds_b h6 N.cs hE) d hd
  · obtain ⟨ln, hln, hd⟩ := List.mem_flatten.mp hd
    obtain ⟨i, hi, ei⟩ := List.mem_iff_getElem.mp hln
    have ho : M.frs[i]? = some (M.frs[i]'(by omega)) := List.getElem?_eq_getElem (by omega)
    exact fr_b h6 (N.fs _ (List.mem_of_getElem? ho)) (N.fe i _ ln ho (by rw [List.getElem?_eq_getElem hi, ei])) d hd
end

section
--SPLIT
end
abbrev s_law_numbers : Stmt := top 78
abbrev N_law_numbers : List Str := ["actual", "number"]
abbrev P_law_numbers : List Str := ["actual"]
theorem sc_law_numbers : FnScope N_law_numbers P_law_numbers (defScope s_law_numbers) := ⟨rfl, rfl, rfl, by decide +kernel, rfl, by decide +kernel, by decide +kernel⟩
section
variable {P : Program} {w : World} {K : PySem.W.Frag} {mg : Str → Option Value} {base : Heap}
def spLNumbers (K : PySem.W.Frag) : Sp := fun vs H Q _ => ∃ (a : Addr) (ns : List Nat), vs = [.ref a] ∧ H a = some (.lst (nV ns)) ∧ (∀ d ∈ ns, d < 256) ∧ Q (.bl true) H
theorem ok_lnumbers {f : Addr} {fd : FuncData} (F : Fun K "_law_numbers" "_law_numbers" s_law_numbers f fd) (T : Txt K mg) (U_law_is_integer : Use P w K mg base CX0 "_law_is_integer" 1 P_law_is_integer (spIsInt K)) : FnG P w K mg base CX0 2 f fd P_law_numbers (spLNumbers K) := by
  refine okG0 F sc_law_numbers (fun vs H Q E h => ?_) fun cdv A outer s H vs Q E hr hg h => ?_
  · obtain ⟨a, ns, rfl, _⟩ := h
    rfl
  · obtain ⟨a, ns, rfl, e, hb, k⟩ := h
    refine ⟨_, (pss_cons (ps_if (pt_not (pt_val (pe_callB call_isi (by rfl) T.b_isinstance (by decide +kernel) (pa_cons (pv 0) (pa_cons (pe_bltn (v := .ty "list") (by rfl) T.b_list (by decide +kernel) rfl) pa_nil)))))
   (pss_one (ps_ret pe_bl))
   pss_nil)
  (pss_cons (ps_for PassesOwn.never rfl (pi_list (pv 0)) (pg_name (i := 1) sc_law_numbers.nd rfl (Or.inl rfl))
   (pss_one (ps_if (PW.pt (pw_or (pt_not (pt_val (pe_use U_law_is_integer (hr.mono (by decide)) hg rfl (pa_cons (pv 1) pa_nil)))) (pw_or (pt_cmpR op_lt (pv 1) pe_int (nomark _)) (pw_or1 (pt_cmpR op_gt (pv 1) pe_int (nomark _))))))
   (pss_one (ps_ret pe_bl))
   pss_nil)))
  (pss_one (ps_ret pe_bl)))), ?_⟩
    refine ⟨_, rfl, _, _, _, _, true, rfl, .ty _, .base (.lst e), if_pos (beq_self_eq_true _), _, rfl, iteFb rfl ?_⟩
    refine ⟨_, rfl, a, rfl, ⟨_, SqL.of e⟩, ?_⟩
    refine for_list (xs := nV ns) (fun i σ H5 => ∃ x1, σ = [some (.ref a), x1] ∧ H5 = H) ⟨none, rfl, rfl⟩ ?_ ?_ ?_
    · rintro i σ H5 _ ⟨x1, rfl, rfl⟩
      exact SqL.of e
    · rintro i y σ H5 hy ⟨x1, rfl, hH⟩
      subst hH
      have hym := List.mem_of_getElem? hy
      unfold nV at hym
      obtain ⟨d, hd, rfl⟩ := List.mem_map.mp hym
      have := hb d hd
      refine ⟨_, rfl, (d : Int), rfl, true, rfl, iteFb rfl ?_⟩
      refine ⟨_, rfl, _, _, rfl, rfl, _, rfl, iteFb (decide_eq_false (by omega)) ?_⟩
      exact ⟨_, rfl, _, _, rfl, rfl, _, rfl, iteFb (decide_eq_false (by omega)) ⟨_, rfl, rfl⟩⟩
    rintro σ H5 ⟨x1, rfl, rfl⟩
    exact k
end

abbrev s_fields : Stmt := top 43
abbrev N_fields : List Str := ["machine"]
abbrev P_fields : List Str := ["machine"]
theorem sc_fields : FnScope N_fields P_fields (defScope s_fields) := ⟨rfl, rfl, rfl, by decide +kernel, rfl, by decide +kernel, by decide +kernel⟩
section
variable {P : Program} {w : World} {K : PySem.W.Frag} {mg : Str → Option Value} {base : Heap}
/-- a machine's fields as data -/
def pD (M : Pt) : PyData := .tuple [frD M.c, .tuple (M.frs.map frD), .tuple (M.obs.map obD), .str M.out, .int M.act, .str M.here, .int M.line, .int M.steps]
def spFields (K : PySem.W.Frag) (C : Addr) : Sp := fun vs H Q _ => ∃ (ma fl hl : Addr) (M : Pt), vs = [.ref ma] ∧ MacAt K C H ma fl hl M ∧ ∀ t H', Same H H' → Dt K H' (.ref t) (pD M) → Q (.ref t) H'
theorem ok_fields {C : Addr} {f : Addr} {fd : FuncData} (F : Fun K "_fields" "_fields" s_fields f fd) (T : Txt K mg) (UC_Machine : UseC K mg "Machine" fM C) : FnG P w K mg base CX0 1 f fd P_fields (spFields K C) := by
  refine okG0 F sc_fields (fun vs H Q E h => ?_) fun cdv A outer s H vs Q E hr hg h => ?_
  · obtain ⟨ma, fl, hl, M, rfl, _⟩ := h
    rfl
  · obtain ⟨ma, fl, hl, M, rfl, MA, k⟩ := h
    refine ⟨_, (pss_one (ps_ret (pe_tup (pa_cons (pe_fd UC_Machine (by decide +kernel) (pv 0)) (pa_cons (pe_callTy call_tuple_of (by rfl) T.b_tuple (by decide +kernel) (pa_cons (pe_fd UC_Machine (by decide +kernel) (pv 0)) pa_nil)) (pa_cons (pe_callTy call_tuple_of (by rfl) T.b_tuple (by decide +kernel) (pa_cons (pe_fd UC_Machine (by decide +kernel) (pv 0)) pa_nil)) (pa_cons (pe_fd UC_Machine (by decide +kernel) (pv 0)) (pa_cons (pe_fd UC_Machine (by decide +kernel) (pv 0)) (pa_cons (pe_fd UC_Machine (by decide +kernel) (pv 0)) (pa_cons (pe_fd UC_Machine (by decide +kernel) (pv 0)) (pa_cons (pe_fd UC_Machine (by decide +kernel) (pv 0)) pa_nil))))))))))), ?_⟩
    obtain ⟨vc, ⟨dx, em⟩, dvc⟩ := MA.ex
    obtain ⟨ys, ey, ay⟩ := id MA.f
    obtain ⟨xs, ex, ax⟩ := id MA.h
    refine ⟨_, rfl, ma, dx, _, _, rfl, em, mf_control, _, rfl, ma, dx, _, _, rfl, em, mf_frames, fl, ys, rfl, .inl ⟨SqL.of ey, fun t1 h1 => ?_⟩⟩
    have S1 := Same.new (o := .tup ys) h1
    have em1 := S1 _ _ em
    refine ⟨_, rfl, ma, dx, _, _, rfl, em1, mf_heap, hl, xs, rfl, .inl ⟨SqL.of (S1 _ _ ex), fun t2 h2 => ?_⟩⟩
    have S2 := Same.new (o := .tup xs) h2
    have em2 := S2 _ _ em1
    have d1 : Dt K (upd (upd H t1 (.tup ys)) t2 (.tup xs)) (.ref t1) (.tuple (M.frs.map frD)) := (Dt.made h1 ay).mono S2
    have d2 : Dt K (upd (upd H t1 (.tup ys)) t2 (.tup xs)) (.ref t2) (.tuple (M.obs.map obD)) := Dt.made h2 (ax.mono S1)
    have dc := dvc.mono (S1.trans S2)
    generalize upd (upd H t1 (.tup ys)) t2 (.tup xs) = H2 at S2 em2 d1 d2 dc
    refine ⟨_, rfl, ma, dx, _, _, rfl, em2, mf_out, _, rfl, ma, dx, _, _, rfl, em2, mf_active, _, rfl, ma, dx, _, _, rfl, em2, mf_here, _, rfl, ma, dx, _, _, rfl, em2, mf_line, _, rfl, ma, dx, _, _, rfl, em2, mf_steps, Nat.le_of_ble_eq_true rfl, fun t ht => ?_⟩
    exact k t _ ((S1.trans S2).trans (Same.new ht)) (Dt.made ht (.cons dc (.cons d1 (.cons d2 (.cons (.str _) (.cons (.int _) (.cons (.str _) (.cons (.int _) (.cons (.int _) .nil)))))))))
end

section
--SPLIT
end
section
variable {P : Program} {w : World} {K : PySem.W.Frag} {mg : Str → Option Value} {base : Heap}
/-! data that can be laid: what == takes -/
theorem lay_tup {ds : List PyData} (h : ∀ d ∈ ds, PyData.canLay0 d = true) : PyData.canLay0 (.tuple ds) = true := by
  have := canLayAll0_of h
  simp only [PyData.canLay0]
  exact this
theorem lay_int (i : Int) : PyData.canLay0 (.int i) = true := rfl
theorem tree_lay {n : Nat} {d : PyData} (h : TreeD n d) : PyData.canLay0 d = true := by
  induction h with
  | str js _ h => exact tx_ok h
  | int i _ => rfl
  | bool b => rfl
  | tup ds h1 _ ih => exact lay_tup ih
theorem sg_lay : ∀ z ∈ ([("break" : Str), "continue", "return", "raise"] : List Str), PyData.canLay0 (.str z) = true := by decide +kernel
theorem fld_lay {m : Nat} : ∀ {x : Fld}, FldSm0 m x → PyData.canLay0 (fldD x) = true
  | .v x, h => val_lay h
  | .V xs, h => lay_tup fun d hd => by
    obtain ⟨x, hx, rfl⟩ := List.mem_map.mp hd
    exact val_lay (h.2 x hx)
  | .W ps, h => lay_tup fun d hd => by
    obtain ⟨x, hx, rfl⟩ := List.mem_map.mp hd
    refine lay_tup fun e he => ?_
    rcases List.mem_cons.mp he with rfl | he
    · exact val_lay (h.2 x hx).1
    · rw [List.mem_singleton.mp he]; exact val_lay (h.2 x hx).2
  | .X ps, h => lay_tup fun d hd => by
    obtain ⟨x, hx, rfl⟩ := List.mem_map.mp hd
    refine lay_tup fun e he => ?_
    rcases List.mem_cons.mp he with rfl | he
    · exact tx_ok (h.2 x hx).1.lt
    · rw [List.mem_singleton.mp he]; exact val_lay (h.2 x hx).2
  | .t d, h => tree_lay (n := 3) h
  | .a k, _ => rfl
  | .b k, _ => rfl
  | .n i, _ => rfl
  | .x js, h => tx_ok (show TxSm js from h).lt
  | .s0, _ => lay_tup (by simp)
  | .s1 z, h => lay_tup fun d hd => by
    rw [List.mem_singleton.mp hd]
    rcases h with rfl | rfl
    · exact sg_lay _ (by simp)
    · exact sg_lay _ (by simp)
  | .s2 z x, h => lay_tup fun d hd => by
    rcases List.mem_cons.mp hd with rfl | hd
    · rcases h.1 with rfl | rfl
      · exact sg_lay _ (by simp)
      · exact sg_lay _ (by simp)
    · rw [List.mem_singleton.mp hd]; exact val_lay h.2
theorem frk_lay : ∀ t ∈ frTab, PyData.canLay0 (.str t.1) = true := by decide +kernel
theorem cok_lay : ∀ t ∈ coTab, PyData.canLay0 (.str t.1) = true := by decide +kernel
theorem obk_lay : ∀ t ∈ obTab, PyData.canLay0 (.str t.1) = true := by decide +kernel
theorem row_lay {kd : Str} {ds : List PyData} (h1 : PyData.canLay0 (.str kd) = true) (h2 : ∀ d ∈ ds, PyData.canLay0 d = true) : PyData.canLay0 (.tuple (.str kd :: ds)) = true := lay_tup fun d hd => by
  rcases List.mem_cons.mp hd with rfl | hd
  · exact h1
  · exact h2 d hd
theorem fr_lay {m : Nat} {f : Fr} (h : FrSm0 m f) : PyData.canLay0 (frD f) = true := row_lay (frk_lay _ h.1) fun d hd => by
  obtain ⟨x, hx, rfl⟩ := List.mem_map.mp hd
  exact fld_lay (h.2 x hx)
theorem fl2_lay {m : Nat} : ∀ {x : Fl2}, Fl2Sm0 m x → PyData.canLay0 (fl2D x) = true
  | .one x, h => fld_lay h
  | .fr l, h => lay_tup fun d hd => by
    obtain ⟨f, hf, rfl⟩ := List.mem_map.mp hd
    exact fr_lay (h.2 f hf)
end

section
--SPLIT
end
abbrev s_same_run : Stmt := top 36
abbrev N_same_run : List Str := ["machine", "other", "one", "two"]
abbrev P_same_run : List Str := ["machine", "other"]
theorem sc_same_run : FnScope N_same_run P_same_run (defScope s_same_run) := ⟨rfl, rfl, rfl, by decide +kernel, rfl, by decide +kernel, by decide +kernel⟩
section
variable {P : Program} {w : World} {K : PySem.W.Frag} {mg : Str → Option Value} {base : Heap}
theorem wd_depth {n : Nat} {d : PyData} (h : Wd n d) : d.depth ≤ n := by
  induction h with
  | str z => exact Nat.zero_le _
  | int i => exact Nat.zero_le _
  | bool b => exact Nat.zero_le _
  | tup h1 h2 ih =>
    have := depthAll_of ih
    simp only [PyData.depth]
    omega
theorem pD_wd {m : Nat} {M : Pt} (sm : PtSm m M) (hm : m ≤ 500) : Wd 8 (pD M) := by
  refine .tup (by simp) fun d hd => ?_
  simp only [List.mem_cons, List.not_mem_nil, or_false] at hd
  rcases hd with rfl | rfl | rfl | rfl | rfl | rfl | rfl | rfl
  · exact (wd_fr (by have := coTab_len sm.c.1; rw [List.length_map] at this; omega) sm.c.2).up (by decide)
  · exact (Wd.tup (n := 4) (by rw [List.length_map]; have := sm.fl; omega) fun d hd => by obtain ⟨x, hx, rfl⟩ := List.mem_map.mp hd; exact (sm.f x hx).wd).up (by decide)
  · exact Wd.tup (n := 6) (by rw [List.length_map, sm.ol]; omega) fun d hd => by obtain ⟨x, hx, rfl⟩ := List.mem_map.mp hd; exact (sm.o x hx).wd
  · exact .str _
  · exact .int _
  · exact .str _
  · exact .int _
  · exact .int _
theorem pD_lay {m : Nat} {M : Pt} (sm : PtSm m M) (hm : m ≤ 500) (X : PtX M) : PyData.canLay0 (pD M) = true := by
  have h20 : m ≤ 10 ^ 20 := Nat.le_trans hm (by decide)
  obtain ⟨out, here, a, l, s, X⟩ := X
  refine lay_tup fun d hd => ?_
  simp only [List.mem_cons, List.not_mem_nil, or_false] at hd
  rcases hd with rfl | rfl | rfl | rfl | rfl | rfl | rfl | rfl
  · exact row_lay (cok_lay _ sm.c.1) fun d hd => by
      obtain ⟨x, hx, rfl⟩ := List.mem_map.mp hd
      exact fld_lay ((sm.c.2 x hx).z h20)
  · exact lay_tup fun d hd => by
      obtain ⟨x, hx, rfl⟩ := List.mem_map.mp hd
      exact fr_lay ((sm.f x hx).z h20)
  · exact lay_tup fun d hd => by
      obtain ⟨o, ho, rfl⟩ := List.mem_map.mp hd
      exact row_lay (obk_lay _ (sm.o o ho).1) fun d hd => by
        obtain ⟨x, hx, rfl⟩ := List.mem_map.mp hd
        exact fl2_lay (((sm.o o ho).2 x hx).z h20)
  · rw [X.eo]; exact tx_ok X.o2
  · rfl
  · rw [X.eh]; exact tx_ok X.h2
  · rfl
  · rfl
theorem pD_sh {m : Nat} {M : Pt} (sm : PtSm m M) (hm : m ≤ 500) (X : PtX M) : SeqAt.shaped (pD M) = true := by
  have h := wd_depth (pD_wd sm hm)
  unfold SeqAt.shaped
  rw [pD_lay sm hm X]
  exact decide_eq_true (by omega)
def spSameB (K : PySem.W.Frag) : Sp := fun vs H Q _ => ∃ (x y : V) (d : PyData), vs = [x, y] ∧ Dt K H x d ∧ Dt K H y d ∧ Wd 8 d ∧ ∀ H', Same H H' → Q (.bl true) H'
def spSameRun (K : PySem.W.Frag) (C : Addr) : Sp := fun vs H Q _ => ∃ (ma fl hl mb fb hb : Addr) (M O : Pt) (m m2 : Nat), vs = [.ref ma, .ref mb] ∧ MacAt K C H ma fl hl M ∧ MacAt K C H mb fb hb O ∧ PtSm m M ∧ 17 ≤ m ∧ m ≤ 500 ∧ PtX M ∧ PtSm m2 O ∧ 17 ≤ m2 ∧ m2 ≤ 500 ∧
  (∀ t t2, Full M m t → Full O m2 t2 → renP O (O.st t2) = renP M (M.st t)) ∧ ∀ H', Same H H' → Q (.bl true) H'
theorem ok_samerun {C : Addr} {f : Addr} {fd : FuncData} (F : Fun K "same_run" "same_run" s_same_run f fd) (T : Txt K mg) (U_renumber : Use P w K mg base CX0 "renumber" 7 P_renumber (spRenumber K C)) (U_fields : Use P w K mg base CX0 "_fields" 1 P_fields (spFields K C)) (U_same_booleans : Use P w K mg base CX0 "_same_booleans" 1 P_same_booleans (spSameB K)) : FnG P w K mg base CX0 8 f fd P_same_run (spSameRun K C) := by
  refine okG0 F sc_same_run (fun vs H Q E h => ?_) fun cdv A outer s H vs Q E hr hg h => ?_
  · obtain ⟨ma, fl, hl, mb, fb, hb, M, O, m, m2, rfl, _⟩ := h
    rfl
  · obtain ⟨ma, fl, hl, mb, fb, hb, M, O, m, m2, rfl, MA, MB, sm, hm, hm5, X, so, ho, ho5, he, k⟩ := h
    refine ⟨_, (pss_cons (ps_set (i := 2) sc_same_run.nd rfl (Or.inl rfl) (pe_use U_fields (hr.mono (by decide)) hg rfl (pa_cons (pe_use U_renumber (hr.mono (by decide)) hg rfl (pa_cons (pv 0) pa_nil)) pa_nil)))
  (pss_cons (ps_set (i := 3) sc_same_run.nd rfl (Or.inl rfl) (pe_use U_fields (hr.mono (by decide)) hg rfl (pa_cons (pe_use U_renumber (hr.mono (by decide)) hg rfl (pa_cons (pv 1) pa_nil)) pa_nil)))
  (pss_one (ps_ret (pe_and (pe_cmpR (op_eqD hr.units) (pv 2) (pv 3) (nomark _)) (pe_one (pe_use U_same_booleans (hr.mono (by decide)) hg rfl (pa_cons (pv 2) (pa_cons (pv 3) pa_nil))))))))), ?_⟩
    refine ⟨_, rfl, ma, fl, hl, M, m, rfl, MA, sm, hm, hm5, fun m1 f1 h1 t H1 full1 MA1 S1 _ _ _ _ => ?_⟩
    refine ⟨m1, f1, h1, renP M (M.st t), rfl, MA1, fun t1 H2 S2 d1 => ?_⟩
    have S12 := S1.trans S2
    refine ⟨_, rfl, mb, fb, hb, O, m2, rfl, MB.same S12, so, ho, ho5, fun m3 f3 h3 t2 H3 full2 MB3 S3 _ _ _ _ => ?_⟩
    refine ⟨m3, f3, h3, renP O (O.st t2), rfl, MB3, fun t3 H4 S4 d2 => ?_⟩
    rw [he t t2 full1 full2] at d2
    have hlm := sm.stlen hm t
    have XR : PtX (renP M (M.st t)) := by
      obtain ⟨out, here, a, l, st, X⟩ := X
      exact ⟨out, here, a, l, st, X.eo, X.eh, X.ea, X.el, X.es, X.o1, X.o2, X.h1, X.h2, X.a1, X.l1, X.s1⟩
    have sh := pD_sh full1.ren (by omega) XR
    have d1' := d1.mono (S3.trans S4)
    refine ⟨_, rfl, _, rfl, _, _, d1'.dp, d2.dp, sh, sh, ?_⟩
    rw [eqv_self (SeqAt.canLay_of_shaped sh)]
    refine ⟨_, rfl, iteTb rfl ?_⟩
    exact ⟨_, rfl, _, rfl, _, _, _, rfl, d1', d2, pD_wd full1.ren (by omega), fun H5 S5 => k H5 ((S12.trans (S3.trans S4)).trans S5)⟩
end

section
--SPLIT
end
abbrev s_same_booleans : Stmt := top 44
abbrev N_same_booleans : List Str := ["one", "other", "waiting", "a", "b"]
abbrev P_same_booleans : List Str := ["one", "other"]
theorem sc_same_booleans : FnScope N_same_booleans P_same_booleans (defScope s_same_booleans) := ⟨rfl, rfl, rfl, by decide +kernel, rfl, by decide +kernel, by decide +kernel⟩
section
variable {P : Program} {w : World} {K : PySem.W.Frag} {mg : Str → Option Value} {base : Heap}
/-- what waits: groups of data, each group a level below the one before -/
inductive Stk9 : Nat → List PyData → Prop
  | nil : Stk9 9 []
  | grp {n : Nat} {ds es : List PyData} : Stk9 (n + 1) ds → es.length ≤ 1000 → (∀ e ∈ es, Wd n e) → Stk9 n (ds ++ es)
theorem Stk9.le {n : Nat} {ds : List PyData} (h : Stk9 n ds) : n ≤ 9 ∧ ds.length ≤ 1000 * (9 - n) := by
  induction h with
  | nil => exact ⟨Nat.le_refl _, Nat.zero_le _⟩
  | grp h hl _ ih => rw [List.length_append]; omega
theorem Stk9.pop {n : Nat} {ds : List PyData} {d : PyData} (h : Stk9 n (ds ++ [d])) : ∃ m, n ≤ m ∧ m ≤ 8 ∧ Wd m d ∧ Stk9 m ds := by
  generalize e : ds ++ [d] = fs at h
  induction h generalizing ds with
  | nil => simp at e
  | @grp n as es h hl hw ih =>
    rcases List.eq_nil_or_concat es with rfl | ⟨es', x, rfl⟩
    · rw [List.append_nil] at e
      obtain ⟨m, h1, h2, h3, h4⟩ := ih e
      exact ⟨m, by omega, h2, h3, h4⟩
    · rw [List.concat_eq_append, ← List.append_assoc] at e
      obtain ⟨e1, e2⟩ := List.append_inj' e rfl
      obtain rfl : d = x := by simpa using e2
      subst e1
      rw [List.concat_eq_append, List.length_append] at hl
      have := h.le
      exact ⟨n, Nat.le_refl _, by omega, hw _ (by simp), .grp h (by simp at hl; omega) fun e he => hw e (by simp [he])⟩
theorem Stk9.push {m : Nat} {ds es : List PyData} (h : Stk9 m ds) (hd : Wd m (.tuple es)) : ∃ n, Stk9 n (ds ++ es) := by
  cases hd with
  | tup h1 h2 => exact ⟨_, .grp h h1 h2⟩
/-- the pairs that wait: of equal data each -/
inductive PendB (K : PySem.W.Frag) (H : Hp) : List V → List PyData → Prop
  | nil : PendB K H [] []
  | snoc {ts : List V} {ds : List PyData} {T : Addr} {x y : V} {d : PyData} : PendB K H ts ds → SqT K H T [x, y] → Dt K H x d → Dt K H y d → PendB K H (ts ++ [.ref T]) (ds ++ [d])
theorem PendB.len {H : Hp} {ts : List V} {ds : List PyData} (h : PendB K H ts ds) : ts.length = ds.length := by
  induction h with
  | nil => rfl
  | snoc _ _ _ _ ih => simp [ih]
theorem PendB.keepT {H H' : Hp} {ts : List V} {ds : List PyData} (h : PendB K H ts ds) (e : KeepT K H H') : PendB K H' ts ds := by
  induction h with
  | nil => exact .nil
  | snoc _ h1 h2 h3 ih => exact .snoc ih (e _ _ h1) (h2.keepT e) (h3.keepT e)
theorem PendB.zip {H H0 : Hp} {es : List PyData} : ∀ {ts xs ys : List V} (tA : List V) (dA : List PyData), PendB K H tA dA → ts.length = es.length → PairsAt H0 H ts xs ys → DtAll K H xs es → DtAll K H ys es → PendB K H (tA ++ ts) (dA ++ es) := by
  intro ts xs ys tA dA h hl hp hx hy
  induction es generalizing ts xs ys tA dA with
  | nil =>
    have : ts = [] := List.length_eq_zero_iff.mp hl
    subst this
    simpa using h
  | cons e es ih =>
    cases hx with
    | @cons x xs' _ _ hx1 hx2 =>
      cases hy with
      | @cons y ys' _ _ hy1 hy2 =>
        cases ts with
        | nil => simp at hl
        | cons t ts =>
          obtain ⟨T, a, b, rfl, _, hT, ex, ey⟩ := hp 0 t rfl
          obtain rfl : x = a := by simpa using ex
          obtain rfl : y = b := by simpa using ey
          have := ih (tA ++ [.ref T]) (dA ++ [e]) (.snoc h (SqT.of hT) hx1 hy1) (by simpa using hl) (fun j t ht => by
            obtain ⟨T, a, b, h1, h2, h3, h4, h5⟩ := hp (j + 1) t (by simpa using ht)
            exact ⟨T, a, b, h1, h2, h3, by simpa using h4, by simpa using h5⟩) hx2 hy2
          simpa using this
noncomputable def nodeB (ds : List PyData) : Nat := sizeOf ds
theorem nodeB_app (ds es : List PyData) : nodeB (ds ++ es) + 1 = nodeB ds + nodeB es := by
  unfold nodeB
  induction ds with
  | nil => simp; omega
  | cons d ds ih => simp only [List.cons_append, List.cons.sizeOf_spec]; omega
theorem leB (ds : List PyData) (d : PyData) : nodeB ds < nodeB (ds ++ [d]) := by
  have := nodeB_app ds [d]
  have h2 : 2 ≤ nodeB [d] := by unfold nodeB; simp only [List.cons.sizeOf_spec, List.nil.sizeOf_spec]; have : 0 < sizeOf d := by cases d <;> simp <;> omega
                                omega
  omega
theorem ok_sameb {f : Addr} {fd : FuncData} (F : Fun K "_same_booleans" "_same_booleans" s_same_booleans f fd) (T : Txt K mg) : FnG P w K mg base CX0 1 f fd P_same_booleans (spSameB K) := by
  refine okG0 F sc_same_booleans (fun vs H Q E h => ?_) fun cdv A outer s H vs Q E hr hg h => ?_
  · obtain ⟨x, y, d, rfl, _⟩ := h
    rfl
  · obtain ⟨x, y, d, rfl, hx, hy, hd, k⟩ := h
    refine ⟨_, (pss_cons (ps_set (i := 2) sc_same_booleans.nd rfl (Or.inl rfl) (pe_lst (pa_cons (pe_tup (pa_cons (pv 0) (pa_cons (pv 1) pa_nil))) pa_nil)))
  (pss_cons (ps_while PassesOwn.never (pt_up (pt_truth (pv 2) (by intro _; rfl)))
   (pss_cons (ps_asg (pe_bm0 PySem.F.plainAttrs_list PySem.F.slot_list_pop PySem.F.type_list_pop mt_pop (pv 2)) (pg_tup (by rfl) (pgs_cons (pg_name (i := 3) sc_same_booleans.nd rfl (Or.inl rfl)) (pgs_cons (pg_name (i := 4) sc_same_booleans.nd rfl (Or.inl rfl)) pgs_nil))))
  (pss_one (ps_if (pt_val (pe_callB call_isi (by rfl) T.b_isinstance (by decide +kernel) (pa_cons (pv 3) (pa_cons (pe_bltn (v := .ty "tuple") (by rfl) T.b_tuple (by decide +kernel) rfl) pa_nil))))
   (pss_one (ps_expr (pe_bm PySem.F.plainAttrs_list PySem.F.slot_list_extend PySem.F.type_list_extend mt_extend (pv 2) (pa_cons (pe_listZ rfl (by rfl) T.b_zip (by rfl) T.b_list (pa_cons (pv 3) (pa_cons (pv 4) pa_nil))) pa_nil))))
   (pss_one (ps_if (pt_cmpR op_ne (pe_callB call_isi (by rfl) T.b_isinstance (by decide +kernel) (pa_cons (pv 3) (pa_cons (pe_bltn (v := .ty "bool") (by rfl) T.b_bool (by decide +kernel) rfl) pa_nil))) (pe_callB call_isi (by rfl) T.b_isinstance (by decide +kernel) (pa_cons (pv 4) (pa_cons (pe_bltn (v := .ty "bool") (by rfl) T.b_bool (by decide +kernel) rfl) pa_nil))) (nomark _))
   (pss_one (ps_ret pe_bl))
   pss_nil))))))
  (pss_one (ps_ret pe_bl)))), ?_⟩
    refine ⟨_, rfl, _, rfl, sz_2, fun T0 hT0 => ?_⟩
    have S0 := Same.new (o := .tup [x, y]) hT0
    have eT := upd_same (H := H) (a := T0) (o := HO.tup [x, y])
    generalize upd H T0 (.tup [x, y]) = H1 at S0 eT
    refine ⟨sz_1, fun wl hwl => ?_⟩
    have S1 := S0.trans (Same.new (o := .lst [.ref T0]) hwl)
    have ew := upd_same (H := H1) (a := wl) (o := HO.lst [.ref T0])
    have eT1 : (upd H1 wl (.lst [.ref T0])) T0 = some (.tup [x, y]) := Same.new hwl _ _ eT
    have hwl0 : H wl = none := same_none S0 hwl
    generalize upd H1 wl (.lst [.ref T0]) = H2 at S1 ew eT1
    clear S0 eT hwl hT0
    refine while_upN (fun m σ H1 => ∃ (x3 x4 : Option V) (n : Nat) (ts : List V) (ds : List PyData), σ = [some x, some y, some (.ref wl), x3, x4] ∧ Same H H1 ∧ H1 wl = some (.lst ts) ∧ PendB K H1 ts ds ∧ Stk9 n ds ∧ m = nodeB ds)
      ⟨_, none, none, 8, [.ref T0], [d], rfl, S1, ew, .snoc .nil (SqT.of eT1) (hx.mono S1) (hy.mono S1), .grp .nil (by simp) (by simpa using hd), rfl⟩ ?_
    rintro m σ H3 ⟨x3, x4, n, ts, ds, rfl, S3, e3, pend, stk, rfl⟩
    refine ⟨_, rfl, !ts.isEmpty, .inl ⟨ts, SqL.of e3, rfl⟩, ?_⟩
    cases pend with
    | nil => exact iteFb rfl (k _ S3)
    | @snoc ts ds T x y d pend hT hx hy =>
      obtain ⟨m, _, hm8, hw, stk2⟩ := stk.pop
      clear stk
      refine iteTb (by simp) ?_
      refine ⟨_, rfl, .inl ⟨rfl, _, SqL.of e3⟩, wl, _, .ref T, rfl, rfl, e3, by simp, ?_⟩
      rw [List.dropLast_concat]
      have kt : KeepT K H3 (upd H3 wl (.lst ts)) := KeepT.upd e3
      have S4 : Same H (upd H3 wl (.lst ts)) := fun b o hb => by rw [upd_ne (ne_of_none hb hwl0)]; exact S3 b o hb
      have e4 := upd_same (H := H3) (a := wl) (o := HO.lst ts)
      have pend4 := pend.keepT kt
      have hT4 := kt _ _ hT
      have hx4 := hx.keepT kt
      have hy4 := hy.keepT kt
      generalize upd H3 wl (.lst ts) = H4 at S4 e4 pend4 hT4 hx4 hy4
      clear kt S3 e3 pend hT hx hy
      refine ⟨_, _, rfl, hT4, rfl, x, _, rfl, y, _, rfl, rfl, ?_⟩
      have lts := pend4.len
      have hsl := stk2.le
      cases hw with
      | @tup n es h1 h2 =>
        obtain ⟨ax, xs, rfl, sx, dx⟩ := hx4.tuple_inv
        obtain ⟨ay, ys, rfl, sy, dy⟩ := hy4.tuple_inv
        refine ⟨_, rfl, _, _, _, _, true, rfl, .ty _, SqT.tyX sx, rfl, _, rfl, iteTb rfl ?_⟩
        refine ⟨_, rfl, .inl ⟨rfl, _, SqL.of e4⟩, _, rfl, _, rfl, ax, ay, xs, ys, rfl, sx, sy, fun q H5 zs S5 hq eq hz hp => ?_⟩
        have lx := dx.length
        have ly := dy.length
        have lz : zs.length = es.length := by rw [hz, lx, ly]; omega
        refine ⟨wl, q, ts, zs, rfl, rfl, S5 _ _ e4, eq, Nat.le_trans (show _ ≤ 20000 by omega) (by decide), ?_⟩
        have kt := KeepT.upd (K := K) (o := .lst (ts ++ zs)) (S5 _ _ e4)
        have pe := (PendB.zip ts ds (pend4.keepT (LK.Same.keepT S5)) lz hp (dx.mono S5) (dy.mono S5)).keepT kt
        have nb := nodeB_app ds es
        have nb2 := nodeB_app ds [.tuple es]
        have hes : nodeB [.tuple es] = nodeB es + 3 := by unfold nodeB; simp only [List.cons.sizeOf_spec, List.nil.sizeOf_spec, PyData.tuple.sizeOf_spec]; omega
        exact ⟨_, by omega, some _, some _, n, _, _, rfl, fun b o hb => by rw [upd_ne (ne_of_none hb hwl0)]; exact S5 _ _ (S4 b o hb), upd_same, pe, (.grp stk2 h1 h2), rfl⟩
      | str z =>
        obtain rfl := hx4.str_inv
        obtain rfl := hy4.str_inv
        refine ⟨_, rfl, _, _, _, _, false, rfl, .ty _, .base (.str _), rfl, _, rfl, iteFb rfl ?_⟩
        refine ⟨_, rfl, _, _, _, _, false, rfl, .ty _, .base (.str _), rfl, _, rfl, _, _, _, _, false, rfl, .ty _, .base (.str _), rfl, rfl, _, rfl, iteFb rfl ?_⟩
        have nb2 := nodeB_app ds [.str z]
        exact ⟨_, leB ds _, some _, some _, _, _, _, rfl, S4, e4, pend4, stk2, rfl⟩
      | int z =>
        obtain rfl := hx4.int_inv
        obtain rfl := hy4.int_inv
        refine ⟨_, rfl, _, _, _, _, false, rfl, .ty _, .base (.int _), rfl, _, rfl, iteFb rfl ?_⟩
        refine ⟨_, rfl, _, _, _, _, false, rfl, .ty _, .base (.int _), rfl, _, rfl, _, _, _, _, false, rfl, .ty _, .base (.int _), rfl, rfl, _, rfl, iteFb rfl ?_⟩
        exact ⟨_, leB ds _, some _, some _, _, _, _, rfl, S4, e4, pend4, stk2, rfl⟩
      | bool z =>
        obtain rfl := hx4.bool_inv
        obtain rfl := hy4.bool_inv
        refine ⟨_, rfl, _, _, _, _, false, rfl, .ty _, .base (.bl _), rfl, _, rfl, iteFb rfl ?_⟩
        refine ⟨_, rfl, _, _, _, _, true, rfl, .ty _, .base (.bl _), rfl, _, rfl, _, _, _, _, true, rfl, .ty _, .base (.bl _), rfl, rfl, _, rfl, iteFb rfl ?_⟩
        exact ⟨_, leB ds _, some _, some _, _, _, _, rfl, S4, e4, pend4, stk2, rfl⟩
end

section
--SPLIT
end
abbrev s_law : Stmt := top 80
abbrev N_law : List Str := ["script", "box", "parts", "other", "taken", "one", "two", "first", "second"]
abbrev P_law : List Str := ["script"]
theorem sc_law : FnScope N_law P_law (defScope s_law) := ⟨rfl, rfl, rfl, by decide +kernel, rfl, by decide +kernel, by decide +kernel⟩
section
variable {P : Program} {w : World} {K : PySem.W.Frag} {mg : Str → Option Value} {base : Heap}
def spLaw (K : PySem.W.Frag) : Sp := fun vs H Q _ => ∃ (a : Addr) (ns : List Int), vs = [.ref a] ∧ SqL K H a (ns.map V.int) ∧ ns.length ≤ 63 ∧ ∀ H', Q (.bl true) H'
theorem ok_law {C : Addr} {f : Addr} {fd : FuncData} (F : Fun K "law" "law" s_law f fd) (T : Txt K mg) (UC_Machine : UseC K mg "Machine" fM C) (U_law_digits : Use P w K mg base CX0 "_law_digits" 2 P_law_digits (spDigits K)) (U_law_draw : Use P w K mg base CX0 "_law_draw" 1 P_law_draw (spDraw K)) (U_law_parts : Use P w K mg base CX0 "_law_parts" 14 P_law_parts (spParts K)) (U_law_other : Use P w K mg base CX0 "_law_other" 13 P_law_other (spLOther K)) (U_law_made : Use P w K mg base CX0 "_law_made" 3 P_law_made (spMadeM K C))
    (U_write_machine : Use P w K mg base CX0 "write_machine" 11 P_write_machine (spWMach K C)) (U_law_numbers : Use P w K mg base CX0 "_law_numbers" 2 P_law_numbers (spLNumbers K)) (U_same_run : Use P w K mg base CX0 "same_run" 8 P_same_run (spSameRun K C)) (U_law_machine_is : Use P w K mg base CX0 "_law_machine_is" 10 P_law_machine_is (spMis K C)) : FnG P w K mg base CX0 15 f fd P_law (spLaw K) := by
  refine okG0 F sc_law (fun vs H Q E h => ?_) fun cdv A outer s H vs Q E hr hg h => ?_
  · obtain ⟨a, ns, rfl, _⟩ := h
    rfl
  · obtain ⟨a, ns, rfl, hs, hn, k⟩ := h
    refine ⟨_, (pss_cons (ps_set (i := 1) sc_law.nd rfl (Or.inl rfl) (pe_lst (pa_cons (pe_use U_law_digits (hr.mono (by decide)) hg rfl (pa_cons (pv 0) (pa_cons pe_int (pa_cons pe_int pa_nil)))) (pa_cons pe_int pa_nil))))
  (pss_cons (ps_set (i := 2) sc_law.nd rfl (Or.inl rfl) (pe_use U_law_parts (hr.mono (by decide)) hg rfl (pa_cons (pv 1) pa_nil)))
  (pss_cons (ps_set (i := 3) sc_law.nd rfl (Or.inl rfl) (pe_use U_law_other (hr.mono (by decide)) hg rfl (pa_cons (pv 1) (pa_cons (pv 2) pa_nil))))
  (pss_cons (ps_set (i := 4) sc_law.nd rfl (Or.inl rfl) (pe_use U_law_draw (hr.mono (by decide)) hg rfl (pa_cons (pv 1) (pa_cons (pe_op op_add (pe_callB call_len (by rfl) T.b_len PySem.boot_len (pa_cons (pe_ix ix_list (pv 2) pe_int (fun _ _ => rfl)) pa_nil)) pe_int) pa_nil))))
  (pss_cons (ps_set (i := 5) sc_law.nd rfl (Or.inl rfl) (pe_use U_law_made (hr.mono (by decide)) hg rfl (pa_cons (pv 2) pa_nil)))
  (pss_cons (ps_set (i := 6) sc_law.nd rfl (Or.inl rfl) (pe_use U_law_made (hr.mono (by decide)) hg rfl (pa_cons (pv 3) pa_nil)))
  (pss_cons (ps_set (i := 7) sc_law.nd rfl (Or.inl rfl) (pe_use U_write_machine (hr.mono (by decide)) hg rfl (pa_cons (pv 5) (pa_cons (pv 4) pa_nil))))
  (pss_cons (ps_set (i := 8) sc_law.nd rfl (Or.inl rfl) (pe_use U_write_machine (hr.mono (by decide)) hg rfl (pa_cons (pv 6) (pa_cons (pv 4) pa_nil))))
  (pss_cons (ps_if (PW.pt (pw_or (pt_not (pt_val (pe_use U_law_numbers (hr.mono (by decide)) hg rfl (pa_cons (pv 7) pa_nil)))) (pw_or (pt_not (pt_val (pe_use U_law_numbers (hr.mono (by decide)) hg rfl (pa_cons (pv 8) pa_nil)))) (pw_or1 (pt_cmpR (op_neD hr.units) (pv 7) (pv 8) (nomark _))))))
   (pss_one (ps_ret pe_bl))
   pss_nil)
  (pss_cons (ps_if (PW.pt (pw_or (pt_cmpR op_notBl (pe_use U_same_run (hr.mono (by decide)) hg rfl (pa_cons (pv 5) (pa_cons (pv 6) pa_nil))) pe_bl (nomark _)) (pw_or1 (pt_cmpR op_notBl (pe_use U_same_run (hr.mono (by decide)) hg rfl (pa_cons (pv 6) (pa_cons (pv 5) pa_nil))) pe_bl (nomark _)))))
   (pss_one (ps_ret pe_bl))
   pss_nil)
  (pss_one (ps_ret (pe_and (pe_use U_law_machine_is (hr.mono (by decide)) hg rfl (pa_cons (pv 5) (pa_cons (pv 2) pa_nil))) (pe_one (pe_use U_law_machine_is (hr.mono (by decide)) hg rfl (pa_cons (pv 6) (pa_cons (pv 3) pa_nil))))))))))))))))), ?_⟩
    refine ⟨_, rfl, a, ns, 0, 63, rfl, hs, by decide, by decide, fun dl H1 nd D => ?_⟩
    obtain ⟨ds, hd, hl, hds, S1⟩ := D
    refine ⟨sz_2, fun p hp0 => ?_⟩
    have B0 : BoxAt (upd H1 p (.lst [.ref dl, .int 0])) p dl := ⟨ds, 0, upd_same, by decide, by rw [upd_ne (ne_of_none hd hp0)]; exact hd, hl, hds⟩
    generalize upd H1 p (.lst [.ref dl, .int 0]) = H2 at B0
    clear hd hds S1 hp0
    refine ⟨_, rfl, p, dl, rfl, B0, fun lp fl hl m M H3 PA sm hm hm2 X n1 n2 n3 hlf B3 K3 => ?_⟩
    obtain ⟨out, here, ac, ln, st, X⟩ := X
    have hlp : lp ≠ p := (B0.ne_new n1).1
    have hhp : hl ≠ p := (B0.ne_new n2).1
    have hfp : fl ≠ p := (B0.ne_new n3).1
    refine ⟨_, rfl, _, rfl, p, dl, lp, fl, hl, M, m, rfl, B3, PA, sm, hm, hm2, hlp, hfp, hhp, fun lq fq hq O l H4 PO o h17 h34 hlqp hfqp hhqp B4 K4 => ?_⟩
    have PA4 := PA.keep K4 B3 hlp hfp hhp
    have o1 := X.o1
    have hl2 : M.out.length = out.length := by rw [X.eo]; simp [tx, S, PySem.Str.length]
    obtain ⟨vc, el, dvc⟩ := id PA4.ex
    refine ⟨_, rfl, _, rfl, lp, _, _, _, rfl, rfl, SqL.of el, at_of' (j := 3) rfl rfl, _, _, rfl, ⟨by rw [hl2]; exact Nat.le_trans o1 (by decide), rfl⟩, _, _, rfl, rfl, p, dl, _, rfl, B4, by omega, fun r H5 r0 r1 B5 K5 => ?_⟩
    obtain ⟨tk, rfl⟩ := Int.eq_ofNat_of_zero_le r0
    have htk : tk ≤ out.length := by
      have r1 : ((tk : Nat) : Int) < ((M.out.length : Nat) : Int) + 1 := r1
      rw [hl2] at r1
      omega
    have PA5 := PA4.keep K5 B4 hlp hfp hhp
    have PO5 := PO.keep K5 B4 hlqp hfqp hhqp
    clear PA PA4 PO el dvc r0 r1 B0 B3 B4 K3 K4 n1 n2 n3
    refine ⟨_, rfl, lp, fl, hl, M, rfl, PA5, fun ma f1 h1 H6 MA S6 _ _ _ _ => ?_⟩
    refine ⟨_, rfl, lq, fq, hq, O, rfl, PO5.same S6, fun mb f2 h2 H7 MB S7 _ _ _ _ => ?_⟩
    have S67 := S6.trans S7
    have MA7 := MA.same S7
    have PA7 := PA5.same S67
    have PO7 := PO5.same S67
    clear PA5 PO5 MA S6 S7 S67
    refine ⟨_, rfl, _, rfl, ma, f1, h1, M, m, tk, out, here, ac, ln, st, rfl, MA7, sm, hm, by omega, X, by omega, fun t full => ?_⟩
    have hlm := sm.stlen hm t
    obtain ⟨ob, cn, fr, N⟩ := mac_n full.ren (by omega)
    refine ⟨_, ob, cn, fr, N, fun wl H8 nwl S8 ew hwl => ?_⟩
    have hroot : ∀ k ∈ M.roots, k ∈ l := fun k hk => by
      obtain ⟨h0, h1⟩ := sm.roots k hk
      obtain ⟨j, rfl⟩ := Int.eq_ofNat_of_zero_le h0
      exact o.all j (by omega)
    have fullO := o.full full hroot h17
    have XO : PtV O out here ac ln st := ⟨o.out.trans X.eo, o.here.trans X.eh, o.act.trans X.ea, o.line.trans X.el, o.steps.trans X.es, X.o1, X.o2, X.h1, X.h2, X.a1, X.l1, X.s1⟩
    refine ⟨_, rfl, _, rfl, mb, f2, h2, O, l.length, tk, out, here, ac, ln, st, rfl, MB.same S8, fullO.sm, h17, by omega, XO, by omega, fun t2 full2 => ?_⟩
    obtain rfl := fullO.e.uniq full2.e
    refine ⟨_, ob, cn, fr, by rw [o.ren full]; exact N, fun wl2 H9 nwl2 S9 ew2 _ => ?_⟩
    have ew9 := S9 _ _ ew
    have hby := N.byte X (by omega : tk ≤ 10 ^ 6)
    refine ⟨_, rfl, wl, _, rfl, ew9, hby, true, rfl, iteFb rfl ?_⟩
    refine ⟨_, rfl, wl2, _, rfl, ew2, hby, true, rfl, iteFb rfl ?_⟩
    refine ⟨_, rfl, _, rfl, _, _, .lst (SqL.of ew9) (dp_nV _), .lst (SqL.of ew2) (dp_nV _), sh_natL _, sh_natL _, ?_⟩
    rw [eqv_self (SeqAt.canLay_of_shaped (sh_natL _))]
    refine ⟨_, rfl, iteFb rfl ?_⟩
    have S89 := S8.trans S9
    have he : ∀ t t2, Full M m t → Full O l.length t2 → renP O (O.st t2) = renP M (M.st t) := fun t t2 fa fb => by
      obtain rfl := (o.full fa hroot h17).e.uniq fb.e
      exact o.ren fa
    refine ⟨_, rfl, _, rfl, ma, f1, h1, mb, f2, h2, M, O, m, l.length, rfl, MA7.same S89, MB.same S89, sm, hm, by omega, ⟨_, _, _, _, _, X⟩, fullO.sm, h17, by omega, he, fun H10 S10 => ?_⟩
    refine ⟨true, true, rfl, rfl, _, rfl, iteFb rfl ?_⟩
    have S810 := S89.trans S10
    refine ⟨_, rfl, _, rfl, mb, f2, h2, ma, f1, h1, O, M, l.length, m, rfl, MB.same S810, MA7.same S810, fullO.sm, h17, by omega, ⟨_, _, _, _, _, XO⟩, sm, hm, by omega, fun t t2 fa fb => (he t2 t fb fa).symm, fun H11 S11 => ?_⟩
    refine ⟨true, true, rfl, rfl, _, rfl, iteFb rfl ?_⟩
    have S811 := S810.trans S11
    refine ⟨_, rfl, _, rfl, ma, f1, h1, lp, fl, hl, M, m, rfl, MA7.same S811, PA7.same S811, sm, by omega, fun H12 S12 => ⟨true, rfl, iteTb rfl ?_⟩⟩
    have S812 := S811.trans S12
    exact ⟨_, rfl, _, rfl, mb, f2, h2, lq, fq, hq, O, l.length, rfl, MB.same S812, PO7.same S812, fullO.sm, by omega, fun H13 _ => k H13⟩
end

theorem walk_mk {l : PySem.W.OpenLaw} {w : World} {K : PySem.W.Frag} {h : Heap} {mg : Str → Option Value} {fa : Addr} (X : K.In h) (G : h.Ns mainGlobals mg) (hfa : mg "law" = some (.ref fa))
    {C_Machine : Addr} (k_Machine : ClsK K "Machine" ["control", "frames", "heap", "out", "active", "here", "line", "steps"] C_Machine)
    (f0 : HasFn K "_law_cell" s_law_cell)
    (f1 : HasFn K "_law_digits" s_law_digits)
    (f2 : HasFn K "_law_draw" s_law_draw)
    (f3 : HasFn K "_law_number" s_law_number)
    (f4 : HasFn K "_law_signs" s_law_signs)
    (f5 : HasFn K "_law_text" s_law_text)
    (f6 : HasFn K "_law_name" s_law_name)
    (f7 : HasFn K "_law_value" s_law_value)
    (f8 : HasFn K "_law_tree" s_law_tree)
    (f9 : HasFn K "_law_field" s_law_field)
    (f10 : HasFn K "_law_shape_of" s_law_shape_of)
    (f11 : HasFn K "_law_shape" s_law_shape)
    (f12 : HasFn K "_law_controls" s_law_controls)
    (f13 : HasFn K "_law_frames" s_law_frames)
    (f14 : HasFn K "_law_field" s_law_field)
    (f15 : HasFn K "_law_objects" s_law_objects)
    (f16 : HasFn K "_law_shape_of" s_law_shape_of)
    (f17 : HasFn K "_law_shape" s_law_shape)
    (f18 : HasFn K "_law_heap" s_law_heap)
    (f19 : HasFn K "_law_parts" s_law_parts)
    (f20 : HasFn K "_law_letters" s_law_letters)
    (f21 : HasFn K "_law_turned_value" s_law_turned_value)
    (f22 : HasFn K "_law_turned" s_law_turned)
    (f23 : HasFn K "_law_turned" s_law_turned)
    (f24 : HasFn K "_law_other" s_law_other)
    (f25 : HasMeth K C_Machine "__init__" "Machine.__init__" s_Machine___init__)
    (f26 : HasFn K "_law_made" s_law_made)
    (f27 : HasFn K "_add_new" s_add_new)
    (f28 : HasFn K "_values" s_values)
    (f29 : HasFn K "_references" s_references)
    (f30 : HasFn K "control_references" s_control_references)
    (f31 : HasFn K "frame_references" s_frame_references)
    (f32 : HasFn K "_references" s_references)
    (f33 : HasFn K "object_references" s_object_references)
    (f34 : HasFn K "reached" s_reached)
    (f35 : HasFn K "_new_value" s_new_value)
    (f36 : HasFn K "_with_numbers" s_with_numbers)
    (f37 : HasFn K "_renumbered" s_renumbered)
    (f38 : HasFn K "_with_numbers" s_with_numbers)
    (f39 : HasFn K "_renumbered" s_renumbered)
    (f40 : HasFn K "renumber" s_renumber)
    {A_write_count : Addr} (f41 : HasFnA K "write_count" s_write_count A_write_count)
    {A_write_string : Addr} (f42 : HasFnA K "write_string" s_write_string A_write_string)
    {A_write_integer : Addr} (f43 : HasFnA K "write_integer" s_write_integer A_write_integer)
    {A_write_value : Addr} (f44 : HasFnA K "write_value" s_write_value A_write_value)
    {A_write_values : Addr} (f45 : HasFnA K "_write_values" s_write_values A_write_values)
    {A_write_pairs : Addr} (f46 : HasFnA K "_write_pairs" s_write_pairs A_write_pairs)
    {A_write_named : Addr} (f47 : HasFnA K "_write_named" s_write_named A_write_named)
    {A_write_tree : Addr} (f48 : HasFnA K "write_tree" s_write_tree A_write_tree)
    {A_write_number_or_none : Addr} (f49 : HasFnA K "_write_number_or_none" s_write_number_or_none A_write_number_or_none)
    {A_write_signal : Addr} (f50 : HasFnA K "_write_signal" s_write_signal A_write_signal)
    (f51 : HasFn K "_written_fields" s_written_fields)
    (f52 : HasFn K "write_frame" s_write_frame)
    {A_write_frames : Addr} (f53 : HasFnA K "_write_frames" s_write_frames A_write_frames)
    (f54 : HasFn K "_written_fields" s_written_fields)
    (f55 : HasFn K "write_object" s_write_object)
    (f56 : HasFn K "write_control" s_write_control)
    (f57 : HasFn K "_held" s_held)
    (f58 : HasFn K "write_machine" s_write_machine)
    (f59 : HasFn K "_law_is_integer" s_law_is_integer)
    (f60 : HasFn K "_law_numbers" s_law_numbers)
    (f61 : HasFn K "_fields" s_fields)
    (f62 : HasFn K "_same_booleans" s_same_booleans)
    (f63 : HasFn K "same_run" s_same_run)
    (f64 : HasFn K "_law_same" s_law_same)
    (f65 : HasFn K "_law_machine_is" s_law_machine_is)
    (f66 : HasFn K "law" s_law)
    (c0 : HasInt K "FIRST_OBJECTS" 17)
    (c1 : HasInt K "BASE" 128)
    (c2 : HasInt K "MARK" 1)
    (c3 : HasInt K "MOST_NUMBERS" 1000000)
    (c4 : HasStr K "CHARACTERS" (fun z => z = LK.chStr))
    (b_len : PySem.W.nsIn K mainGlobals "len" = some none)
    (b_int : PySem.W.nsIn K mainGlobals "int" = some none)
    (b_range : PySem.W.nsIn K mainGlobals "range" = some none)
    (b_list : PySem.W.nsIn K mainGlobals "list" = some none)
    (b_tuple : PySem.W.nsIn K mainGlobals "tuple" = some none)
    (b_isinstance : PySem.W.nsIn K mainGlobals "isinstance" = some none)
    (b_bool : PySem.W.nsIn K mainGlobals "bool" = some none)
    (b_str : PySem.W.nsIn K mainGlobals "str" = some none)
    (b_abs : PySem.W.nsIn K mainGlobals "abs" = some none)
    (b_zip : PySem.W.nsIn K mainGlobals "zip" = some none)
    (b_enumerate : PySem.W.nsIn K mainGlobals "enumerate" = some none)
    (b_reversed : PySem.W.nsIn K mainGlobals "reversed" = some none)
    (b_min : PySem.W.nsIn K mainGlobals "min" = some none)
    (d_CONTROLS : HasDct l.prog w K "CONTROLS" (txtKV controlsL))
    (d_FIELDS : HasDct l.prog w K "FIELDS" (txtKV fieldsL))
    (d_OBJECTS : HasDct l.prog w K "OBJECTS" (txtKV objectsL))
    (d_WRITERS : HasDct l.prog w K "WRITERS" (fnKV [("v", A_write_value), ("V", A_write_values), ("W", A_write_pairs), ("X", A_write_named), ("t", A_write_tree), ("a", A_write_count), ("b", A_write_number_or_none), ("n", A_write_integer), ("x", A_write_string), ("s", A_write_signal), ("F", A_write_frames)]))
    (d_VALUE_NUMBERS : HasDct l.prog w K "VALUE_NUMBERS" (valKV [("none", V.int 0), ("int", V.int 3), ("text", V.int 4), ("span", V.int 5), ("built", V.int 6), ("host", V.int 7), ("ref", V.int 8)]))
    (d_SIGNAL_NUMBERS : HasDct l.prog w K "SIGNAL_NUMBERS" (valKV snum)) :
    ∃ fd : FuncData, (∀ (s : Shared) (v : Value), BindsTo s fd ⟨[v], []⟩ [("script", v)]) ∧ ∀ base : Heap, K.In base → base.Ns mainGlobals mg → FnG l.prog w K mg base CX0 15 fa fd ["script"] (spLaw K) := by
  have T : Txt K mg := ⟨c0.g X G, c1.g X G, c2.g X G, c3.g X G, (by obtain ⟨z, g, e⟩ := c4.g X G; subst e; exact g), PySem.W.mg_none_of X G b_len, PySem.W.mg_none_of X G b_int, PySem.W.mg_none_of X G b_range, PySem.W.mg_none_of X G b_list, PySem.W.mg_none_of X G b_tuple, PySem.W.mg_none_of X G b_isinstance, PySem.W.mg_none_of X G b_bool, PySem.W.mg_none_of X G b_str, PySem.W.mg_none_of X G b_abs, PySem.W.mg_none_of X G b_zip, PySem.W.mg_none_of X G b_enumerate, PySem.W.mg_none_of X G b_reversed, PySem.W.mg_none_of X G b_min⟩
  refine law_use f66 X G hfa (fun _ _ _ _ _ _ _ => rfl) fun base X' G' fd F => ?_
  have U_CONTROLS : UseD l.prog w K mg "CONTROLS" _ := d_CONTROLS.g X G
  have U_FIELDS : UseD l.prog w K mg "FIELDS" _ := d_FIELDS.g X G
  have U_OBJECTS : UseD l.prog w K mg "OBJECTS" _ := d_OBJECTS.g X G
  have U_WRITERS : UseD l.prog w K mg "WRITERS" _ := d_WRITERS.g X G
  have U_VALUE_NUMBERS : UseD l.prog w K mg "VALUE_NUMBERS" _ := d_VALUE_NUMBERS.g X G
  have U_SIGNAL_NUMBERS : UseD l.prog w K mg "SIGNAL_NUMBERS" _ := d_SIGNAL_NUMBERS.g X G
  have UC_Machine := k_Machine.g X G
  have U_law_cell := mk_use (P := l.prog) (w := w) (mg := mg) (base := base) f0 X G (fun _ _ _ _ _ _ us hl => match us, hl with | [_, _], _ => rfl) fun f fd F => ok_cell F T 
  have U_law_digits := mk_use (P := l.prog) (w := w) (mg := mg) (base := base) f1 X G (fun _ _ _ _ _ _ us hl => match us, hl with | [_, _, _], _ => rfl) fun f fd F => ok_digits F T U_law_cell
  have U_law_draw := mk_use (P := l.prog) (w := w) (mg := mg) (base := base) f2 X G (fun _ _ _ _ _ _ us hl => match us, hl with | [_, _], _ => rfl) fun f fd F => ok_draw F T 
  have U_law_number := mk_use (P := l.prog) (w := w) (mg := mg) (base := base) f3 X G (fun _ _ _ _ _ _ us hl => match us, hl with | [_], _ => rfl) fun f fd F => ok_number F T U_law_draw
  have U_law_signs := mk_use (P := l.prog) (w := w) (mg := mg) (base := base) f4 X G (fun _ _ _ _ _ _ us hl => match us, hl with | [], _ => rfl) fun f fd F => ok_signs F T 
  have U_law_text := mk_use (P := l.prog) (w := w) (mg := mg) (base := base) f5 X G (fun _ _ _ _ _ _ us hl => match us, hl with | [_, _], _ => rfl) fun f fd F => ok_text F T U_law_signs U_law_draw
  have U_law_name := mk_use (P := l.prog) (w := w) (mg := mg) (base := base) f6 X G (fun _ _ _ _ _ _ us hl => match us, hl with | [_], _ => rfl) fun f fd F => ok_name F T U_law_draw
  have U_law_value := mk_use (P := l.prog) (w := w) (mg := mg) (base := base) f7 X G (fun _ _ _ _ _ _ us hl => match us, hl with | [_, _], _ => rfl) fun f fd F => ok_value F T U_law_draw U_law_number U_law_text U_law_name
  have U_law_tree := mk_useR (P := l.prog) (w := w) (mg := mg) (base := base) (spTreeR K) 2 f8 X G (fun _ _ _ _ _ _ us hl => match us, hl with | [_, _], _ => rfl) (fun _ _ _ _ h => h) (fun n U_law_tree f fd F => ok_treeR F T U_law_tree U_law_draw U_law_text U_law_number U_law_name) 4
  have U_law_field0 := mk_use (P := l.prog) (w := w) (mg := mg) (base := base) f9 X G (fun _ _ _ _ _ _ us hl => match us, hl with | [_, _, _], _ => rfl) fun f fd F => ok_field0 F T U_law_draw U_law_value U_law_name U_law_number U_law_tree
  have U_law_shape_of0 := mk_use (P := l.prog) (w := w) (mg := mg) (base := base) f10 X G (fun _ _ _ _ _ _ us hl => match us, hl with | [_, _, _], _ => rfl) fun f fd F => ok_shapeof0 F T U_law_field0
  have U_law_shape := mk_use (P := l.prog) (w := w) (mg := mg) (base := base) f11 X G (fun _ _ _ _ _ _ us hl => match us, hl with | [_, _, _], _ => rfl) fun f fd F => ok_shape F T U_law_draw U_law_shape_of0
  have U_law_controls := mk_use (P := l.prog) (w := w) (mg := mg) (base := base) f12 X G (fun _ _ _ _ _ _ us hl => match us, hl with | [], _ => rfl) fun f fd F => ok_controls F T 
  have U_law_frames := mk_use (P := l.prog) (w := w) (mg := mg) (base := base) f13 X G (fun _ _ _ _ _ _ us hl => match us, hl with | [], _ => rfl) fun f fd F => ok_frames F T 
  have U_law_field := mk_use (P := l.prog) (w := w) (mg := mg) (base := base) f14 X G (fun _ _ _ _ _ _ us hl => match us, hl with | [_, _, _], _ => rfl) fun f fd F => ok_field F T U_law_draw U_law_value U_law_name U_law_number U_law_tree U_law_frames U_law_shape
  have U_law_objects := mk_use (P := l.prog) (w := w) (mg := mg) (base := base) f15 X G (fun _ _ _ _ _ _ us hl => match us, hl with | [], _ => rfl) fun f fd F => ok_objects F T 
  have U_law_shape_of := mk_use (P := l.prog) (w := w) (mg := mg) (base := base) f16 X G (fun _ _ _ _ _ _ us hl => match us, hl with | [_, _, _], _ => rfl) fun f fd F => ok_shapeof F T U_law_field
  have U_shape2 := mk_use (P := l.prog) (w := w) (mg := mg) (base := base) f17 X G (fun _ _ _ _ _ _ us hl => match us, hl with | [_, _, _], _ => rfl) fun f fd F => ok_shape2 F T U_law_draw U_law_shape_of
  have U_law_heap := mk_use (P := l.prog) (w := w) (mg := mg) (base := base) f18 X G (fun _ _ _ _ _ _ us hl => match us, hl with | [_, _], _ => rfl) fun f fd F => ok_heap F T U_law_field U_law_objects U_shape2
  have U_law_parts := mk_use (P := l.prog) (w := w) (mg := mg) (base := base) f19 X G (fun _ _ _ _ _ _ us hl => match us, hl with | [_], _ => rfl) fun f fd F => ok_parts F T U_law_draw U_law_shape U_law_controls U_law_frames U_law_heap U_law_text U_law_name
  have U_law_letters := mk_use (P := l.prog) (w := w) (mg := mg) (base := base) f20 X G (fun _ _ _ _ _ _ us hl => match us, hl with | [_, _], _ => rfl) fun f fd F => ok_letters F T 
  have U_law_turned_value := mk_use (P := l.prog) (w := w) (mg := mg) (base := base) f21 X G (fun _ _ _ _ _ _ us hl => match us, hl with | [_, _], _ => rfl) fun f fd F => ok_turnv F T 
  have U_turned0 := mk_use (P := l.prog) (w := w) (mg := mg) (base := base) f22 X G (fun _ _ _ _ _ _ us hl => match us, hl with | [_, _, _], _ => rfl) fun f fd F => ok_turned0 F T U_law_letters U_law_turned_value
  have U_law_turned := mk_use (P := l.prog) (w := w) (mg := mg) (base := base) f23 X G (fun _ _ _ _ _ _ us hl => match us, hl with | [_, _, _], _ => rfl) fun f fd F => ok_turned F T U_law_letters U_law_turned_value U_law_frames U_turned0
  have U_law_other := mk_use (P := l.prog) (w := w) (mg := mg) (base := base) f24 X G (fun _ _ _ _ _ _ us hl => match us, hl with | [_, _], _ => rfl) fun f fd F => ok_lother F T U_law_draw U_law_objects U_law_controls U_law_frames U_shape2 U_law_turned
  have U_Machine___init__ := mk_useK (P := l.prog) (w := w) (mg := mg) (base := base) k_Machine f25 X G (fun _ _ _ _ _ _ us hl => match us, hl with | [_, _, _, _, _, _, _, _, _], _ => rfl) fun f fd F => ok_minit F T UC_Machine
  have U_law_made := mk_use (P := l.prog) (w := w) (mg := mg) (base := base) f26 X G (fun _ _ _ _ _ _ us hl => match us, hl with | [_], _ => rfl) fun f fd F => ok_made F T UC_Machine U_Machine___init__
  have U_add_new := mk_use (P := l.prog) (w := w) (mg := mg) (base := base) f27 X G (fun _ _ _ _ _ _ us hl => match us, hl with | [_, _, _], _ => rfl) fun f fd F => ok_addnew F T 
  have U_values := mk_use (P := l.prog) (w := w) (mg := mg) (base := base) f28 X G (fun _ _ _ _ _ _ us hl => match us, hl with | [_, _], _ => rfl) fun f fd F => ok_values F T 
  have U_references0 := mk_use (P := l.prog) (w := w) (mg := mg) (base := base) f29 X G (fun _ _ _ _ _ _ us hl => match us, hl with | [_, _], _ => rfl) fun f fd F => ok_refs0 F T U_values
  have U_control_references := mk_use (P := l.prog) (w := w) (mg := mg) (base := base) f30 X G (fun _ _ _ _ _ _ us hl => match us, hl with | [_], _ => rfl) fun f fd F => ok_crefs F T U_CONTROLS U_references0
  have U_frame_references := mk_use (P := l.prog) (w := w) (mg := mg) (base := base) f31 X G (fun _ _ _ _ _ _ us hl => match us, hl with | [_], _ => rfl) fun f fd F => ok_frefs F T U_FIELDS U_references0
  have U_references := mk_use (P := l.prog) (w := w) (mg := mg) (base := base) f32 X G (fun _ _ _ _ _ _ us hl => match us, hl with | [_, _], _ => rfl) fun f fd F => ok_refs F T U_values U_frame_references
  have U_object_references := mk_use (P := l.prog) (w := w) (mg := mg) (base := base) f33 X G (fun _ _ _ _ _ _ us hl => match us, hl with | [_], _ => rfl) fun f fd F => ok_orefs F T U_OBJECTS U_references
  have U_reached := mk_use (P := l.prog) (w := w) (mg := mg) (base := base) f34 X G (fun _ _ _ _ _ _ us hl => match us, hl with | [_], _ => rfl) fun f fd F => ok_reached F T UC_Machine U_add_new U_control_references U_frame_references U_object_references
  have U_new_value := mk_use (P := l.prog) (w := w) (mg := mg) (base := base) f35 X G (fun _ _ _ _ _ _ us hl => match us, hl with | [_, _], _ => rfl) fun f fd F => ok_newv F T 
  have U_withN0 := mk_use (P := l.prog) (w := w) (mg := mg) (base := base) f36 X G (fun _ _ _ _ _ _ us hl => match us, hl with | [_, _, _], _ => rfl) fun f fd F => ok_withn0 F T U_new_value
  have U_renumd0 := mk_use (P := l.prog) (w := w) (mg := mg) (base := base) f37 X G (fun _ _ _ _ _ _ us hl => match us, hl with | [_, _, _], _ => rfl) fun f fd F => ok_renumd0 F T U_withN0
  have U_with_numbers := mk_use (P := l.prog) (w := w) (mg := mg) (base := base) f38 X G (fun _ _ _ _ _ _ us hl => match us, hl with | [_, _, _], _ => rfl) fun f fd F => ok_withn F T U_new_value U_renumd0 U_FIELDS
  have U_renumbered := mk_use (P := l.prog) (w := w) (mg := mg) (base := base) f39 X G (fun _ _ _ _ _ _ us hl => match us, hl with | [_, _, _], _ => rfl) fun f fd F => ok_renumd F T U_with_numbers
  have U_renumber := mk_use (P := l.prog) (w := w) (mg := mg) (base := base) f40 X G (fun _ _ _ _ _ _ us hl => match us, hl with | [_], _ => rfl) fun f fd F => ok_renumber F T UC_Machine U_Machine___init__ U_CONTROLS U_FIELDS U_OBJECTS U_reached U_renumbered
  have UA_write_count := mk_useA (P := l.prog) (w := w) (mg := mg) (base := base) f41 X G (fun _ _ _ _ _ _ us hl => match us, hl with | [_], _ => rfl) fun f fd F => ok_wcount F T 
  have U_write_count := UA_write_count.use
  have UA_write_string := mk_useA (P := l.prog) (w := w) (mg := mg) (base := base) f42 X G (fun _ _ _ _ _ _ us hl => match us, hl with | [_], _ => rfl) fun f fd F => ok_wstr F T U_write_count
  have U_write_string := UA_write_string.use
  have UA_write_integer := mk_useA (P := l.prog) (w := w) (mg := mg) (base := base) f43 X G (fun _ _ _ _ _ _ us hl => match us, hl with | [_], _ => rfl) fun f fd F => ok_wint F T U_write_count
  have U_write_integer := UA_write_integer.use
  have UA_write_value := mk_useA (P := l.prog) (w := w) (mg := mg) (base := base) f44 X G (fun _ _ _ _ _ _ us hl => match us, hl with | [_], _ => rfl) fun f fd F => ok_wvalue F T U_VALUE_NUMBERS U_write_string U_write_count U_write_integer
  have U_write_value := UA_write_value.use
  have UA_write_values := mk_useA (P := l.prog) (w := w) (mg := mg) (base := base) f45 X G (fun _ _ _ _ _ _ us hl => match us, hl with | [_], _ => rfl) fun f fd F => ok_wvalues F T U_write_count U_write_value
  have U_write_values := UA_write_values.use
  have UA_write_pairs := mk_useA (P := l.prog) (w := w) (mg := mg) (base := base) f46 X G (fun _ _ _ _ _ _ us hl => match us, hl with | [_], _ => rfl) fun f fd F => ok_wpairs F T U_write_count U_write_value
  have U_write_pairs := UA_write_pairs.use
  have UA_write_named := mk_useA (P := l.prog) (w := w) (mg := mg) (base := base) f47 X G (fun _ _ _ _ _ _ us hl => match us, hl with | [_], _ => rfl) fun f fd F => ok_wnamed F T U_write_count U_write_string U_write_value
  have U_write_named := UA_write_named.use
  have UA_write_tree := mk_useA (P := l.prog) (w := w) (mg := mg) (base := base) f48 X G (fun _ _ _ _ _ _ us hl => match us, hl with | [_], _ => rfl) fun f fd F => ok_wtree F T U_write_count U_write_string U_write_integer
  have U_write_tree := UA_write_tree.use
  have UA_write_number_or_none := mk_useA (P := l.prog) (w := w) (mg := mg) (base := base) f49 X G (fun _ _ _ _ _ _ us hl => match us, hl with | [_], _ => rfl) fun f fd F => ok_wnon F T U_write_count
  have U_write_number_or_none := UA_write_number_or_none.use
  have UA_write_signal := mk_useA (P := l.prog) (w := w) (mg := mg) (base := base) f50 X G (fun _ _ _ _ _ _ us hl => match us, hl with | [_], _ => rfl) fun f fd F => ok_wsig F T U_SIGNAL_NUMBERS U_write_value
  have U_write_signal := UA_write_signal.use
  have U_written_fields0 := mk_use (P := l.prog) (w := w) (mg := mg) (base := base) f51 X G (fun _ _ _ _ _ _ us hl => match us, hl with | [_, _], _ => rfl) fun f fd F => ok_wfields0 F T U_WRITERS UA_write_value UA_write_values UA_write_pairs UA_write_named UA_write_tree UA_write_count UA_write_number_or_none UA_write_integer UA_write_string UA_write_signal
  have U_write_frame := mk_use (P := l.prog) (w := w) (mg := mg) (base := base) f52 X G (fun _ _ _ _ _ _ us hl => match us, hl with | [_], _ => rfl) fun f fd F => ok_wframe F T U_FIELDS U_write_count U_written_fields0
  have UA_write_frames := mk_useA (P := l.prog) (w := w) (mg := mg) (base := base) f53 X G (fun _ _ _ _ _ _ us hl => match us, hl with | [_], _ => rfl) fun f fd F => ok_wframes F T U_write_count U_write_frame
  have U_write_frames := UA_write_frames.use
  have U_written_fields := mk_use (P := l.prog) (w := w) (mg := mg) (base := base) f54 X G (fun _ _ _ _ _ _ us hl => match us, hl with | [_, _], _ => rfl) fun f fd F => ok_wfields2 F T U_WRITERS UA_write_value UA_write_values UA_write_pairs UA_write_named UA_write_tree UA_write_count UA_write_number_or_none UA_write_integer UA_write_string UA_write_signal UA_write_frames
  have U_write_object := mk_use (P := l.prog) (w := w) (mg := mg) (base := base) f55 X G (fun _ _ _ _ _ _ us hl => match us, hl with | [_], _ => rfl) fun f fd F => ok_wobject F T U_OBJECTS U_write_count U_written_fields
  have U_write_control := mk_use (P := l.prog) (w := w) (mg := mg) (base := base) f56 X G (fun _ _ _ _ _ _ us hl => match us, hl with | [_], _ => rfl) fun f fd F => ok_wcontrol F T U_CONTROLS U_write_count U_written_fields0
  have U_held := mk_use (P := l.prog) (w := w) (mg := mg) (base := base) f57 X G (fun _ _ _ _ _ _ us hl => match us, hl with | [_, _, _], _ => rfl) fun f fd F => ok_held F T UC_Machine U_renumber U_write_count U_write_string U_write_object U_write_control U_write_frame
  have U_write_machine := mk_use (P := l.prog) (w := w) (mg := mg) (base := base) f58 X G (fun _ _ _ _ _ _ us hl => match us, hl with | [_, _], _ => rfl) fun f fd F => ok_wmachine F T U_held
  have U_law_is_integer := mk_use (P := l.prog) (w := w) (mg := mg) (base := base) f59 X G (fun _ _ _ _ _ _ us hl => match us, hl with | [_], _ => rfl) fun f fd F => ok_isint F T 
  have U_law_numbers := mk_use (P := l.prog) (w := w) (mg := mg) (base := base) f60 X G (fun _ _ _ _ _ _ us hl => match us, hl with | [_], _ => rfl) fun f fd F => ok_lnumbers F T U_law_is_integer
  have U_fields := mk_use (P := l.prog) (w := w) (mg := mg) (base := base) f61 X G (fun _ _ _ _ _ _ us hl => match us, hl with | [_], _ => rfl) fun f fd F => ok_fields F T UC_Machine
  have U_same_booleans := mk_use (P := l.prog) (w := w) (mg := mg) (base := base) f62 X G (fun _ _ _ _ _ _ us hl => match us, hl with | [_, _], _ => rfl) fun f fd F => ok_sameb F T 
  have U_same_run := mk_use (P := l.prog) (w := w) (mg := mg) (base := base) f63 X G (fun _ _ _ _ _ _ us hl => match us, hl with | [_, _], _ => rfl) fun f fd F => ok_samerun F T U_renumber U_fields U_same_booleans
  have U_law_same := mk_useR (P := l.prog) (w := w) (mg := mg) (base := base) (spSameR K) 1 f64 X G (fun _ _ _ _ _ _ us hl => match us, hl with | [_, _], _ => rfl) (fun _ _ _ _ h => h) (fun n U_law_same f fd F => ok_sameR F T U_law_same U_law_is_integer) 8
  have U_law_machine_is := mk_use (P := l.prog) (w := w) (mg := mg) (base := base) f65 X G (fun _ _ _ _ _ _ us hl => match us, hl with | [_, _], _ => rfl) fun f fd F => ok_mis F T UC_Machine U_law_same
  exact ok_law F T UC_Machine U_law_digits U_law_draw U_law_parts U_law_other U_law_made U_write_machine U_law_numbers U_same_run U_law_machine_is
end K82
open PySem PySem.W PyProof.Rows
set_option maxRecDepth 100000 in
set_option maxHeartbeats 0 in
theorem PySem.Challenge.cw_pyhold_k82_hides_numbers_holds : PySem.Challenge.rw_pyhold_k82_hides_numbers.Holds := by
  w_on; o_law; k_head; (case hw => w_witness2)
  k_fill
  refine LK.walkG (l := PySem.Challenge.rw_pyhold_k82_hides_numbers) (n := 63) (k := 15) (x := "script") (CX := L2.CX0) (sp := K82.spLaw) rfl (by decide) rfl ⟨rfl, by decide, by decide⟩ (fun w h Y => PySem.W.kIn_of Y) ?F (fun K H a ns hl _ hS => ⟨a, ns, rfl, hS, hl, fun _ => rfl⟩) (fun _ _ _ _ z => z)
  case F =>
    intro w mg fa h KX G hmg
    refine' K82.walk_mk KX G hmg ?k_Machine ?f0 ?f1 ?f2 ?f3 ?f4 ?f5 ?f6 ?f7 ?f8 ?f9 ?f10 ?f11 ?f12 ?f13 ?f14 ?f15 ?f16 ?f17 ?f18 ?f19 ?f20 ?f21 ?f22 ?f23 ?f24 ?f25 ?f26 ?f27 ?f28 ?f29 ?f30 ?f31 ?f32 ?f33 ?f34 ?f35 ?f36 ?f37 ?f38 ?f39 ?f40 ?f41 ?f42 ?f43 ?f44 ?f45 ?f46 ?f47 ?f48 ?f49 ?f50 ?f51 ?f52 ?f53 ?f54 ?f55 ?f56 ?f57 ?f58 ?f59 ?f60 ?f61 ?f62 ?f63 ?f64 ?f65 ?f66 ?c0 ?c1 ?c2 ?c3 ?c4 ?b_len ?b_int ?b_range ?b_list ?b_tuple ?b_isinstance ?b_bool ?b_str ?b_abs ?b_zip ?b_enumerate ?b_reversed ?b_min ?d_CONTROLS ?d_FIELDS ?d_OBJECTS ?d_WRITERS ?d_VALUE_NUMBERS ?d_SIGNAL_NUMBERS
    case k_Machine => refine' LK.ClsK.mk' ?a ?b ?c ?d ?e ?f ?g ?h; (case a => k_is); (case b => k_is); (case c => k_is); (case d => k_is); (case e => k_is); (case f => k_is); (case g => k_is); (case h => repeat (first | exact .nil | refine LK.NoAll.cons (by k_is) ?_))
    case f0 => refine' LK.HasFn.mk' ?a ?b ?c ?d; (case a => k_is); (case b => k_is); (case c => k_is); (case d => k_is)
    case f1 => refine' LK.HasFn.mk' ?a ?b ?c ?d; (case a => k_is); (case b => k_is); (case c => k_is); (case d => k_is)
    case f2 => refine' LK.HasFn.mk' ?a ?b ?c ?d; (case a => k_is); (case b => k_is); (case c => k_is); (case d => k_is)
    case f3 => refine' LK.HasFn.mk' ?a ?b ?c ?d; (case a => k_is); (case b => k_is); (case c => k_is); (case d => k_is)
    case f4 => refine' LK.HasFn.mk' ?a ?b ?c ?d; (case a => k_is); (case b => k_is); (case c => k_is); (case d => k_is)
    case f5 => refine' LK.HasFn.mk' ?a ?b ?c ?d; (case a => k_is); (case b => k_is); (case c => k_is); (case d => k_is)
    case f6 => refine' LK.HasFn.mk' ?a ?b ?c ?d; (case a => k_is); (case b => k_is); (case c => k_is); (case d => k_is)
    case f7 => refine' LK.HasFn.mk' ?a ?b ?c ?d; (case a => k_is); (case b => k_is); (case c => k_is); (case d => k_is)
    case f8 => refine' LK.HasFn.mk' ?a ?b ?c ?d; (case a => k_is); (case b => k_is); (case c => k_is); (case d => k_is)
    case f9 => refine' LK.HasFn.mk' ?a ?b ?c ?d; (case a => k_is); (case b => k_is); (case c => k_is); (case d => k_is)
    case f10 => refine' LK.HasFn.mk' ?a ?b ?c ?d; (case a => k_is); (case b => k_is); (case c => k_is); (case d => k_is)
    case f11 => refine' LK.HasFn.mk' ?a ?b ?c ?d; (case a => k_is); (case b => k_is); (case c => k_is); (case d => k_is)
    case f12 => refine' LK.HasFn.mk' ?a ?b ?c ?d; (case a => k_is); (case b => k_is); (case c => k_is); (case d => k_is)
    case f13 => refine' LK.HasFn.mk' ?a ?b ?c ?d; (case a => k_is); (case b => k_is); (case c => k_is); (case d => k_is)
    case f14 => refine' LK.HasFn.mk' ?a ?b ?c ?d; (case a => k_is); (case b => k_is); (case c => k_is); (case d => k_is)
    case f15 => refine' LK.HasFn.mk' ?a ?b ?c ?d; (case a => k_is); (case b => k_is); (case c => k_is); (case d => k_is)
    case f16 => refine' LK.HasFn.mk' ?a ?b ?c ?d; (case a => k_is); (case b => k_is); (case c => k_is); (case d => k_is)
    case f17 => refine' LK.HasFn.mk' ?a ?b ?c ?d; (case a => k_is); (case b => k_is); (case c => k_is); (case d => k_is)
    case f18 => refine' LK.HasFn.mk' ?a ?b ?c ?d; (case a => k_is); (case b => k_is); (case c => k_is); (case d => k_is)
    case f19 => refine' LK.HasFn.mk' ?a ?b ?c ?d; (case a => k_is); (case b => k_is); (case c => k_is); (case d => k_is)
    case f20 => refine' LK.HasFn.mk' ?a ?b ?c ?d; (case a => k_is); (case b => k_is); (case c => k_is); (case d => k_is)
    case f21 => refine' LK.HasFn.mk' ?a ?b ?c ?d; (case a => k_is); (case b => k_is); (case c => k_is); (case d => k_is)
    case f22 => refine' LK.HasFn.mk' ?a ?b ?c ?d; (case a => k_is); (case b => k_is); (case c => k_is); (case d => k_is)
    case f23 => refine' LK.HasFn.mk' ?a ?b ?c ?d; (case a => k_is); (case b => k_is); (case c => k_is); (case d => k_is)
    case f24 => refine' LK.HasFn.mk' ?a ?b ?c ?d; (case a => k_is); (case b => k_is); (case c => k_is); (case d => k_is)
    case f25 => refine' LK.HasMeth.mk' ?a ?b ?c ?d ?e; (case a => k_is); (case b => k_is); (case c => k_is); (case d => k_is); (case e => k_is)
    case f26 => refine' LK.HasFn.mk' ?a ?b ?c ?d; (case a => k_is); (case b => k_is); (case c => k_is); (case d => k_is)
    case f27 => refine' LK.HasFn.mk' ?a ?b ?c ?d; (case a => k_is); (case b => k_is); (case c => k_is); (case d => k_is)
    case f28 => refine' LK.HasFn.mk' ?a ?b ?c ?d; (case a => k_is); (case b => k_is); (case c => k_is); (case d => k_is)
    case f29 => refine' LK.HasFn.mk' ?a ?b ?c ?d; (case a => k_is); (case b => k_is); (case c => k_is); (case d => k_is)
    case f30 => refine' LK.HasFn.mk' ?a ?b ?c ?d; (case a => k_is); (case b => k_is); (case c => k_is); (case d => k_is)
    case f31 => refine' LK.HasFn.mk' ?a ?b ?c ?d; (case a => k_is); (case b => k_is); (case c => k_is); (case d => k_is)
    case f32 => refine' LK.HasFn.mk' ?a ?b ?c ?d; (case a => k_is); (case b => k_is); (case c => k_is); (case d => k_is)
    case f33 => refine' LK.HasFn.mk' ?a ?b ?c ?d; (case a => k_is); (case b => k_is); (case c => k_is); (case d => k_is)
    case f34 => refine' LK.HasFn.mk' ?a ?b ?c ?d; (case a => k_is); (case b => k_is); (case c => k_is); (case d => k_is)
    case f35 => refine' LK.HasFn.mk' ?a ?b ?c ?d; (case a => k_is); (case b => k_is); (case c => k_is); (case d => k_is)
    case f36 => refine' LK.HasFn.mk' ?a ?b ?c ?d; (case a => k_is); (case b => k_is); (case c => k_is); (case d => k_is)
    case f37 => refine' LK.HasFn.mk' ?a ?b ?c ?d; (case a => k_is); (case b => k_is); (case c => k_is); (case d => k_is)
    case f38 => refine' LK.HasFn.mk' ?a ?b ?c ?d; (case a => k_is); (case b => k_is); (case c => k_is); (case d => k_is)
    case f39 => refine' LK.HasFn.mk' ?a ?b ?c ?d; (case a => k_is); (case b => k_is); (case c => k_is); (case d => k_is)
    case f40 => refine' LK.HasFn.mk' ?a ?b ?c ?d; (case a => k_is); (case b => k_is); (case c => k_is); (case d => k_is)
    case f41 => refine' LK.HasFnA.mk' ?a ?b ?c ?d; (case a => k_is); (case b => k_is); (case c => k_is); (case d => k_is)
    case f42 => refine' LK.HasFnA.mk' ?a ?b ?c ?d; (case a => k_is); (case b => k_is); (case c => k_is); (case d => k_is)
    case f43 => refine' LK.HasFnA.mk' ?a ?b ?c ?d; (case a => k_is); (case b => k_is); (case c => k_is); (case d => k_is)
    case f44 => refine' LK.HasFnA.mk' ?a ?b ?c ?d; (case a => k_is); (case b => k_is); (case c => k_is); (case d => k_is)
    case f45 => refine' LK.HasFnA.mk' ?a ?b ?c ?d; (case a => k_is); (case b => k_is); (case c => k_is); (case d => k_is)
    case f46 => refine' LK.HasFnA.mk' ?a ?b ?c ?d; (case a => k_is); (case b => k_is); (case c => k_is); (case d => k_is)
    case f47 => refine' LK.HasFnA.mk' ?a ?b ?c ?d; (case a => k_is); (case b => k_is); (case c => k_is); (case d => k_is)
    case f48 => refine' LK.HasFnA.mk' ?a ?b ?c ?d; (case a => k_is); (case b => k_is); (case c => k_is); (case d => k_is)
    case f49 => refine' LK.HasFnA.mk' ?a ?b ?c ?d; (case a => k_is); (case b => k_is); (case c => k_is); (case d => k_is)
    case f50 => refine' LK.HasFnA.mk' ?a ?b ?c ?d; (case a => k_is); (case b => k_is); (case c => k_is); (case d => k_is)
    case f51 => refine' LK.HasFn.mk' ?a ?b ?c ?d; (case a => k_is); (case b => k_is); (case c => k_is); (case d => k_is)
    case f52 => refine' LK.HasFn.mk' ?a ?b ?c ?d; (case a => k_is); (case b => k_is); (case c => k_is); (case d => k_is)
    case f53 => refine' LK.HasFnA.mk' ?a ?b ?c ?d; (case a => k_is); (case b => k_is); (case c => k_is); (case d => k_is)
    case f54 => refine' LK.HasFn.mk' ?a ?b ?c ?d; (case a => k_is); (case b => k_is); (case c => k_is); (case d => k_is)
    case f55 => refine' LK.HasFn.mk' ?a ?b ?c ?d; (case a => k_is); (case b => k_is); (case c => k_is); (case d => k_is)
    case f56 => refine' LK.HasFn.mk' ?a ?b ?c ?d; (case a => k_is); (case b => k_is); (case c => k_is); (case d => k_is)
    case f57 => refine' LK.HasFn.mk' ?a ?b ?c ?d; (case a => k_is); (case b => k_is); (case c => k_is); (case d => k_is)
    case f58 => refine' LK.HasFn.mk' ?a ?b ?c ?d; (case a => k_is); (case b => k_is); (case c => k_is); (case d => k_is)
    case f59 => refine' LK.HasFn.mk' ?a ?b ?c ?d; (case a => k_is); (case b => k_is); (case c => k_is); (case d => k_is)
    case f60 => refine' LK.HasFn.mk' ?a ?b ?c ?d; (case a => k_is); (case b => k_is); (case c => k_is); (case d => k_is)
    case f61 => refine' LK.HasFn.mk' ?a ?b ?c ?d; (case a => k_is); (case b => k_is); (case c => k_is); (case d => k_is)
    case f62 => refine' LK.HasFn.mk' ?a ?b ?c ?d; (case a => k_is); (case b => k_is); (case c => k_is); (case d => k_is)
    case f63 => refine' LK.HasFn.mk' ?a ?b ?c ?d; (case a => k_is); (case b => k_is); (case c => k_is); (case d => k_is)
    case f64 => refine' LK.HasFn.mk' ?a ?b ?c ?d; (case a => k_is); (case b => k_is); (case c => k_is); (case d => k_is)
    case f65 => refine' LK.HasFn.mk' ?a ?b ?c ?d; (case a => k_is); (case b => k_is); (case c => k_is); (case d => k_is)
    case f66 => refine' LK.HasFn.mk' ?a ?b ?c ?d; (case a => k_is); (case b => k_is); (case c => k_is); (case d => k_is)
    case c0 => refine' LK.HasInt.mk' ?a ?b; (case a => k_is); (case b => decide +kernel)
    case c1 => refine' LK.HasInt.mk' ?a ?b; (case a => k_is); (case b => decide +kernel)
    case c2 => refine' LK.HasInt.mk' ?a ?b; (case a => k_is); (case b => decide +kernel)
    case c3 => refine' LK.HasInt.mk' ?a ?b; (case a => k_is); (case b => decide +kernel)
    case c4 => refine' LK.HasStr.mk' ?a ?b; (case a => k_is); (case b => decide +kernel)
    case b_len => k_is
    case b_int => k_is
    case b_range => k_is
    case b_list => k_is
    case b_tuple => k_is
    case b_isinstance => k_is
    case b_bool => k_is
    case b_str => k_is
    case b_abs => k_is
    case b_zip => k_is
    case b_enumerate => k_is
    case b_reversed => k_is
    case b_min => k_is
    case d_CONTROLS => refine' LK.HasDct.mk' ?a ?b ?c ?d ?e; (case a => k_is); (case b => k_is); (case c => rfl); (case d => repeat (first | exact .nil | refine .cons rfl rfl rfl ?_)); (case e => decide +kernel)
    case d_FIELDS => refine' LK.HasDct.mk' ?a ?b ?c ?d ?e; (case a => k_is); (case b => k_is); (case c => rfl); (case d => repeat (first | exact .nil | refine .cons rfl rfl rfl ?_)); (case e => decide +kernel)
    case d_OBJECTS => refine' LK.HasDct.mk' ?a ?b ?c ?d ?e; (case a => k_is); (case b => k_is); (case c => rfl); (case d => repeat (first | exact .nil | refine .cons rfl rfl rfl ?_)); (case e => decide +kernel)
    case d_WRITERS => refine' LK.HasDct.mkF ?a ?b ?c ?d ?e; (case a => k_is); (case b => k_is); (case c => rfl); (case d => repeat (first | exact .nil | refine .cons rfl rfl rfl ?_)); (case e => decide +kernel)
    case d_VALUE_NUMBERS => refine' LK.HasDct.mkV ?a ?b ?c ?d ?e; (case a => k_is); (case b => k_is); (case c => rfl); (case d => repeat (first | exact .nil | refine .cons rfl rfl ⟨_, rfl⟩ ?_)); (case e => decide +kernel)
    case d_SIGNAL_NUMBERS => refine' LK.HasDct.mkV ?a ?b ?c ?d ?e; (case a => k_is); (case b => k_is); (case c => rfl); (case d => repeat (first | exact .nil | refine .cons rfl rfl ⟨_, rfl⟩ ?_)); (case e => decide +kernel)


