import PyProof.Rows.All
import Wide.All
import OpenK.AllK
import Wide.FinOn
import HandS.ForMost
import HandS.Wide
import HandS.WideMore
import HandS.TupAny
import HandS.TupLen
import HandS.Evl
import HandS.Codes
import PyProof.ReprLen
import PyProof.StrLawsRepr
import HandS.Walk
import HandS.Zip
import KE.GoesMore
import HandS.Style
import HandS.TupMul
import PyProof.StrOps2
import HandS.IsInst
import HandS.StrMore
import HandS.Dict
import HandS.Text
import HandS.Replace
import PyProof.Rows.RuleB_pow
import HandS.DictComp
import HandS.MapJoin
import KE.GoesZip
import KE.KWords
import HandS.Conv
import PySem.Challenge.RW_pyhold_k81_live_size
set_option Elab.async false
set_option linter.all false
set_option maxRecDepth 100000
set_option maxHeartbeats 4000000
/-! A layer of one's own over the hand layer: defs by name, data, the helpers that the laws share. -/
namespace LK
open PySem PySem.Spec PyProof.Rows L2

/-! ### a def's promise where nothing is being shown (repr asks who is) -/
structure FnG (P : Program) (w : World) (K : PySem.W.Frag) (mg : Str → Option Value) (base : Heap) (CX : CXT) (k : Nat) (f : Addr) (fd : FuncData) (ps : List Str) (sp : Sp) : Prop where
  len : ∀ vs H Q E, sp vs H Q E → vs.length = ps.length
  run : ∀ (A : Around) (outer : List Env) (s : Shared) (H : Hp) (args : Args) (us : List Value) (vs : List V) (Q : VK) (E : XK), Room k A → A.guards = some [] →
    Env0 P w K mg base A outer s H → BindsTo s fd args (ps.zip us) → Vals vs us → sp vs H Q E → codeAny (model P w) A (.call (.ref f) args) (CR CX outer P w H s Q E) s
section
variable {P : Program} {w : World} {K : PySem.W.Frag} {mg : Str → Option Value} {base : Heap} {CX : CXT}
theorem FnG.imp {k : Nat} {f : Addr} {fd : FuncData} {ps : List Str} {sp sp' : Sp} (F : FnG P w K mg base CX k f fd ps sp) (h : ∀ vs H Q E, sp' vs H Q E → sp vs H Q E) : FnG P w K mg base CX k f fd ps sp' where
  len := fun vs H Q E q => F.len vs H Q E (h vs H Q E q)
  run := fun A outer s H args us vs Q E hr hg he hb hv hs => F.run A outer s H args us vs Q E hr hg he hb hv (h vs H Q E hs)
/-- the rule for a def: its body as a term of rules, and the reading of that term -/
theorem okG {x qual : Str} {st : Stmt} {f : Addr} {fd : FuncData} {N ps : List Str} {k : Nat} {sp : Sp} (F : Fun K x qual st f fd) (S : FnScope N ps (defScope st)) (len : ∀ vs H Q E, sp vs H Q E → vs.length = ps.length)
    (body : ∀ (cdv : Value) (A : Around) (outer : List Env) (s : Shared) (H : Hp) (vs : List V) (Q : VK) (E : XK), Room k (A.deeper (envOfC qual (defScope st) s.heap.objs.size f cdv)) →
      (A.deeper (envOfC qual (defScope st) s.heap.objs.size f cdv)).guards = some [] → sp vs H Q E →
      ∃ t, PSs (cxOf CX P w K mg base N qual (defScope st) f cdv A outer s H E) (defBody st) t ∧ t { nx := fun _ H' => Q .non H', rt := Q } (start N vs) H) :
    FnG P w K mg base CX (k + 1) f fd ps sp := by
  obtain ⟨oc, od, kV, doc, pm, an, cdv, ct, osl, rfl, lk, hcd⟩ := F.ex
  refine ⟨len, fun A outer s H args us vs Q E hr hgd e0 hb r hsp => ?_⟩
  have inn : K.In s.heap := e0.mod.kin.keeps fun b o e => (e0.bs b o e).1
  refine codeAny_call_function hr.depth (inn _ _ lk) rfl S.co S.gen rfl (PySem.W.codeRec_of inn hcd) (hb _ _ _ _ ?_)
  refine wpAny_newFunctionEnv_cells S.kind (fun y hy => ?_) fun env he s1 made => ?_
  · obtain ⟨n, v⟩ := y
    exact (S.par n (List.of_mem_zip hy).1).elim .inl fun q => .inr ⟨q, PySem.W.cellsFrom_some _ _ _ (.inl q)⟩
  · subst he
    have lim : s.heap.NoLimit := e0.mod.nolimit.keeps fun b o e => (e0.bs b o e).1
    refine ⟨lim.keeps made.toInCall.keep, codeAny_func ?_⟩
    obtain ⟨t, ht, hq⟩ := body cdv A outer s H vs Q E (hr.deeper _) hgd hsp
    refine wpAny_mono (ht.run [] s1 (start N vs) H _ (inv_start S hr.hd e0 (len _ _ _ _ hsp) r made) hq) (fun fl s' hs => ?_) fun e s' hs => hs
    cases fl with
    | ret u => exact let ⟨v, _, H', J, rv, q⟩ := hs; ⟨v, H', J.os, J.bare, J.base, J.hok, rv, q⟩
    | next => exact let ⟨_, H', J, q⟩ := hs; ⟨V.non, H', J.os, J.bare, J.base, J.hok, rfl, q⟩
    | brk => exact let ⟨_, _, _, q⟩ := hs; q.elim
    | cont => exact let ⟨_, _, _, q⟩ := hs; q.elim
/-- .. whose body lets no exception out -/
theorem okG0 {x qual : Str} {st : Stmt} {f : Addr} {fd : FuncData} {N ps : List Str} {k : Nat} {sp : Sp} (F : Fun K x qual st f fd) (S : FnScope N ps (defScope st)) (len : ∀ vs H Q E, sp vs H Q E → vs.length = ps.length)
    (body : ∀ (cdv : Value) (A : Around) (outer : List Env) (s : Shared) (H : Hp) (vs : List V) (Q : VK) (E : XK), Room k (A.deeper (envOfC qual (defScope st) s.heap.objs.size f cdv)) →
      (A.deeper (envOfC qual (defScope st) s.heap.objs.size f cdv)).guards = some [] → sp vs H Q E →
      ∃ t, PSs (cxOf CX0 P w K mg base N qual (defScope st) f cdv A outer s H E).nox (defBody st) t ∧ t { nx := fun _ H' => Q .non H', rt := Q } (start N vs) H) :
    FnG P w K mg base CX0 (k + 1) f fd ps sp :=
  okG F S len fun cdv A outer s H vs Q E hr hg hs => let ⟨t, ht, q⟩ := body cdv A outer s H vs Q E hr hg hs; ⟨t, ht.nox, q⟩
end
section
variable {X : Cx} {CX : CXT} {k : Nat} {f : Addr} {fd : FuncData} {ps : List Str} {sp : Sp} {E : XK} {x : Str} {p pos : Pos} {e : Expr} {es : List Expr} {t : TA}
theorem run_fnG {pins : List (Addr × Obj)} {σ : L2.St} {H : Hp} {s : Shared} {Q : VK} {us : List Value} {vs : List V} (F : FnG X.prog X.w X.K X.mg X.base CX k f fd ps sp) (hr : Room k X.A) (hg : X.A.guards = some []) (hb : Binds X.K fd ps [])
    (hx : Passes CX X E) (I : Inv X pins σ H s) (r : Vals vs us) (h : sp vs H Q E) : wpAny (model X.prog X.w) X.A (call (.ref f) us) (EP X pins σ Q) X.xe s := by
  have hl : (us ++ []).length = ps.length := by rw [List.append_nil, ← r.length, F.len _ _ _ _ h]
  have hbs := hb s us I.kIn hl
  rw [List.append_nil] at hbs
  refine wpAny_call (codeAny_mono (F.run X.A X.stack s H ⟨us, []⟩ us vs Q E hr hg I.env0 hbs r h) fun res s' hq => ?_)
  match res, hq with
  | .error e, hq => exact hx pins σ H s e s' I hq
  | .ok (.ret u), hq => exact I.after hq
  | .ok .next, hq => exact hq.elim
  | .ok .brk, hq => exact hq.elim
  | .ok .cont, hq => exact hq.elim
end

/-! ### defs of the text, by name -/
/-- what the top has left of the def x, whose statement is st -/
def HasFn (K : PySem.W.Frag) (x : Str) (st : Stmt) : Prop := ∃ (f : Addr) (oc : Value) (od an : Option Addr) (kV doc pm cdv ct : Value) (osl : Array (Option Value)),
  PySem.W.nsIn K mainGlobals x = some (some (.ref f)) ∧ K.lookup f = some ⟨oc, od, .func (PySem.W.fnOf x x (defArgs st) (defBody st) (defScope st) .none kV doc pm an cdv ct), osl⟩ ∧
  PySem.W.codeIn K cdv x = true ∧ PySem.W.keepIn K (.ref f) = true
/-- the def x may be called: its promise sp, by level k -/
structure Use (P : Program) (w : World) (K : PySem.W.Frag) (mg : Str → Option Value) (base : Heap) (CX : CXT) (x : Str) (k : Nat) (ps : List Str) (sp : Sp) : Prop where
  ex : ∃ (f : Addr) (fd : FuncData), FnG P w K mg base CX k f fd ps sp ∧ mg x = some (.ref f) ∧ PySem.W.keepIn K (.ref f) = true ∧ Binds K fd ps []
section
variable {P : Program} {w : World} {K : PySem.W.Frag} {mg : Str → Option Value} {base h : Heap} {CX : CXT}
theorem mk_use {x : Str} {st : Stmt} {k : Nat} {ps : List Str} {sp : Sp} (F : HasFn K x st) (X : K.In h) (G : h.Ns mainGlobals mg)
    (hb : ∀ (kV doc pm : Value) (an : Option Addr) (cdv ct : Value) (us : List Value), us.length = ps.length → bindArgs (PySem.W.fnOf x x (defArgs st) (defBody st) (defScope st) .none kV doc pm an cdv ct) ⟨us, []⟩ = pure (ps.zip us))
    (ok : ∀ (f : Addr) (fd : FuncData), Fun K x x st f fd → FnG P w K mg base CX k f fd ps sp) : Use P w K mg base CX x k ps sp := by
  obtain ⟨f, oc, od, an, kV, doc, pm, cdv, ct, osl, e, l, c, kp⟩ := F
  have Fn := fun_mk (st := st) l c kp
  exact ⟨f, _, ok f _ Fn, PySem.W.mg_of X G e, kp, Fn.binds hb⟩
theorem Use.imp {x : Str} {k : Nat} {ps : List Str} {sp sp' : Sp} (U : Use P w K mg base CX x k ps sp) (h : ∀ vs H Q E, sp' vs H Q E → sp vs H Q E) : Use P w K mg base CX x k ps sp' := by
  obtain ⟨f, fd, ok, r⟩ := U.ex
  exact ⟨f, fd, ok.imp h, r⟩
end
section
variable {X : Cx} {CX : CXT} {E : XK} {k : Nat} {x : Str} {ps : List Str} {sp : Sp} {p pos : Pos} {e : Expr} {es : List Expr} {t : TA}
theorem pe_useX (U : Use X.prog X.w X.K X.mg X.base CX x k ps sp) (hx : Passes CX X E) (hr : Room k X.A) (gd : X.A.guards = some []) (hg : Gl X x) (ha : PA X (e :: es) t) (hdb : (x == ("__debug__" : Str)) = false := by decide)
    (he : starEach (e :: es) X.env = (false, eval e X.env) :: starEach es X.env := by rfl) (hpl : (backTo pos (starEach es X.env)).any (·.1) = false := by rfl) : PE X (.Call (.Name x p) (e :: es) [] pos) (fun σ H Q => t σ H fun vs H1 => sp vs H1 Q E) := by
  obtain ⟨f, fd, ok, hm, kp, hb⟩ := U.ex
  refine ⟨fun pins s σ H Q I h => wpAny_Call_Name_kw (ld_glob I hg hm ?_ hdb)⟩
  exact PySem.W.callWith_K (h₀ := X.base) I.ok.mod.kin kp (thn (ha.run pos pins s σ H _ I h) fun us s1 ⟨vs, H1, I1, r, q⟩ => ⟨I1.kIn, run_fnG ok hr gd hb hx I1 r q⟩) he hpl
def tUse (sp : Sp) (E : XK) (t : TA) : TE := fun σ H Q => t σ H fun vs H1 => sp vs H1 Q E
theorem pe_use (U : Use X.prog X.w X.K X.mg X.base CX0 x k ps sp) (hr : Room k X.A) (gd : X.A.guards = some []) (hg : Gl X x) (ha : PA X (e :: es) t) (hdb : (x == ("__debug__" : Str)) = false := by decide)
    (he : starEach (e :: es) X.env = (false, eval e X.env) :: starEach es X.env := by rfl) (hpl : (backTo pos (starEach es X.env)).any (·.1) = false := by rfl) : PE X (.Call (.Name x p) (e :: es) [] pos) (tUse sp E0 t) := pe_useX U pass0 hr gd hg ha hdb he hpl
theorem pe_use0 (U : Use X.prog X.w X.K X.mg X.base CX0 x k ps sp) (hr : Room k X.A) (gd : X.A.guards = some []) (hg : Gl X x) (hdb : (x == ("__debug__" : Str)) = false := by decide) : PE X (.Call (.Name x p) [] [] pos) (tUse sp E0 tNil) := by
  obtain ⟨f, fd, ok, hm, kp, hb⟩ := U.ex
  exact ⟨fun pins s σ H Q I h => wpAny_Call_Name_kw (ld_glob I hg hm (PySem.W.callWith_K0 I.kIn kp (run_fnG (us := []) ok hr gd hb pass0 I .nil h)) hdb)⟩
end

/-! ### what stays -/
theorem Same.new {H : Hp} {p : Addr} {o : HO} (h : H p = none) : Same H (upd H p o) := fun b u e => by
  rw [upd_ne (ne_of_none e h)]; exact e
theorem Same.rd {H H' : Hp} {a : Addr} {u : HO} (e : Same H H') (h : Rd H a u) : Rd H' a u := by
  rcases h with h | ⟨o, h⟩
  · exact .inl (e _ _ h)
  · exact .inr ⟨o, e _ _ h⟩
theorem Same.tupl {K : PySem.W.Frag} {H H' : Hp} {a : Addr} {xs : List V} (e : Same H H') (h : SqT K H a xs) : SqT K H' a xs := by
  rcases h with h | h
  · exact .inl (Same.rd e h)
  · exact .inr h
theorem SqT.mono {K : PySem.W.Frag} {H H' : Hp} {a : Addr} {xs : List V} (h : SqT K H a xs) (e : Same H H') : SqT K H' a xs := Same.tupl e h
theorem SqL.mono {K : PySem.W.Frag} {H H' : Hp} {a : Addr} {xs : List V} (h : SqL K H a xs) (e : Same H H') : SqL K H' a xs := e.seq h

/-! ### data: none, bools, ints, texts, tuples (and lists that stand still) -/
mutual
theorem Dp.mono {K : PySem.W.Frag} {H H' : Hp} (e : Same H H') : ∀ {v : V} {d : PyData}, Dp K H v d → Dp K H' v d
  | _, _, .non => .non
  | _, _, .bl b => .bl b
  | _, _, .int i => .int i
  | _, _, .str x => .str x
  | _, _, .lst h a => .lst (e.seq h) (DpAll.mono e a)
  | _, _, .tup h a => .tup (Same.tupl e h) (DpAll.mono e a)
theorem DpAll.mono {K : PySem.W.Frag} {H H' : Hp} (e : Same H H') : ∀ {vs : List V} {ds : List PyData}, DpAll K H vs ds → DpAll K H' vs ds
  | _, _, .nil => .nil
  | _, _, .cons h a => .cons (Dp.mono e h) (DpAll.mono e a)
end
/-- a tuple just made -/
theorem Dp.made {K : PySem.W.Frag} {H : Hp} {p : Addr} {xs : List V} {ds : List PyData} (hp : H p = none) (h : DpAll K H xs ds) : Dp K (upd H p (.tup xs)) (.ref p) (.tuple ds) :=
  .tup (SqT.of upd_same) (DpAll.mono (Same.new hp) h)
theorem DpAll.length {K : PySem.W.Frag} {H : Hp} : ∀ {vs : List V} {ds : List PyData}, DpAll K H vs ds → vs.length = ds.length
  | _, _, .nil => rfl
  | _, _, .cons _ t => by simp [DpAll.length t]
theorem DpAll.app {K : PySem.W.Frag} {H : Hp} : ∀ {vs ws : List V} {ds es : List PyData}, DpAll K H vs ds → DpAll K H ws es → DpAll K H (vs ++ ws) (ds ++ es)
  | _, _, _, _, .nil, t => t
  | _, _, _, _, .cons h a, t => .cons h (DpAll.app a t)

/-! ### repr of data -/
mutual
theorem Dp.noDict {K : PySem.W.Frag} {H : Hp} : ∀ {v : V} {d : PyData}, Dp K H v d → d.hasDict = false
  | _, _, .non => rfl
  | _, _, .bl _ => rfl
  | _, _, .int _ => rfl
  | _, _, .str _ => rfl
  | _, _, .lst _ a => by simp only [PyData.hasDict]; exact DpAll.noDict a
  | _, _, .tup _ a => by simp only [PyData.hasDict]; exact DpAll.noDict a
theorem DpAll.noDict {K : PySem.W.Frag} {H : Hp} : ∀ {vs : List V} {ds : List PyData}, DpAll K H vs ds → PyData.hasDictAll ds = false
  | _, _, .nil => rfl
  | _, _, .cons h a => by simp only [PyData.hasDictAll, Dp.noDict h, DpAll.noDict a, Bool.or_self]
end
/-- what repr asks of data -/
structure ShowOk (d : PyData) : Prop where
  ok : d.showable = true
  dp : d.depth ≤ 60
  sz : d.shown.length ≤ sizeLine
def rRepr (K : PySem.W.Frag) : List V → Hp → VK → Prop := fun xs H Q => ∃ v d, xs = [v] ∧ Dp K H v d ∧ ShowOk d ∧ Q (.str d.shown) H
section
variable {X : Cx}
theorem call_repr_data (hg : X.A.guards = some []) (hu : X.A.units + 64 < cLine) : CallR X (.builtin "repr") (rRepr X.K) := by
  intro pins s σ H xs us Q I r h
  obtain ⟨v, d, rfl, hd, ⟨hs, hdp, hsz⟩, q⟩ := h
  obtain ⟨u, rfl, rv⟩ := vals1 r
  obtain ⟨as, rr⟩ := Dp.reads I d v u hd rv
  have nd := Dp.noDict hd
  cases d with
  | none => cases rr; exact PySem.P.repr_of_none ⟨.str _, H, I.tok _, ⟨_, rfl⟩, q⟩
  | bool b => cases rr; exact PySem.P.repr_of_bool ⟨.str _, H, I.tok _, ⟨_, rfl⟩, by simpa [PyData.shown] using q⟩
  | int i => cases rr; exact PySem.P.repr_of_int (of_decide_eq_true (by simpa [PyData.showable] using hs)) ⟨.str _, H, I.tok _, ⟨_, rfl⟩, by simpa [PyData.shown] using q⟩
  | str x => cases rr; exact PySem.P.repr_of_str (hsz := by simpa [PyData.shown] using hsz) ⟨.str _, H, I.tok _, ⟨_, rfl⟩, by simpa [PyData.shown] using q⟩
  | list ds =>
    obtain ⟨a, rfl⟩ := PyProof.Rows.isRef_of_reads rr rfl
    exact repr_of_reads' rr hs (PyData.noDict_hsm nd) hg (by omega) (fun _ _ e => e) (fun h' u tk hk => ⟨.str _, H, I.kept hk, ⟨_, rfl⟩, q⟩) hsz
  | tuple ds =>
    obtain ⟨a, rfl⟩ := PyProof.Rows.isRef_of_reads rr rfl
    exact repr_of_reads' rr hs (PyData.noDict_hsm nd) hg (by omega) (fun _ _ e => e) (fun h' u tk hk => ⟨.str _, H, I.kept hk, ⟨_, rfl⟩, q⟩) hsz
  | dict kv => cases hd
end

/-! ### the law's own call -/
/-- the heap behind the top, seen with the script at a locked, or with nothing tracked -/
theorem law_callG {P : Program} {w : World} {K : PySem.W.Frag} {mg mb : Str → Option Value} {CX : CXT} {k : Nat} {fa a : Addr} {fd : FuncData} {x : Str} {sp : Sp} {s₁ : Shared} {vs : List Value} {ns : List Int}
    (inn : K.In s₁.heap) (hns : s₁.heap.Ns mainGlobals mg) (hb : s₁.heap.Ns builtinsNs mb) (hbb : ∀ x : Str, x ≠ "__name__" → mb x = bootBuiltins x) (hlim : s₁.heap.NoLimit) (hgens : s₁.gens = #[])
    (ha : s₁.heap.get? a = some { cls := .type "list", data := .seq vs.toArray }) (hi : IntsAre vs ns) (hl : ns.length ≤ sizeLine) (hr : Room k callerA)
    (F : ∀ base : Heap, K.In base → base.Ns mainGlobals mg → FnG P w K mg base CX k fa fd [x] sp) (hbind : ∀ (s : Shared) (u : Value), BindsTo s fd ⟨[u], []⟩ [(x, u)])
    (hsp : ∀ H : Hp, Only H → SqL K H a (ns.map V.int) → sp [.ref a] H (fun v _ => v = .bl true) fun _ _ _ => False)
    (hCX : ∀ H e s', CX [] H s₁ (fun _ _ _ => False) e s' → False) :
    codeAny (model P w) callerA (.call (.ref fa) ⟨[.ref a], []⟩) (fun r s' => r = .ok (.ret (.bool true)) ∧ OldK s₁.heap s'.heap ∧ s'.os = s₁.os ∧ AllBare s'.gens) s₁ := by
  have rv := vals_ints hi
  have run : ∀ H : Hp, Only H → SqL K H a (ns.map V.int) → HOk P w H s₁.heap → (∀ b u, H b = some u → b = a ∧ K.lookup a = none) →
      codeAny (model P w) callerA (.call (.ref fa) ⟨[.ref a], []⟩) (fun r s' => r = .ok (.ret (.bool true)) ∧ OldK s₁.heap s'.heap ∧ s'.os = s₁.os ∧ AllBare s'.gens) s₁ := by
    intro H only hS hok at_a
    -- what is no list stays in the base
    have free : ∀ {b : Addr} {o : Obj}, s₁.heap.get? b = some o → (∀ its n, o.data ≠ .seq its n) → H b = none := fun {b o} e hd => by
      cases q : H b with
      | none => rfl
      | some u =>
        obtain ⟨rfl, _⟩ := at_a b u q
        rw [ha] at e; cases e
        exact absurd rfl (hd _ _)
    have names : ∀ {b : Addr} {m : Str → Option Value}, s₁.heap.Ns b m → (hidT s₁.heap H).Ns b m := fun {b m} hn => by
      obtain ⟨o, es, ep, e, d, r⟩ := hn
      exact ⟨o, es, ep, hidT_get e (free e fun its n z => by rw [d] at z; cases z), d, r⟩
    have inb : K.In (hidT s₁.heap H) := fun b o e => by
      refine hidT_get (inn b o e) ?_
      cases q : H b with
      | none => rfl
      | some u =>
        obtain ⟨rfl, hk⟩ := at_a b u q
        rw [e] at hk; cases hk
    have md : Mod K mg (hidT s₁.heap H) := by
      obtain ⟨mc, h1, h2⟩ := hlim
      exact ⟨inb, names hns, ⟨mb, names hb, hbb⟩, ⟨mc, names h1, h2⟩⟩
    have none_in : ∀ b : Addr, b ∉ ([] : List Addr) := fun b z => nomatch z
    have e0 : Env0 P w K mg (hidT s₁.heap H) callerA [] s₁ H := ⟨rfl, md, fun b o e => of_hidT e, Nat.le_of_eq (hidT_size _ _), trivial, fun b z => absurd z (none_in b), hok, .of_eq hgens⟩
    refine codeAny_mono ((F _ inb (names hns)).run callerA [] s₁ H ⟨[.ref a], []⟩ [.ref a] [.ref a] _ _ hr rfl e0 (hbind s₁ (.ref a)) (.cons rfl .nil) (hsp H only hS)) fun r s' h => ?_
    match r, h with
    | .error e, h => exact (hCX H e s' h).elim
    | .ok .next, h => exact False.elim h
    | .ok .brk, h => exact False.elim h
    | .ok .cont, h => exact False.elim h
    | .ok (.ret u), h =>
      obtain ⟨v, H', os, bare, un, hok', r', q⟩ := h
      obtain rfl : v = V.bl true := q
      obtain rfl : u = Value.bool true := r'
      refine ⟨rfl, OldK.of_keep fun b o e => ?_, os, bare⟩
      cases q : H b with
      | none => exact un.keep b o e q (none_in b) (none_in b)
      | some u =>
        rcases only b with z | ⟨ob, xs, z⟩
        · rw [q] at z; cases z
        · have e1 : s₁.heap.get? b = some ob := (hok b _ z).1
          rw [e] at e1; cases e1
          exact (hok' b _ (un.frzs b o _ z)).1
  cases hk : K.lookup a with
  | some o =>
    have e := inn a o hk
    rw [ha] at e; cases e
    have sz : vs.toArray.size ≤ sizeLine := by rw [List.size_toArray, hi.length]; exact hl
    exact run (fun _ => none) (fun _ => .inl rfl) (.inr ⟨_, vs.toArray, _, hk, rfl, rfl, rfl, sz, by simpa using rv⟩) (fun b u z => nomatch (show (none : Option HO) = some u from z)) fun b u z => nomatch (show (none : Option HO) = some u from z)
  | none =>
    let u0 : HO := .frz { cls := .type "list", data := .seq vs.toArray } (.lst (ns.map V.int))
    have at1 : ∀ b u, upd (fun _ => none) a u0 b = some u → b = a ∧ u = u0 := fun b u z => by
      by_cases hb : b = a
      · subst hb; rw [upd_same] at z; exact ⟨rfl, (Option.some.inj z).symm⟩
      · rw [upd_ne hb] at z; cases z
    refine run (upd (fun _ => none) a u0) (fun b => ?_) (.inl (.inr ⟨_, upd_same⟩)) (fun b u z => ?_) fun b u z => ⟨(at1 b u z).1, hk⟩
    · by_cases hb : b = a
      · subst hb; exact .inr ⟨_, _, upd_same⟩
      · exact .inl (by rw [upd_ne hb])
    · obtain ⟨rfl, rfl⟩ := at1 b u z
      exact ⟨ha, by rw [List.length_map]; exact hl, vs, _, rv, ha⟩
theorem walkG {l : PySem.W.OpenLaw} {n k : Nat} {q : Program} {loose : List Str} {XP : (Str → Option Value) → Heap → Prop} {YP : World → Heap → Prop} {d : DefRec} {K : Params → PySem.W.Frag} {CX : CXT} {sp : PySem.W.Frag → Sp} {x : Str}
    (hn : l.most = some n) (hn2 : n ≤ sizeLine) (hdf : d.params.defaults = []) (hr : Room k callerA)
    (hY : ∀ (w : World) (h : Heap), YP w h → (K w.params).In h)
    (F : ∀ (w : World) (mg : Str → Option Value) (fa : Addr) (h : Heap), (K w.params).In h → h.Ns mainGlobals mg → mg d.name = some (.ref fa) →
      ∃ fd : FuncData, (∀ (s : Shared) (u : Value), BindsTo s fd ⟨[u], []⟩ [(x, u)]) ∧
        ∀ base : Heap, (K w.params).In base → base.Ns mainGlobals mg → FnG l.prog w (K w.params) mg base CX k fa fd [x] (sp (K w.params)))
    (hsp : ∀ (K : PySem.W.Frag) (H : Hp) (a : Addr) (ns : List Int), ns.length ≤ n → Only H → SqL K H a (ns.map V.int) → sp K [.ref a] H (fun v _ => v = .bl true) fun _ _ _ => False)
    (hCX : ∀ (H : Hp) (s : Shared) (e : Value) (s' : Shared), CX [] H s (fun _ _ _ => False) e s' → False) :
    PySem.W.WalkO q loose XP YP l.row.toRowW d [] (fun f vs => PySem.call f vs) :=
  Att.attach_call hn hdf fun w s₀ s₁ mg mb fa o pm cd doc a vs ns G Y ho hd hcd hmg hobj hints hlen hg =>
    let ⟨fd, hb, hF⟩ := F w mg fa _ (hY w _ Y) G.T.g hmg
    law_callG (hY w _ Y) G.T.g G.T.b G.T.builtins G.T.nolimit hg hobj hints (Nat.le_trans hlen hn2) hr hF hb (fun H hO hS => hsp (K w.params) H a ns hlen hO hS) fun H e s' => hCX H s₁ e s'
/-- from the top's facts: the law's def and its arguments -/
theorem law_use {P : Program} {w : World} {K : PySem.W.Frag} {mg : Str → Option Value} {h : Heap} {CX : CXT} {k : Nat} {fa : Addr} {st : Stmt} {x : Str} {sp : Sp} (L : HasFn K "law" st) (X : K.In h) (G : h.Ns mainGlobals mg) (hfa : mg "law" = some (.ref fa))
    (hb : ∀ (kV doc pm : Value) (an : Option Addr) (cdv ct v : Value), bindArgs (PySem.W.fnOf "law" "law" (defArgs st) (defBody st) (defScope st) .none kV doc pm an cdv ct) ⟨[v], []⟩ = pure [(x, v)])
    (ok : ∀ base : Heap, K.In base → base.Ns mainGlobals mg → ∀ fd, Fun K "law" "law" st fa fd → FnG P w K mg base CX k fa fd [x] sp) :
    ∃ fd : FuncData, (∀ (s : Shared) (v : Value), BindsTo s fd ⟨[v], []⟩ [(x, v)]) ∧ ∀ base : Heap, K.In base → base.Ns mainGlobals mg → FnG P w K mg base CX k fa fd [x] sp := by
  obtain ⟨f, oc, od, an, kV, doc, pm, cdv, ct, osl, e, l, c, kp⟩ := L
  have z := hfa.symm.trans (PySem.W.mg_of X G e)
  cases z
  have Fn := fun_mk (st := st) l c kp
  exact ⟨_, fun s v => .of_eq (hb ..), fun base h1 h2 => ok base h1 h2 _ Fn⟩

/-! ### tests whose answer is known -/
theorem iteFb {c : Bool} {A B : Prop} (h : c = false) (b : B) : if c = true then A else B := by rw [h]; exact iteF b
theorem iteTb {c : Bool} {A B : Prop} (h : c = true) (a : A) : if c = true then A else B := by rw [h]; exact iteT a
theorem ite3 {c : Bool} {A B : Prop} (h1 : c = true → A) (h2 : c = false → B) : if c = true then A else B := by
  cases c with
  | true => exact iteT (h1 rfl)
  | false => exact iteF (h2 rfl)

/-! ### constants of the top -/
def HasInt (K : PySem.W.Frag) (x : Str) (n : Int) : Prop := ∃ (t : Tok) (m : Int), PySem.W.nsIn K mainGlobals x = some (some (.int m t)) ∧ m = n
def KTup (K : PySem.W.Frag) (a : Addr) (xs : List V) : Prop := ∃ (od : Option Addr) (its : Array Value) (n : Nat) (sl : Array (Option Value)), K.lookup a = some ⟨.type "tuple", od, .seq its n, sl⟩ ∧ its.size ≤ sizeLine ∧ Vals xs its.toList
def HasTup (K : PySem.W.Frag) (x : Str) (xs : List V) : Prop := ∃ a, PySem.W.nsIn K mainGlobals x = some (some (.ref a)) ∧ KTup K a xs
theorem KTup.sq {K : PySem.W.Frag} {a : Addr} {xs : List V} (h : KTup K a xs) (H : Hp) : SqT K H a xs := by
  obtain ⟨od, its, n, sl, e, z, v⟩ := h
  exact .inr ⟨_, its, n, e, rfl, rfl, z, v⟩
/-- the module's names, as the defs see them -/
def GInt (mg : Str → Option Value) (x : Str) (n : Int) : Prop := ∃ t, mg x = some (.int n t)
def GTup (K : PySem.W.Frag) (mg : Str → Option Value) (x : Str) (xs : List V) : Prop := ∃ a, mg x = some (.ref a) ∧ KTup K a xs
theorem HasInt.g {K : PySem.W.Frag} {mg : Str → Option Value} {h : Heap} {x : Str} {n : Int} (i : HasInt K x n) (X : K.In h) (G : h.Ns mainGlobals mg) : GInt mg x n := by
  obtain ⟨t, m, e, rfl⟩ := i
  exact ⟨t, PySem.W.mg_of X G e⟩
theorem HasTup.g {K : PySem.W.Frag} {mg : Str → Option Value} {h : Heap} {x : Str} {xs : List V} (i : HasTup K x xs) (X : K.In h) (G : h.Ns mainGlobals mg) : GTup K mg x xs := by
  obtain ⟨a, e, k⟩ := i
  exact ⟨a, PySem.W.mg_of X G e, k⟩
section
variable {X : Cx} {x : Str} {pos : Pos}
theorem pe_globI {n : Int} (h : GInt X.mg x n) (hg : Gl X x) (hd : (x == ("__debug__" : Str)) = false := by decide) : PE X (.Name x pos) (tC (.int n)) := by
  obtain ⟨t, e⟩ := h
  exact pe_glob hg e ⟨t, rfl⟩ hd
/-- a tuple of the top: it is read as xs, wherever it stands -/
def tGT (K : PySem.W.Frag) (xs : List V) : TE := fun _ H Q => ∀ a, KTup K a xs → Q (.ref a) H
theorem pe_globT {xs : List V} (h : GTup X.K X.mg x xs) (hg : Gl X x) (hd : (x == ("__debug__" : Str)) = false := by decide) : PE X (.Name x pos) (tGT X.K xs) := by
  obtain ⟨a, e, k⟩ := h
  exact ⟨fun pins s σ H Q I q => (pe_glob (v := .ref a) hg e rfl hd).run pins s σ H Q I (q a k)⟩
end

/-! ### // by any divisor but 0 -/
def CDivX (_ j : Int) : Prop := j ≠ 0 ∧ j.natAbs.log2 < 9000
theorem op_fdivX {X : Cx} : OpR X (binaryOp .FloorDiv) (rI CDivX fun i j => .int (i.fdiv j)) := opI fun _ _ _ _ _ _ _ hc q => floordiv_int hc.1 q (.inl (PyProof.noPylong_of_log2 hc.2))
theorem fdiv_le_pos (i : Int) {j : Int} (hj : 0 < j) : (i.fdiv j).natAbs ≤ i.natAbs + 1 := by
  have e := Int.mul_fdiv_add_fmod i j
  have h0 := Int.fmod_nonneg_of_pos i hj
  have h1 := Int.fmod_lt_of_pos i hj
  have a : (i.fdiv j).natAbs ≤ (j * i.fdiv j).natAbs := by
    rw [Int.natAbs_mul]; exact Nat.le_mul_of_pos_left _ (by omega)
  by_cases hi : 0 ≤ i
  · have : 0 ≤ i.fdiv j := Int.fdiv_nonneg hi (by omega)
    have : 0 ≤ j * i.fdiv j := Int.mul_nonneg (by omega) this
    omega
  · have q : i.fdiv j ≤ -1 := by
      by_cases z : 0 ≤ i.fdiv j
      · have := Int.mul_nonneg (show 0 ≤ j by omega) z
        omega
      · omega
    have r : -1 + i ≤ i.fdiv j := by
      have : i.fdiv j * (j - 1) ≤ (-1) * (j - 1) := Int.mul_le_mul_of_nonneg_right q (by omega)
      have e2 : j * i.fdiv j = i.fdiv j * (j - 1) + i.fdiv j := by rw [Int.mul_sub, Int.mul_one, Int.mul_comm]; omega
      omega
    omega
theorem fdiv_le (i j : Int) : (i.fdiv j).natAbs ≤ i.natAbs + 1 := by
  by_cases h : 0 < j
  · exact fdiv_le_pos i h
  · by_cases h2 : j = 0
    · subst h2; rw [Int.fdiv_zero]; omega
    · have e : i.fdiv j = (-i).fdiv (-j) := by rw [Int.neg_fdiv_neg]
      have := fdiv_le_pos (-i) (show 0 < -j by omega)
      rw [e]; omega

/-! ### how long a shown thing is at most -/
structure Sm (d : PyData) (dp N : Nat) : Prop where
  ok : d.showable = true
  dp : d.depth ≤ dp
  sz : d.shown.length ≤ N
structure SmAll (ds : List PyData) (dp n N : Nat) : Prop where
  ok : PyData.showableAll ds = true
  dp : PyData.depthAll ds ≤ dp
  len : ds.length ≤ n
  sz : ((PyData.shownAll ds).map (·.length)).sum ≤ N
theorem Sm.show {d : PyData} {dp N : Nat} (h : Sm d dp N) (h1 : dp ≤ 60) (h2 : N ≤ sizeLine) : ShowOk d := ⟨h.ok, Nat.le_trans h.dp h1, Nat.le_trans h.sz h2⟩
theorem Sm.mono {d : PyData} {dp N dp' N' : Nat} (h : Sm d dp N) (h1 : dp ≤ dp') (h2 : N ≤ N') : Sm d dp' N' := ⟨h.ok, Nat.le_trans h.dp h1, Nat.le_trans h.sz h2⟩
theorem shownAll_length : ∀ ds : List PyData, (PyData.shownAll ds).length = ds.length
  | [] => rfl
  | d :: ds => by simp [PyData.shownAll, shownAll_length ds]
theorem Sm.int {i : Int} (h : i.natAbs < 2 ^ 1900) : Sm (.int i) 0 2000 := by
  have hl : i.natAbs.log2 < 1900 := PySem.Flt.log2_lt_of (by decide) h
  refine ⟨?_, Nat.le_refl 0, ?_⟩
  · simp only [PyData.showable, decide_eq_true_eq]; omega
  · have e := int_text_length_le (k := 1900) (by decide) hl
    show (Str.ofString (toString i)).length ≤ 2000
    rw [PySem.ofString_length]; omega
theorem Sm.bool (b : Bool) : Sm (.bool b) 0 10 := ⟨rfl, Nat.le_refl 0, by cases b <;> decide +kernel⟩
theorem Sm.none : Sm .none 0 10 := ⟨rfl, Nat.le_refl 0, by decide +kernel⟩
theorem Sm.str {x : Str} {n : Nat} (h : x.length ≤ n) (hc : ∀ c ∈ x.cps.toList, c < 16 ^ 8) : Sm (.str x) 0 (10 * n + 2) := ⟨rfl, Nat.le_refl 0, by
  have e := PySem.StrLaws.reprText_len x hc
  show (reprText x).length ≤ _
  omega⟩
theorem SmAll.nil : SmAll [] 0 0 0 := ⟨rfl, Nat.le_refl 0, Nat.le_refl 0, Nat.le_refl 0⟩
theorem SmAll.cons {d : PyData} {ds : List PyData} {dp dp' n N M : Nat} (h : Sm d dp N) (t : SmAll ds dp' n M) : SmAll (d :: ds) (max dp dp') (n + 1) (N + M) := by
  have h1 := h.dp
  have h2 := t.dp
  refine ⟨by simp [PyData.showableAll, h.ok, t.ok], ?_, by have := t.len; simp; omega, ?_⟩
  · simp only [PyData.depthAll]; omega
  · have := h.sz
    have := t.sz
    simp only [PyData.shownAll, List.map_cons, List.sum_cons]; omega
theorem Sm.tup {ds : List PyData} {dp n N : Nat} (h : SmAll ds dp n N) : Sm (.tuple ds) (dp + 1) (N + 2 * n + 3) := by
  refine ⟨by simpa [PyData.showable] using h.ok, by simp only [PyData.depth]; have := h.dp; omega, ?_⟩
  have e := tupleText_len_le (PyData.shownAll ds)
  have := h.sz
  have := h.len
  rw [shownAll_length] at e
  show (tupleText (PyData.shownAll ds)).length ≤ _
  omega
theorem Sm.lst {ds : List PyData} {dp n N : Nat} (h : SmAll ds dp n N) : Sm (.list ds) (dp + 1) (N + 2 * n + 3) := by
  refine ⟨by simpa [PyData.showable] using h.ok, by simp only [PyData.depth]; have := h.dp; omega, ?_⟩
  have e := listText_len_le (PyData.shownAll ds)
  have := h.sz
  have := h.len
  rw [shownAll_length] at e
  show (listText (PyData.shownAll ds)).length ≤ _
  omega
theorem SmAll.many {dp N : Nat} : ∀ {ds : List PyData}, (∀ d ∈ ds, Sm d dp N) → SmAll ds dp ds.length (N * ds.length)
  | [], _ => ⟨rfl, Nat.zero_le _, Nat.le_refl 0, Nat.zero_le _⟩
  | d :: ds, h => by
    have t := SmAll.cons (h d (by simp)) (SmAll.many (fun e he => h e (List.mem_cons_of_mem _ he)))
    rw [Nat.max_self] at t
    refine ⟨t.ok, t.dp, t.len, Nat.le_trans t.sz ?_⟩
    rw [List.length_cons, Nat.mul_succ]; omega
theorem sz_0 : (0 : Nat) ≤ sizeLine := by decide
theorem sz_1 : (1 : Nat) ≤ sizeLine := by decide
theorem sz_2 : (2 : Nat) ≤ sizeLine := by decide
theorem sz_3 : (3 : Nat) ≤ sizeLine := by decide
theorem sz_4 : (4 : Nat) ≤ sizeLine := by decide
theorem sz_5 : (5 : Nat) ≤ sizeLine := by decide
/-! ### the ends: each premise a fact that k_is finds -/
theorem HasFn.mk' {K : PySem.W.Frag} {x : Str} {st : Stmt} {f : Addr} {oc : Value} {od an : Option Addr} {kV doc pm cdv ct : Value} {osl : Array (Option Value)} (a : PySem.W.nsIn K mainGlobals x = some (some (.ref f)))
    (b : K.lookup f = some ⟨oc, od, .func (PySem.W.fnOf x x (defArgs st) (defBody st) (defScope st) .none kV doc pm an cdv ct), osl⟩) (c : PySem.W.codeIn K cdv x = true) (d : PySem.W.keepIn K (.ref f) = true) : HasFn K x st :=
  ⟨f, oc, od, an, kV, doc, pm, cdv, ct, osl, a, b, c, d⟩
theorem HasInt.mk' {K : PySem.W.Frag} {x : Str} {n m : Int} {t : Tok} (a : PySem.W.nsIn K mainGlobals x = some (some (.int m t))) (e : m = n) : HasInt K x n := ⟨t, m, a, e⟩
theorem HasTup.mk' {K : PySem.W.Frag} {x : Str} {xs : List V} {a : Addr} {od : Option Addr} {its : Array Value} {n : Nat} {sl : Array (Option Value)} (h : PySem.W.nsIn K mainGlobals x = some (some (.ref a)))
    (b : K.lookup a = some ⟨.type "tuple", od, .seq its n, sl⟩) (z : its.size ≤ sizeLine) (v : Vals xs its.toList) : HasTup K x xs := ⟨a, h, od, its, n, sl, b, z, v⟩
/-! ### what the laws' helpers promise -/
/-! the digits and the place -/
def BoxAt (H : Hp) (p dl : Addr) : Prop := ∃ (ds : List Int) (k : Int), H p = some (.lst [.ref dl, .int k]) ∧ 0 ≤ k ∧ H dl = some (.lst (ds.map V.int)) ∧ ds.length ≤ 4000 ∧ ∀ d ∈ ds, 0 ≤ d ∧ d < 1000
theorem BoxAt.at_ {H : Hp} {p dl : Addr} (h : BoxAt H p dl) : ∃ xs, H p = some (.lst xs) := let ⟨_, _, a, _⟩ := h; ⟨_, a⟩
theorem BoxAt.dg {H : Hp} {p dl : Addr} (h : BoxAt H p dl) : ∃ xs, H dl = some (.lst xs) := let ⟨_, _, _, _, c, _⟩ := h; ⟨_, c⟩
def Keep (p : Addr) (H H' : Hp) : Prop := ∀ b o, H b = some o → b ≠ p → H' b = some o
def spDraw (K : PySem.W.Frag) : Sp := fun vs H Q _ => ∃ (p dl : Addr) (m : Int), vs = [.ref p, .int m] ∧ BoxAt H p dl ∧ 0 < m ∧ ∀ r H', 0 ≤ r → r < m → BoxAt H' p dl → Keep p H H' → Q (.int r) H'
def spCell (K : PySem.W.Frag) : Sp := fun vs H Q _ => ∃ (a : Addr) (ns : List Int) (i : Int), vs = [.ref a, .int i] ∧ SqL K H a (ns.map V.int) ∧ 0 ≤ i ∧ ∀ r, Q (.int r) H
def DigAt (H0 H : Hp) (dl : Addr) (n : Nat) : Prop := ∃ ds : List Int, H dl = some (.lst (ds.map V.int)) ∧ ds.length ≤ n ∧ (∀ d ∈ ds, 0 ≤ d ∧ d < 1000) ∧ Same H0 H
theorem DigAt.mono {H0 H : Hp} {dl : Addr} {n m : Nat} (h : DigAt H0 H dl n) (l : n ≤ m) : DigAt H0 H dl m := let ⟨ds, a, b, c, d⟩ := h; ⟨ds, a, by omega, c, d⟩
theorem DigAt.add {H0 H : Hp} {dl : Addr} {n : Nat} {r : Int} {xs : List V} (h : DigAt H0 H dl n) (hx : H dl = some (.lst xs)) (nd : H0 dl = none) (h0 : 0 ≤ r) (h1 : r < 1000) : DigAt H0 (upd H dl (.lst (xs ++ [.int r]))) dl (n + 1) := by
  obtain ⟨ds, a, b, c, d⟩ := h
  rw [hx] at a
  obtain rfl := HO.lst.inj (Option.some.inj a)
  refine ⟨ds ++ [r], by rw [upd_same, List.map_append]; rfl, by simp; omega, fun z hz => ?_, fun q o e => by rw [upd_ne (ne_of_none e nd)]; exact d q o e⟩
  rcases List.mem_append.mp hz with hz | hz
  · exact c z hz
  · have : z = r := by simpa using hz
    omega
def spDigits (K : PySem.W.Frag) : Sp := fun vs H Q _ => ∃ (a : Addr) (ns : List Int) (lo hi : Nat), vs = [.ref a, .int lo, .int hi] ∧ SqL K H a (ns.map V.int) ∧ lo ≤ hi ∧ hi ≤ 64 ∧
  ∀ (p : Addr) (H' : Hp), H p = none → DigAt H H' p 4000 → Q (.ref p) H'
def spBound : Sp := fun vs H Q _ => vs = [] ∧ Q (.int (2 ^ 256)) H
theorem Keep.trans {p : Addr} {H H1 H2 : Hp} (a : Keep p H H1) (b : Keep p H1 H2) : Keep p H H2 := fun c o h ne => b c o (a c o h ne) ne
theorem Keep.refl (p : Addr) (H : Hp) : Keep p H H := fun _ _ h _ => h
def Sgn (z : Int) : Prop := z = 1 ∨ z = -1
theorem Sgn.mul {z n : Int} (h : Sgn z) : (z * n).natAbs = n.natAbs := by
  rcases h with rfl | rfl <;> omega
theorem Sgn.wide {z n : Int} (h : Sgn z) (hn : n.natAbs < 2 ^ 300) : CMulW z n := wide_mul (a := 2) (b := 300) (by rcases h with rfl | rfl <;> decide) hn (by decide) (by decide) (by decide)
def spNumber (K : PySem.W.Frag) : Sp := fun vs H Q _ => ∃ (p dl : Addr), vs = [.ref p] ∧ BoxAt H p dl ∧ ∀ (n : Int) H', n.natAbs < 2 ^ 260 → BoxAt H' p dl → Keep p H H' → Q (.int n) H'
def spSame (K : PySem.W.Frag) : Sp := fun vs H Q _ => ∃ (x y : V) (d : PyData), vs = [x, y] ∧ Dp K H x d ∧ Dp K H y d ∧ ShowOk d ∧ Q (.bl true) H
theorem Same.keep {p : Addr} {H H' : Hp} (e : Same H H') : Keep p H H' := fun b o h _ => e b o h
theorem BoxAt.same {p dl : Addr} {H H' : Hp} (h : BoxAt H p dl) (e : Same H H') : BoxAt H' p dl := by
  obtain ⟨ds, k, a, b, c, d⟩ := h
  exact ⟨ds, k, e _ _ a, b, e _ _ c, d⟩
theorem BoxAt.upd {p dl l : Addr} {H : Hp} {o : HO} (h : BoxAt H p dl) (h1 : l ≠ p) (h2 : l ≠ dl) : BoxAt (L2.upd H l o) p dl := by
  obtain ⟨ds, k, a, b, c, d⟩ := h
  exact ⟨ds, k, by rw [upd_ne (Ne.symm h1)]; exact a, b, by rw [upd_ne (Ne.symm h2)]; exact c, d⟩
theorem strOk (s : Str) (h : s.cps.toList.all (fun c => decide (c < 16 ^ 8)) = true) : ∀ c ∈ s.cps.toList, c < 16 ^ 8 := fun c hc => of_decide_eq_true (List.all_eq_true.mp h c hc)

/-! ### data without lists: what no change of a list can reach -/
mutual
inductive Dt (K : PySem.W.Frag) (H : Hp) : V → PyData → Prop
  | non : Dt K H .non .none
  | bl (b : Bool) : Dt K H (.bl b) (.bool b)
  | int (i : Int) : Dt K H (.int i) (.int i)
  | str (x : Str) : Dt K H (.str x) (.str x)
  | tup {a : Addr} {xs : List V} {ds : List PyData} : SqT K H a xs → DtAll K H xs ds → Dt K H (.ref a) (.tuple ds)
inductive DtAll (K : PySem.W.Frag) (H : Hp) : List V → List PyData → Prop
  | nil : DtAll K H [] []
  | cons {v : V} {vs : List V} {d : PyData} {ds : List PyData} : Dt K H v d → DtAll K H vs ds → DtAll K H (v :: vs) (d :: ds)
end
mutual
theorem Dt.dp {K : PySem.W.Frag} {H : Hp} : ∀ {v : V} {d : PyData}, Dt K H v d → Dp K H v d
  | _, _, .non => .non
  | _, _, .bl b => .bl b
  | _, _, .int i => .int i
  | _, _, .str x => .str x
  | _, _, .tup h a => .tup h (DtAll.dp a)
theorem DtAll.dp {K : PySem.W.Frag} {H : Hp} : ∀ {vs : List V} {ds : List PyData}, DtAll K H vs ds → DpAll K H vs ds
  | _, _, .nil => .nil
  | _, _, .cons h a => .cons (Dt.dp h) (DtAll.dp a)
end
/-- every tuple that H reads H' reads as well -/
def KeepT (K : PySem.W.Frag) (H H' : Hp) : Prop := ∀ a xs, SqT K H a xs → SqT K H' a xs
mutual
theorem Dt.keepT {K : PySem.W.Frag} {H H' : Hp} (e : KeepT K H H') : ∀ {v : V} {d : PyData}, Dt K H v d → Dt K H' v d
  | _, _, .non => .non
  | _, _, .bl b => .bl b
  | _, _, .int i => .int i
  | _, _, .str x => .str x
  | _, _, .tup h a => .tup (e _ _ h) (DtAll.keepT e a)
theorem DtAll.keepT {K : PySem.W.Frag} {H H' : Hp} (e : KeepT K H H') : ∀ {vs : List V} {ds : List PyData}, DtAll K H vs ds → DtAll K H' vs ds
  | _, _, .nil => .nil
  | _, _, .cons h a => .cons (Dt.keepT e h) (DtAll.keepT e a)
end
theorem KeepT.refl (K : PySem.W.Frag) (H : Hp) : KeepT K H H := fun _ _ h => h
theorem KeepT.trans {K : PySem.W.Frag} {H H1 H2 : Hp} (a : KeepT K H H1) (b : KeepT K H1 H2) : KeepT K H H2 := fun c xs h => b c xs (a c xs h)
theorem Same.keepT {K : PySem.W.Frag} {H H' : Hp} (e : Same H H') : KeepT K H H' := fun _ _ h => Same.tupl e h
theorem Keep.keepT {K : PySem.W.Frag} {p : Addr} {H H' : Hp} (e : Keep p H H') (hp : ∃ xs, H p = some (.lst xs)) : KeepT K H H' := fun a xs h => by
  obtain ⟨ys, hp⟩ := hp
  rcases h with (h | ⟨o, h⟩) | h
  · exact .inl (.inl (e _ _ h (ne_of h hp (by intro z; cases z))))
  · exact .inl (.inr ⟨o, e _ _ h (ne_of h hp (by intro z; cases z))⟩)
  · exact .inr h
theorem KeepT.upd {K : PySem.W.Frag} {p : Addr} {H : Hp} {o : HO} {xs : List V} (hp : H p = some (.lst xs)) : KeepT K H (upd H p o) :=
  Keep.keepT (p := p) (fun b u e hb => by rw [upd_ne hb]; exact e) ⟨xs, hp⟩
theorem Dt.mono {K : PySem.W.Frag} {H H' : Hp} {v : V} {d : PyData} (e : Same H H') (h : Dt K H v d) : Dt K H' v d := h.keepT (Same.keepT e)
theorem DtAll.mono {K : PySem.W.Frag} {H H' : Hp} {v : List V} {d : List PyData} (e : Same H H') (h : DtAll K H v d) : DtAll K H' v d := h.keepT (Same.keepT e)
theorem Dt.made {K : PySem.W.Frag} {H : Hp} {p : Addr} {xs : List V} {ds : List PyData} (hp : H p = none) (h : DtAll K H xs ds) : Dt K (L2.upd H p (.tup xs)) (.ref p) (.tuple ds) := .tup (SqT.of upd_same) (DtAll.mono (Same.new hp) h)
theorem DtAll.length {K : PySem.W.Frag} {H : Hp} {vs : List V} {ds : List PyData} (h : DtAll K H vs ds) : vs.length = ds.length := LK.DpAll.length h.dp
theorem DtAll.app {K : PySem.W.Frag} {H : Hp} : ∀ {vs ws : List V} {ds es : List PyData}, DtAll K H vs ds → DtAll K H ws es → DtAll K H (vs ++ ws) (ds ++ es)
  | _, _, _, _, .nil, t => t
  | _, _, _, _, .cons h a, t => .cons h (DtAll.app a t)
theorem DtAll.get {K : PySem.W.Frag} {H : Hp} : ∀ {vs : List V} {ds : List PyData} {i : Nat} {d : PyData}, DtAll K H vs ds → ds[i]? = some d → ∃ v, vs[i]? = some v ∧ Dt K H v d
  | _, _, 0, _, .cons h _, e => ⟨_, rfl, Option.some.inj e ▸ h⟩
  | _, _, i + 1, _, .cons _ a, e => DtAll.get (i := i) a e
theorem DtAll.getV {K : PySem.W.Frag} {H : Hp} : ∀ {vs : List V} {ds : List PyData} {i : Nat} {v : V}, DtAll K H vs ds → vs[i]? = some v → ∃ d, ds[i]? = some d ∧ Dt K H v d
  | _, _, 0, _, .cons h _, e => ⟨_, rfl, Option.some.inj e ▸ h⟩
  | _, _, i + 1, _, .cons _ a, e => DtAll.getV (i := i) a e
theorem Dt.tuple_inv {K : PySem.W.Frag} {H : Hp} {v : V} {ds : List PyData} (h : Dt K H v (.tuple ds)) : ∃ a xs, v = .ref a ∧ SqT K H a xs ∧ DtAll K H xs ds := by
  cases h with
  | tup h a => exact ⟨_, _, rfl, h, a⟩
theorem DtAll.cons_inv {K : PySem.W.Frag} {H : Hp} {vs : List V} {d : PyData} {ds : List PyData} (h : DtAll K H vs (d :: ds)) : ∃ v ws, vs = v :: ws ∧ Dt K H v d ∧ DtAll K H ws ds := by
  cases h with
  | cons h a => exact ⟨_, _, rfl, h, a⟩
theorem DtAll.nil_inv {K : PySem.W.Frag} {H : Hp} {vs : List V} (h : DtAll K H vs []) : vs = [] := by cases h; rfl
theorem Dt.int_inv {K : PySem.W.Frag} {H : Hp} {v : V} {i : Int} (h : Dt K H v (.int i)) : v = .int i := by cases h; rfl
theorem Dt.str_inv {K : PySem.W.Frag} {H : Hp} {v : V} {x : Str} (h : Dt K H v (.str x)) : v = .str x := by cases h; rfl
theorem Dt.bool_inv {K : PySem.W.Frag} {H : Hp} {v : V} {b : Bool} (h : Dt K H v (.bool b)) : v = .bl b := by cases h; rfl
theorem dtStrs {K : PySem.W.Frag} {H : Hp} : ∀ xs : List Str, DtAll K H (xs.map V.str) (xs.map PyData.str)
  | [] => .nil
  | x :: xs => .cons (.str x) (dtStrs xs)
end LK

set_option Elab.async false
set_option linter.all false
set_option maxRecDepth 100000
set_option maxHeartbeats 4000000
/-! enumerate of a tuple. -/
namespace LK
open PySem PySem.Spec PyProof.Rows L2
open AutoSeq1 (wpAny_loadPart')
open Sem (wp)
def enumObj (it : Addr) : Obj := { cls := .type "enumerate", data := .fields #[.none, .bool false, .ref it, rawInt 0, .none, .none] }
def tupIt (t : Addr) : Obj := { cls := .type "tuple_iterator", data := .fields #[.ref t, .int 0 0] }
theorem meets_enumT (t : Addr) (items : Array Value) (n : Nat) (dct : Option Addr) (sl : Array (Option Value)) :
    Meets (Builtin.«enumerate.__new__» ⟨[.type "enumerate", .ref t], []⟩) (fun _ R s => s.heap.get? t = some { cls := .type "tuple", dict := dct, data := .seq items n, slots := sl } ∧
      R (.ok (.ret (.ref (s.heap.push (tupIt t)).objs.size))) { s with heap := (s.heap.push (tupIt t)).push (enumObj s.heap.objs.size) }) :=
  .of_wp fun prog w A R s h => by
    obtain ⟨hp, g, d, tk, os⟩ := s
    obtain ⟨hl, h⟩ := h
    have hsub := sub_enumerate
    have hT : Heap.IsTuple (Shared.heap ⟨hp, g, d, tk, os⟩) t items := ⟨_, hl, rfl, n, rfl⟩
    wp_walk using wpAny_loadPart' hl
    refine wpAny_stack_any fun st => wpAny_pure ?_
    split
    · rename_i c _ _ _ _ _
      cases (c == Value.type "enumerate") <;> (wp_walk using wpAny_loadPart' hl, wpAny_pyIter_tuple hT; exact ⟨_, rfl, h⟩)
    · wp_walk using wpAny_loadPart' hl, wpAny_pyIter_tuple hT
      exact ⟨_, rfl, h⟩
section
variable {prog : Program} {w : World} {A : Around} {E : Value → Shared → Prop} {s : Shared}
theorem call_enumT {t : Addr} {items : Array Value} {Q : Value → Shared → Prop} (hT : s.heap.IsTuple t items)
    (h : ∀ h', IsEnum h' (s.heap.objs.size + 1) s.heap.objs.size 0 .none → h'.IsTupleIter s.heap.objs.size t 0 → (∀ b o, s.heap.get? b = some o → h'.get? b = some o) → Q (.ref (s.heap.objs.size + 1)) { s with heap := h' }) :
    wpAny (model prog w) A (call (.type "enumerate") [.ref t]) Q E s := by
  obtain ⟨⟨c, dct, dt, sl⟩, hl, hc, n, hd⟩ := hT
  obtain rfl : c = .type "tuple" := hc
  obtain rfl : dt = .seq items n := hd
  refine callType_new F.called_enumerate (by decide) (F.typeCall_enumerate_1 _) (F.newCall_enumerate_1 _) (fun obj => F.args_object_init_2 obj _) F.entry_enumerate_new (meets_enumT t items n dct sl) ⟨hl, ?_⟩
  have hz : (s.heap.push (tupIt t)).objs.size = s.heap.objs.size + 1 := Heap.size_push ..
  have he : IsEnum ((s.heap.push (tupIt t)).push (enumObj s.heap.objs.size)) (s.heap.objs.size + 1) s.heap.objs.size 0 .none := by
    have q := Heap.get?_push_size (s.heap.push (tupIt t)) (o := enumObj s.heap.objs.size) rfl
    rw [hz] at q
    exact q
  show _ ∧ _
  rw [hz]
  exact ⟨⟨_, he, rfl⟩, h _ he (Heap.get?_push_of_some _ (Heap.get?_push_size _ rfl) |> fun q => ⟨_, q, rfl, rfl⟩) fun b o x => Heap.get?_push_of_some _ (Heap.get?_push_of_some _ x)⟩
end
/-- the tuple at a, each item in a new pair with its place -/
def IteT (K : PySem.W.Frag) (a : Addr) : It where
  go := fun i H => ∃ (xs : List V) (x : V), SqT K H a xs ∧ xs[i]? = some x
  yld := fun i H v H' => ∃ T x, v = .ref T ∧ H T = none ∧ H' = upd H T (.tup [.int (i : Nat), x]) ∧ ∀ xs, SqT K H a xs → xs[i]? = some x
  stop := fun i H => ∃ xs : List V, SqT K H a xs ∧ xs.length = i
theorem turn_enumT {P : Program} {w : World} {K : PySem.W.Frag} {elts : List Expr} {kk : Nat} {tpos : Pos} (a e it : Addr) :
    Turn P w K (.Tuple elts kk tpos) (IteT K a) [e, it] e (fun i h => (∃ old, IsEnum h e it ((i : Nat) : Int) old) ∧ h.IsTupleIter it a i ∧ e ≠ it) where
  mem := List.mem_cons_self
  obj := fun i h st b hb => by
    obtain ⟨⟨old, he⟩, ⟨o, ho, hc, hd⟩, _⟩ := st
    have hb : b = e ∨ b = it := by simpa using hb
    rcases hb with rfl | rfl
    · exact ⟨_, he, fun v q => nomatch q⟩
    · exact ⟨o, ho, fun v q => by rw [hd] at q; cases q⟩
  keep := fun i h h' st k => by
    obtain ⟨⟨old, he⟩, hi, hne⟩ := st
    exact ⟨⟨old, k e (by simp) _ he⟩, hi.at fun o q => k it (by simp) o q, hne⟩
  item := by
    intro X hP hw hK hc i pins s σ H E I hf st hg
    subst hP hw hK
    obtain ⟨⟨old, he⟩, hit, hne⟩ := st
    obtain ⟨xs, x, hq, hx⟩ := hg
    obtain ⟨its, rv, p, hz⟩ := I.tuple hq
    obtain ⟨u, hu, ru⟩ := rv.get hx
    have hel : e < s.heap.objs.size := Heap.lt_size he
    have hil : it < s.heap.objs.size := by obtain ⟨_, q, _⟩ := hit; exact Heap.lt_size q
    have hat : a ≠ it := by
      intro z
      subst z
      obtain ⟨o, q1, c1, _⟩ := hit
      obtain ⟨o', q2, c2, _⟩ := p
      rw [q1] at q2; cases q2
      exact absurd (Value.type.inj (c1.symm.trans c2)) (by decide)
    have D := Draws.tuple (prog := X.prog) (w := X.w) (A := X.A.in1) (I.ok.hd hc) it a hat its.toArray
    have Dst : (fun i (h : Heap) => h.IsTupleIter it a i ∧ h.IsTuple a its.toArray) i s.heap := ⟨hit, p⟩
    have eat : e ≠ a := by
      intro z
      subst z
      obtain ⟨o', q2, c2, _⟩ := p
      rw [he] at q2; cases q2
      exact absurd (Value.type.inj c2) (by decide)
    have hi : i < its.toArray.size := by
      have := (List.getElem?_eq_some_iff.mp hu).1
      simpa using this
    refine wpAny_pyNext_enum_itemD D he Dst hi hne (by simp [hne, eat]) fun v h' tk hv ho hst hT hsz hk => ?_
    obtain rfl : v = u := by
      have hv : its.toArray[i]? = some v := hv
      rw [show its.toArray[i]? = some u by simpa using hu] at hv
      exact (Option.some.inj hv).symm
    refine ⟨_, rfl, wpAny_letOwnedTupleGo_enum (s := { s with heap := h', toks := tk + 1 }) ho fun h'' he' sb => ?_⟩
    have hT2 := (sb.2 _ (Nat.ne_of_gt hel)).trans hT
    have new : ObjOk X.prog X.w (upd H s.heap.objs.size (.tup [.int (i : Nat), x])) h'' s.heap.objs.size (.tup [.int (i : Nat), x]) :=
      ⟨by show 2 ≤ sizeLine; decide, [.int i tk, v], .cons ⟨_, rfl⟩ (.cons ru .nil), ⟨_, hT2, rfl, _, rfl⟩⟩
    have I1 : Inv X pins σ (upd H s.heap.objs.size (.tup [.int (i : Nat), x])) { s with heap := h'', toks := tk + 1 } :=
      I.turnedNew (ch := [e, it]) (fun b ob hb q => (sb.2 b (fun z => hb (by simp [z]))).trans (hk b ob (fun z => hb (by simp [z])) (fun z => hb (by simp [z])) q)) hf (Nat.le_refl _) new
    refine ⟨.ref s.heap.objs.size, _, I1, rfl, ⟨_, x, rfl, I.hok.fresh (Nat.le_refl _), rfl, fun ys hy => by rw [I.tuple_inj hy hq]; exact hx⟩, ⟨⟨v, ?_⟩, hst.1.at fun o q => (sb.2 it (Ne.symm hne)).trans q, hne⟩, fun b hb => ?_⟩
    · rw [show ((i + 1 : Nat) : Int) = (i : Int) + 1 by omega]
      exact he'
    · have hb' : b < s.heap.objs.size := by
        have z : b = e ∨ b = it := by simpa using hb
        rcases z with rfl | rfl <;> assumption
      rw [upd_ne (Nat.ne_of_lt hb')]
      exact (hf b hb).1
  done := by
    intro X hP hw hK hc i pins s σ H E I hf st hg
    subst hP hw hK
    obtain ⟨⟨old, he⟩, hit, hne⟩ := st
    obtain ⟨xs, hq, hx⟩ := hg
    obtain ⟨its, rv, p, hz⟩ := I.tuple hq
    obtain ⟨f0, f1, f2, f3, f4, f5⟩ := hf it (by simp)
    have hl := rv.length
    have hat : a ≠ it := by
      intro z
      subst z
      obtain ⟨o, q1, c1, _⟩ := hit
      obtain ⟨o', q2, c2, _⟩ := p
      rw [q1] at q2; cases q2
      exact absurd (Value.type.inj (c1.symm.trans c2)) (by decide)
    have D := Draws.tuple (prog := X.prog) (w := X.w) (A := X.A.in1) (I.ok.hd hc) it a hat its.toArray
    have hn : i = its.toArray.size := by simp; omega
    subst hn
    exact wpAny_pyNext_enum_endD D he ⟨hit, p⟩ fun h' eb => ⟨rfl, I.turned (t' := s.toks) (fun b o hb q => eb b o hb q) f0 f1 f3 f4 f5⟩
  self := fun A i s Q E st h => let ⟨⟨_, he⟩, _⟩ := st; wpAny_pyIter_enum he h
def iEnumT (K : PySem.W.Frag) (ta : TA) : TI := fun σ H R => ta σ H fun vs H1 => ∃ a xs, vs = [.ref a] ∧ SqT K H1 a xs ∧ R (IteT K a) H1
theorem pi_enumT {X : Cx} {e : Expr} {ta : TA} {p pos tpos : Pos} {elts : List Expr} {kk : Nat} (hg : Gl X "enumerate") (hm : X.mg "enumerate" = none) (ha : PA X [e] ta) (hs : starEach [e] X.env = [(false, eval e X.env)] := by rfl) :
    PI X (.Tuple elts kk tpos) (.Call (.Name "enumerate" p) [e] [] pos) (iEnumT X.K ta) := by
  refine ⟨fun pins s σ H R I h => ?_⟩
  refine Call_ (ld_blt I hg hm boot_enumerate (PyProof.Rows.callWith_type1 (thn (ha.run pos pins s σ H _ I h) fun us s1 ⟨vs, H1, I1, r1, q1⟩ => ?_) hs rfl))
  obtain ⟨a, xs, rfl, hq, q⟩ := q1
  cases r1 with
  | cons r rr =>
    cases rr
    cases r
    obtain ⟨its, rv, p', hz⟩ := I1.tuple hq
    refine call_enumT (show s1.heap.IsTuple a its.toArray from p') fun h' he hit hk => wpAny_pyIter_enum he ?_
    refine ⟨s1.heap.objs.size + 1, [s1.heap.objs.size + 1, s1.heap.objs.size], _, _, H1, rfl, I1.kept (t' := s1.toks) hk, turn_enumT a (s1.heap.objs.size + 1) s1.heap.objs.size, ⟨⟨.none, he⟩, hit, Nat.succ_ne_self _⟩, fun b hb => ?_, q⟩
    have hle : s1.heap.objs.size ≤ b := by
      have z : b = s1.heap.objs.size + 1 ∨ b = s1.heap.objs.size := by simpa using hb
      rcases z with rfl | rfl <;> omega
    exact I1.fpOk hle (I1.hok.fresh hle)
theorem walk_enumT {K : PySem.W.Frag} {a : Addr} {xs : List V} : Walk (IteT K a) xs.length (fun H => SqT K H a xs) (YPair (fun i => some (.int (i : Nat))) (fun i => xs[i]?)) := by
  refine ⟨fun i _ hi q => ⟨xs, xs[i], q, by simp [hi]⟩, fun _ q => ⟨xs, q, rfl⟩, fun i H v H' _ q y => ?_⟩
  obtain ⟨T, x, h1, h2, h3, h4⟩ := y
  exact ⟨T, .int (i : Nat), x, h1, h2, h3, rfl, h4 xs q⟩

/-! ### comprehensions whose items are data -/
theorem tYes_of {σ : L2.St} {H : Hp} {P R : Hp → Prop} (h : P H) : tYes σ H fun b H3 => if b = true then P H3 else R H3 := by
  show (if true = true then P H else R H)
  rw [if_pos rfl]
  exact h
/-- each turn gives data and leaves what stood; no test -/
theorem lc_dt {K : PySem.W.Frag} {J : It} {n : Nat} {G : Hp → Prop} {Y : Nat → Hp → V → Hp → Prop} (w : Walk J n G Y) {g : TG} {te : TE} {vs : List Nat} {σ : L2.St} {H : Hp} {D : Addr} {Qd : Hp → Prop} (hD : H D = none) (ds : List PyData) (hn : ds.length = n) (hz : n < sizeLine)
    (hG : ∀ H', Same H H' → G H')
    (hs : ∀ i x H1 H2 d (Nx : V → Hp → Prop), i < n → ds[i]? = some d → Same H H1 → (∃ acc, H1 D = some (.lst acc)) → Y i H1 x H2 → (∀ y H5, Same H1 H5 → Dt K H5 y d → Nx y H5) →
      g x (wipe σ vs) H2 fun σ2 H3 => wipe σ2 vs = wipe σ vs ∧ te σ2 H3 Nx)
    (hd : ∀ H' acc, Same H H' → H' D = some (.lst acc) → DtAll K H' acc ds → Qd H')
    (mono : ∀ x σ H Q Q', (∀ σ' H', Q σ' H' → Q' σ' H') → g x σ H Q → g x σ H Q') :
    ∃ W : Nat → Nat → Hp → Prop, (∃ m, W 0 m (upd H D (.lst []))) ∧ ∀ i m H, W i m H →
      (J.stop i H ∧ Qd H) ∨ (J.go i H ∧ ∃ Nx : Hp → Prop, (∀ H', Nx H' → ∃ m', m' < m ∧ W (i + 1) m' H') ∧ ∀ x H', J.yld i H x H' → g x (wipe σ vs) H' fun σ2 H2 => wipe σ2 vs = wipe σ vs ∧ tYes σ2 H2 fun b H3 =>
        if b = true then te σ2 H3 fun y H4 => ∃ acc, H4 D = some (.lst acc) ∧ acc.length < sizeLine ∧ Nx (upd H4 D (.lst (acc ++ [y]))) else Nx H3) := by
  refine lc_it w (fun i H' => ∃ acc, H' D = some (.lst acc) ∧ DtAll K H' acc (ds.take i) ∧ Same H H') ⟨[], upd_same, .nil, Same.new hD⟩ (fun i H' _ h => let ⟨_, _, _, s⟩ := h; hG H' s) (fun i x H1 H2 hi h y => ?_) fun H' h => ?_
  · obtain ⟨acc, a1, a2, a3⟩ := h
    have hi' : i < ds.length := by omega
    have hg := hs i x H1 H2 ds[i] (fun y H4 => ∃ acc, H4 D = some (.lst acc) ∧ acc.length < sizeLine ∧ ∃ acc', upd H4 D (.lst (acc ++ [y])) D = some (.lst acc') ∧ DtAll K (upd H4 D (.lst (acc ++ [y]))) acc' (ds.take (i + 1)) ∧ Same H (upd H4 D (.lst (acc ++ [y]))))
      hi (List.getElem?_eq_getElem hi') a3 ⟨acc, a1⟩ y fun y H5 s hy => ?_
    · exact mono _ _ _ _ _ (fun σ2 H3 q => ⟨q.1, tYes_of q.2⟩) hg
    · have b1 := s _ _ a1
      have kt : KeepT K H5 (upd H5 D (.lst (acc ++ [y]))) := KeepT.upd b1
      refine ⟨acc, b1, ?_, _, upd_same, ?_, fun b o e => ?_⟩
      · rw [a2.length, List.length_take]; omega
      · rw [List.take_succ, List.getElem?_eq_getElem hi']
        exact DtAll.app (DtAll.keepT (KeepT.trans (Same.keepT s) kt) a2) (.cons (Dt.keepT kt hy) .nil)
      · rw [upd_ne (ne_of_none e hD)]
        exact s _ _ (a3 _ _ e)
  · obtain ⟨acc, a1, a2, a3⟩ := h
    rw [← hn, List.take_length] at a2
    exact hd H' acc a3 a1 a2
theorem mono_name {i : Nat} : ∀ x (σ : L2.St) (H : Hp) (Q Q' : L2.St → Hp → Prop), (∀ σ' H', Q σ' H' → Q' σ' H') → gName i x σ H Q → gName i x σ H Q' := fun _ _ _ _ _ h q => h _ _ q
theorem mono_tup2 {K : PySem.W.Frag} {i j n : Nat} : ∀ x (σ : L2.St) (H : Hp) (Q Q' : L2.St → Hp → Prop), (∀ σ' H', Q σ' H' → Q' σ' H') → gTup K n (gCons (gName i) (gCons (gName j) gNil)) x σ H Q → gTup K n (gCons (gName i) (gCons (gName j) gNil)) x σ H Q' := by
  rintro x σ H Q Q' h ⟨a, xs, e1, e2, e3, v, r, e4, v', r', e5, e6, q⟩
  exact ⟨a, xs, e1, e2, e3, v, r, e4, v', r', e5, e6, h _ _ q⟩
end LK

set_option Elab.async false
set_option linter.all false
set_option maxRecDepth 100000
set_option maxHeartbeats 4000000
set_option exponentiation.threshold 3000
/-! More rules: text * int, two rules at one place, what == says of data. -/
namespace LK
open PySem PySem.Spec PyProof.Rows L2
theorem at_of' {α : Type} {xs : List α} {z : Int} {j : Nat} {v : α} (e : z = (j : Int)) (h : xs[j]? = some v) : atI xs z = some v := by
  rw [e]
  exact atI_nat h
/-- z repeated k times, by its codes -/
def repC (z : List Nat) (k : Int) : List Nat := (List.replicate k.toNat z).flatten
def repS (z : Str) (k : Int) : Str := ⟨(repC z.cps.toList k).toArray⟩
theorem repC_length (z : List Nat) (k : Int) : (repC z k).length = k.toNat * z.length := by simp [repC]
theorem foldl_arr (z : Array Nat) : ∀ (n : Nat) (acc : Array Nat), (List.replicate n z).foldl (· ++ ·) acc = acc ++ (List.replicate n z.toList).flatten.toArray
  | 0, acc => by simp
  | n + 1, acc => by
    rw [List.replicate_succ, List.foldl_cons, foldl_arr z n, List.replicate_succ, List.flatten_cons]
    apply Array.ext'
    simp
def rRepS : R2 := fun x y H Q => ∃ (z : Str) (k : Int), x = .str z ∧ y = .int k ∧ -1000000000000 ≤ k ∧ k < 1000000000000 ∧ z.length * k.toNat ≤ 1000000 ∧ Q (.str (repS z k)) H
theorem repS_arr (z : Str) (k : Int) : (⟨(List.replicate k.toNat z.cps).foldl (· ++ ·) #[]⟩ : Str) = repS z k := by
  rw [foldl_arr]
  simp [repS, repC]
theorem op_rep_str {X : Cx} : OpR X (binaryOp .Mult) rRepS := by
  intro pins s σ H x y v u Q I rx ry h
  obtain ⟨z, k, rfl, rfl, h1, h2, h3, q⟩ := h
  obtain ⟨t, rfl⟩ := rx
  obtain ⟨t', rfl⟩ := ry
  have szl : (1000000 : Nat) ≤ sizeLine := by decide
  have e1 : ¬ k < 1 → k = (k.toNat : Int) := fun h => by omega
  refine PySem.P.mul_str ?_ (fun hk hz => ?_) (fun hk hz => ?_) ?_
  · rw [decide_eq_false (by omega), decide_eq_false (by omega)]; rfl
  · have e0 : z.length ≠ 0 := fun e => by rw [e] at hz; simp at hz
    have hd : (9223372036854775807 : Int) / k ≥ 1000000 := by
      apply Int.le_ediv_of_mul_le (by omega)
      have hlen : k.toNat ≤ 1000000 := Nat.le_trans (Nat.le_mul_of_pos_left _ (by omega)) h3
      omega
    have hl : z.length ≤ 1000000 := Nat.le_trans (Nat.le_mul_of_pos_right _ (by omega)) h3
    show ¬ ((z.length : Int) > 9223372036854775807 / k)
    omega
  · unfold Builtin.Str.tooLong
    simp
    omega
  · split
    · rename_i hk
      have e : repS z k = Str.empty := by
        have : k.toNat = 0 := by omega
        simp [repS, repC, this]; rfl
      refine ⟨by decide, .str _, H, I.tok _, ⟨_, rfl⟩, ?_⟩
      rw [← e]; exact q
    · rename_i hk
      split
      · rename_i hz
        have e : repS z k = z := by
          rcases Bool.or_eq_true_iff.mp hz with h | h
          · have : k = 1 := by simpa using h
            subst this
            simp [repS, repC]
          · have : z.cps.toList = [] := by
              have : z.cps.size = 0 := by simpa [Str.length] using h
              exact List.eq_nil_of_length_eq_zero (by simpa using this)
            have e2 : (List.replicate k.toNat ([] : List Nat)).flatten = [] := by simp
            unfold repS repC
            rw [this, e2]
            cases z with
            | mk c =>
              have : c = #[] := Array.toList_inj.mp (by simpa using this)
              subst this; rfl
        refine ⟨.str _, H, I, ⟨t, rfl⟩, ?_⟩
        rw [← e]; exact q
      · rw [repS_arr]
        refine ⟨?_, .str _, H, I.tok _, ⟨_, rfl⟩, q⟩
        show (repC z.cps.toList k).toArray.size ≤ sizeLine
        rw [List.size_toArray, repC_length]
        have : z.cps.toList.length = z.length := by simp [Str.length]
        rw [this, Nat.mul_comm]; omega
/-! ### the objects at the beginning -/
def clsNames : List Str := ["Exception", "ArithmeticError", "ZeroDivisionError", "OverflowError", "LookupError", "IndexError", "KeyError", "NameError", "AttributeError", "TypeError", "ValueError", "StopIteration", "RuntimeError", "RecursionError", "MemoryError", "HostError"]
def clsBases : List Int := [-1, 1, 2, 2, 1, 5, 5, 1, 1, 1, 1, 1, 1, 13, 1, 1]
def builtNames : List Str := ["print", "len", "range", "repr", "str", "int", "list", "tuple", "dict", "iter", "next", "isinstance", "abs"]
def clsVar (i : Nat) (n : Str) : PyData := .tuple [.str n, .tuple [.str "ref", .int ((i : Int) + 1)]]
def nameVar (k n : Str) : PyData := .tuple [.str n, .tuple [.str k, .str n]]
def clsObj (n : Str) (b : Int) : PyData := .tuple [.str "class", .str n, .int b, .tuple []]
def clsVars : List PyData := clsNames.mapIdx clsVar
def startVars (hs : List Str) : List PyData := clsVars ++ builtNames.map (nameVar "built") ++ hs.map (nameVar "host")
def startD (hs : List Str) : List PyData := .tuple [.str "scope", .tuple (startVars hs), .tuple [], .tuple [], .int (-1), .bool false] :: List.zipWith clsObj clsNames clsBases
/-- a list at p, of the data ds -/
def ListAt (K : PySem.W.Frag) (H : Hp) (p : Addr) (ds : List PyData) : Prop := ∃ xs, H p = some (.lst xs) ∧ DtAll K H xs ds
def spStart (K : PySem.W.Frag) : Sp := fun vs H Q _ => ∃ (t : Addr) (hs : List Str), vs = [.ref t] ∧ SqT K H t (hs.map V.str) ∧ hs.length ≤ 1000 ∧
  ∀ (p : Addr) (H' : Hp), H p = none → Same H H' → ListAt K H' p (startD hs) → Q (.ref p) H'
theorem at0 {α : Type} {x : α} {ws : List α} : atI (x :: ws) 0 = some x := at_of' (j := 0) rfl rfl
theorem at1 {α : Type} {x y : α} {ws : List α} : atI (x :: y :: ws) 1 = some y := at_of' (j := 1) rfl rfl
theorem at2 {α : Type} {x y z : α} {ws : List α} : atI (x :: y :: z :: ws) 2 = some z := at_of' (j := 2) rfl rfl
/-- a written pair, triple as it is read -/
theorem Dt.head {K : PySem.W.Frag} {H : Hp} {v : V} {z : Str} {rest : List PyData} (h : Dt K H v (.tuple (.str z :: rest))) : ∃ a ws, v = .ref a ∧ SqT K H a (.str z :: ws) ∧ DtAll K H ws rest := by
  obtain ⟨q, xs, rfl, hs, ha⟩ := h.tuple_inv
  obtain ⟨x, ws, rfl, h1, hw⟩ := ha.cons_inv
  cases h1.str_inv
  exact ⟨q, ws, rfl, hs, hw⟩
theorem Dt.pair {K : PySem.W.Frag} {H : Hp} {v : V} {z : Str} {d : PyData} (h : Dt K H v (.tuple [.str z, d])) : ∃ a x, v = .ref a ∧ SqT K H a [.str z, x] ∧ Dt K H x d := by
  obtain ⟨a, ws, rfl, hs, hw⟩ := h.head
  obtain ⟨x, ws', rfl, h1, hn⟩ := hw.cons_inv
  cases hn.nil_inv
  exact ⟨a, x, rfl, hs, h1⟩
theorem Dt.triple {K : PySem.W.Frag} {H : Hp} {v : V} {z : Str} {d e : PyData} (h : Dt K H v (.tuple [.str z, d, e])) : ∃ a x y, v = .ref a ∧ SqT K H a [.str z, x, y] ∧ Dt K H x d ∧ Dt K H y e := by
  obtain ⟨a, ws, rfl, hs, hw⟩ := h.head
  obtain ⟨x, ws', rfl, h1, hn⟩ := hw.cons_inv
  obtain ⟨y, ws'', rfl, h2, hn2⟩ := hn.cons_inv
  cases hn2.nil_inv
  exact ⟨a, x, y, rfl, hs, h1, h2⟩
theorem listAt_mono {K : PySem.W.Frag} {H H' : Hp} {p : Addr} {ds : List PyData} (h : ListAt K H p ds) (e : Same H H') : ListAt K H' p ds := by
  obtain ⟨xs, hx, ax⟩ := h
  exact ⟨xs, e _ _ hx, DtAll.mono e ax⟩
theorem eqv_nil (ds : List PyData) : PyData.eqv (.tuple ds) (.tuple []) = ds.isEmpty := by
  cases ds <;> simp [PyData.eqv, PyData.eqvAll]
theorem listAt_upd {K : PySem.W.Frag} {H : Hp} {l l' : Addr} {ds : List PyData} {xs : List V} {o : HO} (h : ListAt K H l ds) (ne : l ≠ l') (hl : H l' = some (.lst xs)) : ListAt K (upd H l' o) l ds := by
  obtain ⟨ys, hy, ay⟩ := h
  exact ⟨ys, by rw [upd_ne ne]; exact hy, DtAll.keepT (KeepT.upd hl) ay⟩
theorem listAt_app {K : PySem.W.Frag} {H : Hp} {l : Addr} {ds : List PyData} {xs : List V} {v : V} {d : PyData} (h : ListAt K H l ds) (hl : H l = some (.lst xs)) (hd : Dt K H v d) : ListAt K (upd H l (.lst (xs ++ [v]))) l (ds ++ [d]) := by
  obtain ⟨ys, hy, ay⟩ := h
  rw [hl] at hy
  obtain rfl := HO.lst.inj (Option.some.inj hy)
  exact ⟨_, upd_same, DtAll.app (DtAll.keepT (KeepT.upd hl) ay) (.cons (Dt.keepT (KeepT.upd hl) hd) .nil)⟩
theorem listAt_keep {K : PySem.W.Frag} {H H' : Hp} {l p : Addr} {ds : List PyData} (h : ListAt K H l ds) (e : Keep p H H') (ne : l ≠ p) (hp : ∃ xs, H p = some (.lst xs)) : ListAt K H' l ds := by
  obtain ⟨ys, hy, ay⟩ := h
  exact ⟨ys, e _ _ hy ne, DtAll.keepT (Keep.keepT e hp) ay⟩
theorem listAt_made {K : PySem.W.Frag} {H : Hp} {l : Addr} {xs : List V} {ds : List PyData} (hl : H l = none) (h : DtAll K H xs ds) : ListAt K (upd H l (.lst xs)) l ds := ⟨xs, upd_same, DtAll.mono (Same.new hl) h⟩
/-! how long the objects at the beginning are, shown -/
def shortS (n : Str) : Bool := decide (n.length ≤ 40) && n.cps.toList.all (fun c => decide (c < 16 ^ 8))
theorem Sm.short {n : Str} (h : shortS n = true) : Sm (.str n) 0 500 := by
  obtain ⟨h1, h2⟩ := Bool.and_eq_true_iff.mp h
  exact (Sm.str (of_decide_eq_true h1) (strOk n h2)).mono (by decide) (by decide)
theorem cls_short : ∀ n ∈ clsNames, shortS n = true := by decide +kernel
theorem built_short : ∀ n ∈ builtNames, shortS n = true := by decide +kernel
theorem Sm.nm {k n : Str} (hk : shortS k = true) (hn : shortS n = true) : Sm (nameVar k n) 3 4000 :=
  (Sm.tup (.cons (Sm.short hn) (.cons (Sm.tup (.cons (Sm.short hk) (.cons (Sm.short hn) .nil))) .nil))).mono (by decide) (by decide)
theorem Sm.cv {i : Nat} {n : Str} (hi : i < 1000) (hn : shortS n = true) : Sm (clsVar i n) 3 4000 :=
  (Sm.tup (.cons (Sm.short hn) (.cons (Sm.tup (.cons (Sm.short (n := "ref") (by decide +kernel)) (.cons (Sm.int (Nat.lt_of_lt_of_le (show ((i : Int) + 1).natAbs < 2 ^ 20 by omega) (Nat.pow_le_pow_right (by decide) (by decide)))) .nil))) .nil))).mono (by decide) (by decide)
theorem Sm.co {b : Int} {n : Str} (hb : b.natAbs < 1000) (hn : shortS n = true) : Sm (clsObj n b) 3 4000 :=
  (Sm.tup (.cons (Sm.short (n := "class") (by decide +kernel)) (.cons (Sm.short hn) (.cons (Sm.int (Nat.lt_of_lt_of_le (show b.natAbs < 2 ^ 20 by omega) (Nat.pow_le_pow_right (by decide) (by decide)))) (.cons (Sm.tup .nil) .nil))))).mono (by decide) (by decide)
theorem SmAll.mem {ds : List PyData} {dp n N m M : Nat} (h : SmAll ds dp n N) (h1 : n ≤ m) (h2 : N ≤ M) : SmAll ds dp m M := ⟨h.ok, h.dp, Nat.le_trans h.len h1, Nat.le_trans h.sz h2⟩
theorem sm_vars {hs : List Str} {L : Nat} (h : ∀ n ∈ hs, shortS n = true) (hl : hs.length ≤ L) : SmAll (startVars hs) 3 (29 + L) (4000 * (29 + L)) := by
  have h1 : ∀ d ∈ startVars hs, Sm d 3 4000 := fun d hd => by
    rcases List.mem_append.mp hd with hd | hd
    · rcases List.mem_append.mp hd with hd | hd
      · obtain ⟨i, hi, rfl⟩ := List.mem_mapIdx.mp hd
        exact Sm.cv (Nat.lt_trans hi (by decide)) (cls_short _ (List.getElem_mem hi))
      · obtain ⟨n, hn, rfl⟩ := List.mem_map.mp hd
        exact Sm.nm (by decide +kernel) (built_short n hn)
    · obtain ⟨n, hn, rfl⟩ := List.mem_map.mp hd
      exact Sm.nm (by decide +kernel) (h n hn)
  have hlen : (startVars hs).length = 29 + hs.length := by
    simp only [startVars, List.length_append, List.length_map]
    have : clsVars.length = 16 := by decide
    have : builtNames.length = 13 := by decide
    omega
  exact (SmAll.many h1).mem (by omega) (by omega)
theorem sm_start {hs : List Str} {L : Nat} (h : ∀ n ∈ hs, shortS n = true) (hl : hs.length ≤ L) : ∀ d ∈ startD hs, Sm d 5 (5000 * (30 + L)) := fun d hd => by
  rcases List.mem_cons.mp hd with rfl | hd
  · exact (Sm.tup (.cons (Sm.short (n := "scope") (by decide +kernel)) (.cons (Sm.tup (sm_vars h hl)) (.cons (Sm.tup .nil) (.cons (Sm.tup .nil) (.cons (Sm.int (by decide)) (.cons (Sm.bool false) .nil))))))).mono (by decide) (by omega)
  · have : ∃ n b, d = clsObj n b ∧ n ∈ clsNames ∧ b.natAbs < 1000 := by
      have key : ∀ q ∈ List.zip clsNames clsBases, q.1 ∈ clsNames ∧ q.2.natAbs < 1000 := by decide +kernel
      rw [← List.map_uncurry_zip_eq_zipWith] at hd
      obtain ⟨q, hq, rfl⟩ := List.mem_map.mp hd
      exact ⟨q.1, q.2, rfl, key q hq⟩
    obtain ⟨n, b, rfl, hn, hb⟩ := this
    exact (Sm.co hb (cls_short n hn)).mono (by decide) (by omega)
theorem start_cls {hs : List Str} {k : Nat} (h1 : 1 ≤ k) (h2 : k ≤ 16) : ∃ rest, (startD hs)[k]? = some (.tuple (.str "class" :: rest)) := by
  obtain ⟨j, rfl⟩ : ∃ j, k = j + 1 := ⟨k - 1, by omega⟩
  have l1 : clsNames.length = 16 := by decide
  have l2 : clsBases.length = 16 := by decide
  refine ⟨[.str clsNames[j]!, .int clsBases[j]!, .tuple []], ?_⟩
  have e1 : clsNames[j]? = some clsNames[j]! := by rw [List.getElem!_eq_getElem?_getD]; rw [List.getElem?_eq_getElem (by omega)]; rfl
  have e2 : clsBases[j]? = some clsBases[j]! := by rw [List.getElem!_eq_getElem?_getD]; rw [List.getElem?_eq_getElem (by omega)]; rfl
  show (List.zipWith clsObj clsNames clsBases)[j]? = _
  rw [List.getElem?_zipWith, e1, e2]
  rfl
end LK

set_option Elab.async false
set_option linter.all false
set_option maxRecDepth 100000
set_option maxHeartbeats 4000000
set_option exponentiation.threshold 3000
/-! tuple * 1; rows: texts or tuples at one place; the type of what is read as a tuple; data equal to itself. -/
namespace LK
open PySem PySem.Spec PyProof.Rows L2
theorem tuple_mul1 (l : Addr) (items : Array Value) (n : Nat) (dd : Option Addr) (sl : Array (Option Value)) (u : Tok) :
    Meets (Builtin.«tuple.__mul__» ⟨[.ref l, .int 1 u], []⟩) (fun _ R s => s.heap.get? l = some { cls := .type "tuple", dict := dd, data := .seq items n, slots := sl } ∧ R (.ok (.ret (Value.ref l))) s) :=
  .of_wp fun prog w A R s h => by
    obtain ⟨hp, g, d, tk, os⟩ := s
    obtain ⟨hl, h⟩ := h
    have f1 := AutoSeq1.idx_int
    have c0 : (decide ((1 : Int) < -(2 ^ 63)) || decide ((1 : Int) ≥ 2 ^ 63)) = false := by decide
    have c1 : (items.isEmpty || (1 : Int) == 1) = true := by simp
    wp_walk using wpAny_loadPart' hl
    exact ⟨_, rfl, h⟩
/-- a tuple times an int from 1 to 1000 -/
def rRepTA (K : PySem.W.Frag) : R2 := fun x y H Q => ∃ l k xs, x = .ref l ∧ y = .int k ∧ SqT K H l xs ∧ xs ≠ [] ∧ 1 ≤ k ∧ k ≤ 1000 ∧ xs.length ≤ 1000 ∧ (k = 1 → Q (.ref l) H) ∧ (k ≠ 1 → ∀ p, H p = none → Q (.ref p) (upd H p (.tup (List.replicate k.toNat xs).flatten)))
section
variable {X : Cx}
theorem op_repTA : OpR X (binaryOp .Mult) (rRepTA X.K) := by
  intro pins s σ H x y v u Q I rx ry h
  obtain ⟨l, k, xs, rfl, rfl, hT, hne, h1, h2, hz, q1, q2⟩ := h
  by_cases hk : k = 1
  · subst hk
    cases rx
    obtain ⟨t, rfl⟩ := ry
    obtain ⟨its, r, ⟨⟨cls, dd, data, sl⟩, ho, hc, n, hd⟩, hs⟩ := I.tuple hT
    simp only at hc hd
    subst hc hd
    refine wpAny_binaryOp_repeat_ref (T := "tuple") (U := "int") (by decide) ⟨_, ho, rfl⟩ (fun s' => typeIs_int s' 1 t) noFill_tuple_mul F.fills_int_mul F.slot_int_rmul repeat_tuple F.slot_int_index.lookup
      (call_meets F.slot_int_rmul (typeIs_int s 1 t) F.entry_int_rmul (F.args_int_rmul_2 _ _) (int_rmul_tuple 1 t l its.toArray n dd sl)
        ⟨ho, rfl, ⟨_, ho, rfl⟩, call_meets F.slot_tuple_mul ⟨_, ho, rfl⟩ F.entry_tuple_mul (F.args_tuple_mul_2 _ _) (tuple_mul1 l its.toArray n dd sl t) ⟨ho, ?_⟩⟩)
    exact ⟨.ref l, H, I, rfl, q1 rfl⟩
  · exact op_repT pins s σ H _ _ v u Q I rx ry ⟨l, k, xs, rfl, rfl, hT, hne, by omega, h2, hz, q2 hk⟩
end
theorem SqT.tyX {K : PySem.W.Frag} {H : Hp} {a : Addr} {xs : List V} (h : SqT K H a xs) : TyX K H (.ref a) (.type "tuple") := by
  rcases h with (h | ⟨o, h⟩) | ⟨o, its, n, e, c, _⟩
  · exact .base (.tup h)
  · exact .fTuple h
  · exact .kTuple e c
/-! ### data equal to itself -/
mutual
theorem eqv_self : ∀ {d : PyData}, d.canLay0 = true → PyData.eqv d d = true
  | .none, _ => by simp [PyData.eqv]
  | .bool _, _ => by simp [PyData.eqv]
  | .int _, _ => by simp [PyData.eqv]
  | .str _, _ => by simp [PyData.eqv]
  | .list xs, h => by rw [PyData.eqv]; exact eqvAll_self (by simpa [PyData.canLay0] using h)
  | .tuple xs, h => by rw [PyData.eqv]; exact eqvAll_self (by simpa [PyData.canLay0] using h)
  | .dict _, h => absurd h (by simp [PyData.canLay0])
theorem eqvAll_self : ∀ {xs : List PyData}, PyData.canLayAll0 xs = true → PyData.eqvAll xs xs = true
  | [], _ => by simp [PyData.eqvAll]
  | x :: xs, h => by
    rw [PyData.canLayAll0, Bool.and_eq_true] at h
    rw [PyData.eqvAll, eqv_self h.1, eqvAll_self h.2]; rfl
end
theorem canLayAll0_of {ds : List PyData} (h : ∀ d ∈ ds, d.canLay0 = true) : PyData.canLayAll0 ds = true := by
  induction ds with
  | nil => rfl
  | cons d ds ih => rw [PyData.canLayAll0, h d (by simp), ih fun e he => h e (List.mem_cons_of_mem _ he)]; rfl
theorem depthAll_of {ds : List PyData} {n : Nat} (h : ∀ d ∈ ds, d.depth ≤ n) : PyData.depthAll ds ≤ n := by
  induction ds with
  | nil => exact Nat.zero_le _
  | cons d ds ih => rw [PyData.depthAll]; exact Nat.max_le.mpr ⟨h d (by simp), ih fun e he => h e (List.mem_cons_of_mem _ he)⟩
/-! ### rows: a text, or a tuple of small ints -/
def Item (d : PyData) : Prop := ∃ i : Int, d = .tuple [.str "int", .int i] ∧ 0 ≤ i ∧ i < 11
def Low (z : Str) : Prop := ∀ c ∈ z.cps.toList, c < 128
inductive Row : Bool → PyData → Nat → Prop
  | txt {z : Str} {n : Nat} : z.length = n → Low z → Row true (.str z) n
  | tup {ds : List PyData} {n : Nat} : ds.length = n → (∀ d ∈ ds, Item d) → Row false (.tuple ds) n
def catD : PyData → PyData → PyData
  | .str a, .str b => .str (a ++ b)
  | .tuple a, .tuple b => .tuple (a ++ b)
  | a, _ => a
def repD (d : PyData) (k : Int) : PyData := match d with
  | .str a => .str (repS a k)
  | .tuple a => .tuple (List.replicate k.toNat a).flatten
  | a => a
def noneD : PyData → PyData
  | .str a => .str (cutS a none (some 0))
  | .tuple _ => .tuple []
  | a => a
theorem len_app (a b : Str) : (a ++ b).length = a.length + b.length := strLen_append a b
theorem len_rep (z : Str) (k : Int) : (repS z k).length = z.length * k.toNat := by
  show (repC z.cps.toList k).toArray.size = _
  rw [List.size_toArray, repC_length, Nat.mul_comm]
  simp [Str.length]
theorem Low.app {a b : Str} (h : Low a) (g : Low b) : Low (a ++ b) := by
  intro c hc
  have e : (a ++ b).cps.toList = a.cps.toList ++ b.cps.toList := by
    show (a.cps ++ b.cps).toList = _
    simp
  rw [e] at hc
  rcases List.mem_append.mp hc with hc | hc
  · exact h c hc
  · exact g c hc
theorem Low.rep {a : Str} (h : Low a) (k : Int) : Low (repS a k) := by
  intro c hc
  have hc : c ∈ (List.replicate k.toNat a.cps.toList).flatten := by simpa [repS, repC] using hc
  obtain ⟨l, hl, hcl⟩ := List.mem_flatten.mp hc
  exact h c (List.eq_of_mem_replicate hl ▸ hcl)
theorem Low.cut {a : Str} (h : Low a) (lo hi : Option Int) : Low (cutS a lo hi) := by
  intro c hc
  have hc : c ∈ (a.cps.toList.drop (HT.sIx a.length 0 lo)).take (HT.sIx a.length a.length hi - HT.sIx a.length 0 lo) := hc
  exact h c (List.mem_of_mem_drop (List.mem_of_mem_take hc))
theorem cut_to (a : Str) (m : Nat) : (cutS a none (some (m : Int))).length ≤ m := by
  show ((a.cps.toList.drop (HT.sIx a.length 0 none)).take (HT.sIx a.length a.length (some (m : Int)) - HT.sIx a.length 0 none)).toArray.size ≤ m
  rw [List.size_toArray, List.length_take, HT.sIx_nat]
  omega
theorem Row.cat {t : Bool} {a b : PyData} {n m : Nat} (h : Row t a n) (g : Row t b m) : Row t (catD a b) (n + m) := by
  cases h with
  | txt e l =>
    cases g with
    | txt e2 l2 => exact .txt (by rw [len_app, e, e2]) (l.app l2)
  | tup e l =>
    cases g with
    | tup e2 l2 => exact .tup (by rw [List.length_append, e, e2]) fun d hd => (List.mem_append.mp hd).elim (l d) (l2 d)
theorem Row.rep {t : Bool} {a : PyData} {n : Nat} (h : Row t a n) (k : Int) : Row t (repD a k) (n * k.toNat) := by
  cases h with
  | txt e l => exact .txt (by rw [len_rep, e]) (l.rep k)
  | tup e l =>
    refine .tup (by rw [PyProof.Rows.lm_len_rep_flat, e, Nat.mul_comm]) fun d hd => ?_
    obtain ⟨x, hx, hdx⟩ := List.mem_flatten.mp hd
    exact l d (List.eq_of_mem_replicate hx ▸ hdx)
theorem Row.none {t : Bool} {a : PyData} {n : Nat} (h : Row t a n) : Row t (noneD a) 0 := by
  cases h with
  | @txt z _ e l => exact .txt (Nat.le_zero.mp (cut_to z 0)) (l.cut _ _)
  | tup e l => exact .tup rfl fun d hd => by cases hd
theorem Item.sm {d : PyData} (h : Item d) : Sm d 1 3000 := by
  obtain ⟨i, rfl, h0, h1⟩ := h
  exact (Sm.tup (.cons (Sm.short (n := "int") (by decide +kernel)) (.cons (Sm.int (Nat.lt_of_lt_of_le (show i.natAbs < 2 ^ 20 by omega) (Nat.pow_le_pow_right (by decide) (by decide)))) .nil))).mono (by decide) (by decide)
theorem Row.sm {t : Bool} {d : PyData} {n : Nat} (h : Row t d n) (hn : n ≤ 1000) : Sm d 2 3100000 := by
  cases h with
  | txt e l => exact (Sm.str (n := 1000) (by omega) fun c hc => Nat.lt_of_lt_of_le (l c hc) (by decide)).mono (by decide) (by decide)
  | tup e l => exact (Sm.tup ((SmAll.many fun d hd => (l d hd).sm).mem (m := 1000) (M := 3000000) (by omega) (by omega))).mono (by decide) (by decide)
theorem Row.lay {t : Bool} {d : PyData} {n : Nat} (h : Row t d n) : d.canLay0 = true := by
  cases h with
  | @txt z _ e l =>
    rw [PyData.canLay0]
    exact Array.all_eq_true_iff_forall_mem.mpr fun c hc => by
      have := l c (Array.mem_toList_iff.mpr hc)
      exact decide_eq_true (by omega)
  | tup e l =>
    rw [PyData.canLay0]
    exact canLayAll0_of fun d hd => by obtain ⟨i, rfl, _⟩ := l d hd; simp only [PyData.canLay0, PyData.canLayAll0, Bool.and_true]; decide +kernel
section
variable {X : Cx}
/-- a + b, two rows -/
def rCatD (K : PySem.W.Frag) : R2 := fun x y H Q => ∃ (t : Bool) (a b : PyData) (n m : Nat), Row t a n ∧ Row t b m ∧ Dt K H x a ∧ Dt K H y b ∧ n + m ≤ 2000 ∧ ∀ v H', Same H H' → Dt K H' v (catD a b) → Q v H'
theorem op_catD : OpR X (binaryOp .Add) (rCatD X.K) := by
  intro pins s σ H x y v u Q I rx ry h
  obtain ⟨t, a, b, n, m, ha, hb, da, db, hz, q⟩ := h
  cases ha with
  | txt e l =>
    cases hb with
    | txt e2 l2 =>
      cases da.str_inv; cases db.str_inv
      exact op_add_str pins s σ H _ _ v u Q I rx ry ⟨_, _, rfl, rfl, by rw [e, e2]; exact Nat.le_trans hz (by decide), q _ _ (Same.refl _) (.str _)⟩
  | @tup ds _ e l =>
    cases hb with
    | @tup es _ e2 l2 =>
      obtain ⟨p, xs, rfl, hs, ax⟩ := da.tuple_inv
      obtain ⟨p2, ys, rfl, hs2, ay⟩ := db.tuple_inv
      have lx := ax.length
      have ly := ay.length
      refine op_catA pins s σ H _ _ v u Q I rx ry ⟨p, p2, xs, ys, rfl, rfl, hs, hs2, by rw [lx, ly, e, e2]; exact Nat.le_trans hz (by decide), fun h0 => ?_, fun _ h0 => ?_, fun _ _ z hz => ?_⟩
      · subst h0
        have : ds = [] := List.eq_nil_of_length_eq_zero (by rw [← lx]; rfl)
        subst this
        exact q _ _ (Same.refl _) db
      · subst h0
        have : es = [] := List.eq_nil_of_length_eq_zero (by rw [← ly]; rfl)
        subst this
        refine q _ _ (Same.refl _) ?_
        show Dt X.K H (.ref p) (.tuple (ds ++ []))
        rw [List.append_nil]; exact da
      · exact q _ _ (Same.new hz) (Dt.made hz (DtAll.app ax ay))
/-- a * k, a row and an int -/
def rRepD (K : PySem.W.Frag) : R2 := fun x y H Q => ∃ (t : Bool) (a : PyData) (n : Nat) (k : Int), Row t a n ∧ Dt K H x a ∧ y = .int k ∧ 1 ≤ n ∧ 1 ≤ k ∧ n * k ≤ 1000 ∧ ∀ v H', Same H H' → Dt K H' v (repD a k) → Q v H'
theorem dtRep {K : PySem.W.Frag} {H : Hp} {xs : List V} {ds : List PyData} (h : DtAll K H xs ds) : ∀ m : Nat, DtAll K H (List.replicate m xs).flatten (List.replicate m ds).flatten
  | 0 => .nil
  | m + 1 => by
    rw [List.replicate_succ, List.flatten_cons, List.replicate_succ, List.flatten_cons]
    exact DtAll.app h (dtRep h m)
theorem op_repD : OpR X (binaryOp .Mult) (rRepD X.K) := by
  intro pins s σ H x y v u Q I rx ry h
  obtain ⟨t, a, n, k, ha, da, rfl, hn, hk, hz, q⟩ := h
  have k1 : k ≤ 1000 := by
    have : 1 * k ≤ n * k := Int.mul_le_mul_of_nonneg_right (by omega) (by omega)
    omega
  have n1 : n ≤ 1000 := by
    have : (n : Int) * 1 ≤ n * k := Int.mul_le_mul_of_nonneg_left hk (by omega)
    omega
  cases ha with
  | txt e l =>
    cases da.str_inv
    refine op_rep_str pins s σ H _ _ v u Q I rx ry ⟨_, k, rfl, rfl, by omega, by omega, ?_, q _ _ (Same.refl _) (.str _)⟩
    rw [e]
    exact Nat.le_trans (Nat.mul_le_mul n1 (show k.toNat ≤ 1000 by omega)) (by decide)
  | @tup ds _ e l =>
    obtain ⟨p, xs, rfl, hs, ax⟩ := da.tuple_inv
    have lx := ax.length
    refine op_repTA pins s σ H _ _ v u Q I rx ry ⟨p, k, xs, rfl, rfl, hs, fun z => ?_, hk, k1, by omega, fun h1 => ?_, fun h1 z hz => ?_⟩
    · subst z
      rw [List.length_nil] at lx
      omega
    · subst h1
      refine q _ _ (Same.refl _) ?_
      show Dt X.K H (.ref p) (.tuple (List.replicate 1 ds).flatten)
      rw [show (List.replicate 1 ds).flatten = ds by simp]
      exact da
    · exact q _ _ (Same.new hz) (Dt.made hz (dtRep ax _))
/-- a[:0], a row -/
def rNoneD (K : PySem.W.Frag) : V → Option Int → Option Int → Hp → VK → Prop := fun x lo hi H Q => ∃ (t : Bool) (a : PyData) (n : Nat), Row t a n ∧ Dt K H x a ∧ n ≤ 2000 ∧ lo = none ∧ hi = some 0 ∧ ∀ v H', Same H H' → Dt K H' v (noneD a) → Q v H'
theorem sl_noneD : SlR X (rNoneD X.K) := by
  intro pins s σ H x v vl vu lo hi sl Q I rx hs pl pu h
  obtain ⟨t, a, n, ha, da, hn, rfl, rfl, q⟩ := h
  cases ha with
  | txt e l =>
    cases da.str_inv
    exact sl_str pins s σ H _ v vl vu _ _ sl Q I rx hs pl pu ⟨_, rfl, by rw [e]; exact Nat.le_trans hn (by decide), q _ _ (Same.refl _) (.str _)⟩
  | @tup ds _ e l =>
    obtain ⟨p, xs, rfl, hq, ax⟩ := da.tuple_inv
    have lx := ax.length
    refine sl_tupA pins s σ H _ v vl vu _ _ sl Q I rx hs pl pu ⟨p, xs, rfl, hq, fun hw => ?_, fun _ z hz => ?_⟩
    · have h0 : ds.length = 0 := by
        have := hw.2
        rw [show (some (0 : Int)) = some ((0 : Nat) : Int) from rfl, HT.sIx_nat] at this
        omega
      have := List.eq_nil_of_length_eq_zero h0
      subst this
      exact q _ _ (Same.refl _) da
    · refine q _ _ (Same.new hz) (Dt.made hz ?_)
      have : cutV xs none (some 0) = [] := by
        apply List.eq_nil_of_length_eq_zero
        unfold cutV
        rw [List.length_take, show (some (0 : Int)) = some ((0 : Nat) : Int) from rfl, HT.sIx_nat]
        omega
      rw [this]
      exact .nil
/-- len(a), a row -/
def rLenD (K : PySem.W.Frag) : List V → Hp → VK → Prop := fun vs H Q => ∃ (v : V) (t : Bool) (a : PyData) (n : Nat), vs = [v] ∧ Row t a n ∧ Dt K H v a ∧ n ≤ 2000 ∧ Q (.int (n : Int)) H
theorem call_lenD' : CallR X (.builtin "len") (rLenD X.K) := by
  intro pins s σ H xs us Q I r h
  obtain ⟨v, t, a, n, rfl, ha, da, hn, q⟩ := h
  cases ha with
  | txt e l =>
    cases da.str_inv
    exact call_len pins s σ H _ us Q I r ⟨_, n, rfl, ⟨by rw [e]; exact Nat.le_trans hn (by decide), e.symm⟩, q⟩
  | @tup ds _ e l =>
    obtain ⟨p, ys, rfl, hq, ax⟩ := da.tuple_inv
    exact call_len pins s σ H _ us Q I r ⟨_, n, rfl, .inr ⟨_, hq, by rw [ax.length, e]⟩, q⟩
end
end LK

set_option Elab.async false
set_option linter.all false
set_option maxRecDepth 100000
set_option maxHeartbeats 4000000
set_option exponentiation.threshold 3000
/-! Letters, digits, underscores; texts of the top. -/
namespace LK
open PySem PySem.Spec PyProof.Rows L2 SX
def isD (c : Nat) : Bool := decide (48 ≤ c) && decide (c ≤ 57)
def isL (c : Nat) : Bool := (decide (65 ≤ c) && decide (c ≤ 90)) || (decide (97 ≤ c) && decide (c ≤ 122)) || c == 95
def isW (c : Nat) : Bool := isD c || isL c
theorem isW_lt {c : Nat} (h : isW c = true) : c < 128 := by
  simp [isW, isD, isL] at h; omega
theorem uni_alpha : ∀ c < 128, Unicode.isAlpha c = (isL c && c != 95) := by decide +kernel
theorem uni_digit : ∀ c < 128, Unicode.isDigit c = isD c := by decide +kernel
theorem uni_alnum : ∀ c < 128, Unicode.isAlnum c = (isW c && c != 95) := by decide +kernel
theorem alpha1 {c : Nat} (h : c < 128) : Txt.isalpha (S [c]) = (isL c && c != 95) := by
  show (decide ((S [c]).length > 0) && (S [c]).cps.all Unicode.isAlpha) = _
  rw [S_len]; simp [S, uni_alpha c h]
theorem digit1 {c : Nat} (h : c < 128) : Txt.isdigit (S [c]) = isD c := by
  show (decide ((S [c]).length > 0) && (S [c]).cps.all Unicode.isDigit) = _
  rw [S_len]; simp [S, uni_digit c h]
theorem alnum1 {c : Nat} (h : c < 128) : Txt.isalnum (S [c]) = (isW c && c != 95) := by
  show (decide ((S [c]).length > 0) && (S [c]).cps.all Unicode.isAlnum) = _
  rw [S_len]; simp [S, uni_alnum c h]
theorem digitS {a : List Nat} (h : ∀ c ∈ a, c < 128) (hne : a ≠ []) : Txt.isdigit (S a) = a.all isD := by
  show (decide ((S a).length > 0) && (S a).cps.all Unicode.isDigit) = _
  have : 0 < a.length := List.length_pos_iff.mpr hne
  rw [S_len, decide_eq_true this, Bool.true_and]
  show a.toArray.all Unicode.isDigit = _
  rw [List.all_toArray]
  apply Bool.eq_iff_iff.mpr
  rw [List.all_eq_true, List.all_eq_true]
  exact ⟨fun g c hc => uni_digit c (h c hc) ▸ g c hc, fun g c hc => (uni_digit c (h c hc)).symm ▸ g c hc⟩
/-! texts of the top -/
def GStr (mg : Str → Option Value) (x : Str) (z : Str) : Prop := ∃ t, mg x = some (.str z t)
def HasStr (K : PySem.W.Frag) (x : Str) (p : Str → Prop) : Prop := ∃ (z : Str) (t : Tok), PySem.W.nsIn K mainGlobals x = some (some (.str z t)) ∧ p z
theorem HasStr.mk' {K : PySem.W.Frag} {x : Str} {p : Str → Prop} {z : Str} {t : Tok} (a : PySem.W.nsIn K mainGlobals x = some (some (.str z t))) (b : p z) : HasStr K x p := ⟨z, t, a, b⟩
theorem HasStr.g {K : PySem.W.Frag} {mg : Str → Option Value} {h : Heap} {x : Str} {p : Str → Prop} (i : HasStr K x p) (X : K.In h) (G : h.Ns mainGlobals mg) : ∃ z, GStr mg x z ∧ p z := by
  obtain ⟨z, t, e, hp⟩ := i
  exact ⟨z, ⟨t, PySem.W.mg_of X G e⟩, hp⟩
theorem pe_globS {X : Cx} {x z : Str} {pos : Pos} (h : GStr X.mg x z) (hg : Gl X x) (hd : (x == ("__debug__" : Str)) = false := by decide) : PE X (.Name x pos) (tC (.str z)) := by
  obtain ⟨t, e⟩ := h
  exact pe_glob hg e ⟨t, rfl⟩ hd
theorem split1 {a : List Nat} {c : Nat} (h : c ∉ a) (hc : c < 256) : Txt.split (S a) (S [c]) = [S a] := by
  rw [split_S (by simp) (by simpa using hc)]
  have := SX.spl_join (c := c) (sep := []) (parts := [a]) (by simp) (by simpa using h)
  have e : TL.joinL [c] [a] = a := by simp [TL.joinL]
  rw [e] at this
  rw [this]; rfl
theorem lstrip1 {a : List Nat} {b : List Nat} (h : ∀ c, a.head? = some c → c ∉ b) : Txt.lstripChars (S a) (S b) = S a := by
  have e1 : (S a).cps.toList.takeWhile (S b).cps.contains = [] := tw0 a fun c hc => by
    have := h c hc
    show b.toArray.contains c = false
    rw [List.contains_toArray]
    simpa using this
  have e0 : stripLo (S b).cps.contains true (S a) = 0 := by
    unfold stripLo
    rw [if_pos rfl, e1] <;> rfl
  have e3 : stripHi (S b).cps.contains false (S a) 0 = (S a).length := by
    unfold stripHi
    rw [if_neg Bool.false_ne_true]
  unfold Txt.lstripChars Txt.stripBy stripSame
  rw [e0, e3]
  exact if_pos (by simp)
/-! while, its test's reading made monotone -/
def tUp (c : TT) : TT := fun σ H Q => ∃ P : Bool → Hp → Prop, c σ H P ∧ ∀ b H1, P b H1 → Q b H1
theorem pt_up {X : Cx} {e : Expr} {c : TT} (h : PT X e c) : PT X e (tUp c) :=
  ⟨fun pins s σ H Q I ⟨P, hP, k⟩ => thn (h.run pins s σ H P I hP) fun b s1 ⟨H1, I1, q⟩ => ⟨H1, I1, k _ _ q⟩⟩
theorem while_up {c : TT} {tb : TS} {D : Ends} {σ : L2.St} {H : Hp} (Pv : L2.St → Hp → Prop) (μ : L2.St → Hp → Nat) (h0 : Pv σ H)
    (hs : ∀ σ H, Pv σ H → c σ H fun b H1 => if b = true then tb { D with nx := fun σ' H' => Pv σ' H' ∧ μ σ' H' < μ σ H, ct := fun σ' H' => Pv σ' H' ∧ μ σ' H' < μ σ H, bk := D.nx } σ H1 else D.nx σ H1) : tWhile (tUp c) tb D σ H :=
  while_by Pv μ h0 (fun σ H p => ⟨_, hs σ H p, fun _ _ h => h⟩) (fun σ H Q Q' hq ⟨P, hP, k⟩ => ⟨P, hP, fun b H1 h => hq b H1 (k b H1 h)⟩)
theorem nl_S : ("\n" : Str) = S [10] := by decide +kernel
theorem us_S : ("_" : Str) = S [95] := by decide +kernel
theorem sp_S : (" " : Str) = S [32] := by decide +kernel
theorem hash_S : ("#" : Str) = S [35] := by decide +kernel
theorem sign_eq {c d : Nat} : decide (V.str ⟨#[c]⟩ = V.str (S [d])) = decide (c = d) := by
  by_cases h : c = d
  · subst h; rw [decide_eq_true rfl, decide_eq_true rfl]
  · rw [decide_eq_false h, decide_eq_false]
    intro e
    have := S_inj (a := [c]) (b := [d]) (V.str.inj e)
    exact h (by simpa using this)
theorem str_eq {a b : List Nat} : decide (V.str (S a) = V.str (S b)) = decide (a = b) := by
  by_cases h : a = b
  · subst h; rw [decide_eq_true rfl, decide_eq_true rfl]
  · rw [decide_eq_false h, decide_eq_false]
    intro e
    exact h (S_inj (V.str.inj e))
theorem starts1 {c d : Nat} {r : List Nat} : Txt.startswith (S (c :: r)) (S [d]) = decide (c = d) := by
  show (decide (0 + (S [d]).length ≤ (S (c :: r)).length) && ((c :: r).toArray.extract 0 (0 + (S [d]).length) == [d].toArray)) = _
  rw [S_len, S_len]
  have e : (c :: r).toArray.extract 0 (0 + [d].length) = #[c] := by simp
  rw [e]
  by_cases h : c = d
  · subst h; simp
  · simp [h]
theorem at_S {a : List Nat} {j c : Nat} (h : a[j]? = some c) : atI (S a).cps.toList (j : Int) = some c := atI_nat h
theorem cut_all {a : List Nat} : cutS (S a) (some 0) (some ((a.length : Nat) : Int)) = S a := by
  unfold cutS
  rw [S_len, show (some (0 : Int)) = some ((0 : Nat) : Int) from rfl, HT.sIx_nat, HT.sIx_nat]
  show (⟨((a.drop (min 0 a.length)).take (min a.length a.length - min 0 a.length)).toArray⟩ : Str) = ⟨a.toArray⟩
  rw [Nat.zero_min, List.drop_zero, Nat.min_self, Nat.sub_zero, List.take_length]
/-! a promise at a higher level -/
theorem FnG.mono {P : Program} {w : World} {K : PySem.W.Frag} {mg : Str → Option Value} {base : Heap} {CX : CXT} {j k : Nat} {f : Addr} {fd : FuncData} {ps : List Str} {sp : Sp} (F : FnG P w K mg base CX j f fd ps sp) (h : j ≤ k) : FnG P w K mg base CX k f fd ps sp :=
  ⟨F.len, fun A outer s H args us vs Q E hr => F.run A outer s H args us vs Q E (hr.mono h)⟩
theorem Use.mono {P : Program} {w : World} {K : PySem.W.Frag} {mg : Str → Option Value} {base : Heap} {CX : CXT} {x : Str} {j k : Nat} {ps : List Str} {sp : Sp} (U : Use P w K mg base CX x j ps sp) (h : j ≤ k) : Use P w K mg base CX x k ps sp := by
  obtain ⟨f, fd, ok, r⟩ := U.ex
  exact ⟨f, fd, ok.mono h, r⟩
/-! the signs that a program may hold -/
def okC (c : Nat) : Bool := c == 10 || (decide (32 ≤ c) && decide (c ≤ 126) && c != 37)
theorem okC_lt {c : Nat} (h : okC c = true) : c < 128 := by
  simp [okC] at h; omega
theorem lstrip_sp (a : List Nat) : Txt.lstripChars (S a) (S [32]) = S (a.dropWhile (· == 32)) := by
  have e1 : (S a).cps.toList.takeWhile (S [32]).cps.contains = a.takeWhile (· == 32) := by
    show a.takeWhile _ = _
    congr 1
    funext c
    show #[32].contains c = _
    simp [Array.contains, BEq.comm]
  have el : (a.takeWhile (· == 32)).length ≤ a.length := (List.takeWhile_prefix _).length_le
  have ed : a.drop (a.takeWhile (· == 32)).length = a.dropWhile (· == 32) := by
    have h := List.takeWhile_append_dropWhile (p := (· == 32)) (l := a)
    have : (a.takeWhile (· == 32) ++ a.dropWhile (· == 32)).drop (a.takeWhile (· == 32)).length = a.dropWhile (· == 32) := List.drop_left
    rwa [h] at this
  have e0 : stripLo (S [32]).cps.contains true (S a) = (a.takeWhile (· == 32)).length := by
    unfold stripLo
    rw [if_pos rfl, e1] <;> rfl
  have e3 : stripHi (S [32]).cps.contains false (S a) (a.takeWhile (· == 32)).length = (S a).length := by
    unfold stripHi
    rw [if_neg Bool.false_ne_true]
  unfold Txt.lstripChars Txt.stripBy stripSame stripped
  rw [e0, e3]
  split
  · rename_i h
    simp at h
    have : (a.takeWhile (· == 32)).length = 0 := by simpa using h
    rw [this, List.drop_zero] at ed
    rw [← ed]
  · show (⟨a.toArray.extract (a.takeWhile (· == 32)).length (S a).length⟩ : Str) = _
    rw [S_len, ← ed]
    congr 1
    apply Array.toList_inj.mp
    simp only [Array.toList_extract, List.extract_eq_drop_take]
    exact List.take_of_length_le (by rw [List.length_drop]; omega)
/-- z[i:j] by codes -/
theorem cut_S {a : List Nat} {i j : Nat} (hi : i ≤ a.length) (hj : j ≤ a.length) : cutS (S a) (some ((i : Nat) : Int)) (some ((j : Nat) : Int)) = S ((a.drop i).take (j - i)) := by
  unfold cutS
  rw [S_len, HT.sIx_nat, HT.sIx_nat, Nat.min_eq_left hi, Nat.min_eq_left hj]
/-- a line: so many spaces, and perhaps a word -/
def lnT (s : Nat) (w : List Nat) : List Nat := List.replicate s 32 ++ w
theorem lnT_len (s : Nat) (w : List Nat) : (lnT s w).length = s + w.length := by simp [lnT]
theorem lnT_sp {s : Nat} {w : List Nat} {i : Nat} (h : i < s) : (lnT s w)[i]? = some 32 := by
  unfold lnT
  rw [List.getElem?_append_left (by simpa using h), List.getElem?_replicate, if_pos h]
theorem lnT_w {s : Nat} {w : List Nat} {i : Nat} : (lnT s w)[s + i]? = w[i]? := by
  unfold lnT
  rw [List.getElem?_append_right (by simp), List.length_replicate, Nat.add_sub_cancel_left]
theorem lnT_drop (s : Nat) (w : List Nat) : (lnT s w).drop s = w := by
  unfold lnT
  rw [List.drop_append_of_le_length (by simp)]
  simp
end LK

set_option Elab.async false
set_option linter.all false
set_option maxRecDepth 100000
set_option maxHeartbeats 4000000
set_option exponentiation.threshold 3000
/-! What several laws share: boxes and lists beside changes of other objects. -/
namespace LK
open PySem PySem.Spec PyProof.Rows L2
section
variable {K : PySem.W.Frag}
theorem BoxAt.ne_new {H : Hp} {p dl b : Addr} (B : BoxAt H p dl) (h : H b = none) : b ≠ p ∧ b ≠ dl := by
  obtain ⟨xs, g⟩ := B.at_
  obtain ⟨ys, g2⟩ := B.dg
  exact ⟨fun e => (by subst e; rw [h] at g; cases g), fun e => (by subst e; rw [h] at g2; cases g2)⟩
theorem BoxAt.kp {H H' : Hp} {p dl : Addr} (B : BoxAt H p dl) (h : ∀ b o, b = p ∨ b = dl → H b = some o → H' b = some o) : BoxAt H' p dl := by
  obtain ⟨ds, k, a, b, c, d⟩ := B
  exact ⟨ds, k, h _ _ (.inl rfl) a, b, h _ _ (.inr rfl) c, d⟩
theorem BoxAt.keep' {H H' : Hp} {p dl l : Addr} (B : BoxAt H p dl) (k : Keep l H H') (h1 : l ≠ p) (h2 : l ≠ dl) : BoxAt H' p dl :=
  B.kp fun b o hb e => k b o e (by
    rcases hb with rfl | rfl
    · exact Ne.symm h1
    · exact Ne.symm h2)
theorem BoxAt.keep2 {H H' : Hp} {p dl l m : Addr} (B : BoxAt H p dl) (k : ∀ b o, H b = some o → b ≠ l → b ≠ m → H' b = some o) (h1 : l ≠ p) (h2 : l ≠ dl) (h3 : m ≠ p) (h4 : m ≠ dl) : BoxAt H' p dl :=
  B.kp fun b o hb e => by
    rcases hb with rfl | rfl
    · exact k _ _ e (Ne.symm h1) (Ne.symm h3)
    · exact k _ _ e (Ne.symm h2) (Ne.symm h4)
theorem KeepT.ins {p C dx : Addr} {H : Hp} {o : HO} {fs : List (Str × V)} (hp : H p = some (.ins C dx fs)) : KeepT K H (L2.upd H p o) := fun a xs h => by
  rcases h with (h | ⟨o', h⟩) | h
  · exact .inl (.inl (by rw [upd_ne (ne_of h hp (by intro z; cases z))]; exact h))
  · exact .inl (.inr ⟨o', by rw [upd_ne (ne_of h hp (by intro z; cases z))]; exact h⟩)
  · exact .inr h
theorem listAt_ins {p C dx l : Addr} {H : Hp} {o : HO} {fs : List (Str × V)} {ds : List PyData} (h : ListAt K H l ds) (hp : H p = some (.ins C dx fs)) : ListAt K (upd H p o) l ds := by
  obtain ⟨xs, e, a⟩ := h
  exact ⟨xs, by rw [upd_ne (ne_of e hp (by intro z; cases z))]; exact e, DtAll.keepT (KeepT.ins hp) a⟩
theorem Low.zero : Low "" := fun c hc => by
  have e : ("" : Str).cps.toList = [] := by decide +kernel
  rw [e] at hc; cases hc
theorem DtAll.take {H : Hp} : ∀ (n : Nat) {vs : List V} {ds : List PyData}, DtAll K H vs ds → DtAll K H (vs.take n) (ds.take n)
  | 0, _, _, _ => .nil
  | _ + 1, _, _, .nil => .nil
  | n + 1, _, _, .cons h a => .cons h (DtAll.take n a)
theorem len_start0 : (startD []).length = 17 := by decide
theorem sm_start0 : ∀ d ∈ startD [], Sm d 5 150000 := fun d hd => sm_start (hs := []) (L := 0) (by simp) (by simp) d hd
theorem sm_heap {ds : List PyData} (h : ds.length ≤ 30) (sm : ∀ d ∈ ds, Sm d 5 150000) : ShowOk (.list ds) := (Sm.lst ((SmAll.many sm).mem (m := 30) (M := 4500000) h (by omega))).show (by decide) (by decide)
theorem ListAt.dp {H : Hp} {l : Addr} {ds : List PyData} (h : ListAt K H l ds) : Dp K H (.ref l) (.list ds) := let ⟨_, e, a⟩ := h; .lst (SqL.of e) a.dp
end
theorem FnG.or {P : Program} {w : World} {K : PySem.W.Frag} {mg : Str → Option Value} {base : Heap} {CX : CXT} {k : Nat} {f : Addr} {fd : FuncData} {ps : List Str} {sp sp' : Sp} (A : FnG P w K mg base CX k f fd ps sp) (B : FnG P w K mg base CX k f fd ps sp') :
    FnG P w K mg base CX k f fd ps (fun vs H Q E => sp vs H Q E ∨ sp' vs H Q E) where
  len := fun vs H Q E h => h.elim (A.len vs H Q E) (B.len vs H Q E)
  run := fun A' outer s H args us vs Q E hr hg he hb hv h => h.elim (A.run A' outer s H args us vs Q E hr hg he hb hv) (B.run A' outer s H args us vs Q E hr hg he hb hv)
/-- start_heap of a list of names -/
def spStartL (K : PySem.W.Frag) : Sp := fun vs H Q _ => ∃ (t : Addr) (hs : List Str), vs = [.ref t] ∧ SqL K H t (hs.map V.str) ∧ hs.length ≤ 1000 ∧
  ∀ (p : Addr) (H' : Hp), H p = none → Same H H' → ListAt K H' p (startD hs) → Q (.ref p) H'
def spStart2 (K : PySem.W.Frag) : Sp := fun vs H Q E => spStart K vs H Q E ∨ spStartL K vs H Q E
theorem ip_fdiv {X : Cx} : PIp X .FloorDiv (rI CDiv fun i j => .int (i / j)) := fun pins s σ H x y v u Q I r1 r2 h => iop_fdiv pins s σ H x y v u Q I r1 r2 h
theorem none_back0 {p np : Addr} {H H' : Hp} (K1 : Keep p H H') (B : ∃ xs, H' p = some (.lst xs)) (h : H' np = none) : H np = none := by
  cases e : H np with
  | none => rfl
  | some o =>
    by_cases ep : np = p
    · subst ep
      obtain ⟨xs, g⟩ := B
      rw [g] at h; cases h
    · rw [K1 _ _ e ep] at h; cases h
end LK

set_option Elab.async false
set_option linter.all false
set_option maxRecDepth 100000
set_option maxHeartbeats 4000000
/-! dicts of the top: what a literal dict of the program gives, read where it stands. -/
namespace LK
open PySem PySem.Spec PyProof.Rows L2
/-- at a lies a dict of the top with these entries -/
def KDct (P : Program) (w : World) (K : PySem.W.Frag) (a : Addr) (kvs : List (Key × V)) : Prop := (a == sysModules) = false ∧ ∃ vs, KV kvs vs ∧ ∀ h : Heap, K.In h → h.DictOf (mixKind P w) a vs
def tDGetK (P : Program) (w : World) (K : PySem.W.Frag) (td ty : TE) : TE := fun σ H Q => td σ H fun x H1 => ty σ H1 fun y H2 => ∃ a kvs k v, x = .ref a ∧ KDct P w K a kvs ∧ y = kV k ∧ valV kvs k = some v ∧ Q v H2
def tDInK (P : Program) (w : World) (K : PySem.W.Frag) (ty td : TE) : TE := fun σ H Q => ty σ H fun y H1 => td σ H1 fun x H2 => ∃ a kvs k, x = .ref a ∧ KDct P w K a kvs ∧ y = kV k ∧ Q (.bl (valV kvs k).isSome) H2
section
variable {X : Cx} {o i : Expr} {pos : Pos} {td ty : TE}
theorem pe_dgetK (ho : PE X o td) (hi : PE X i ty) (hs : NoSl i) : PE X (.Subscript o i pos) (tDGetK X.prog X.w X.K td ty) := by
  refine ⟨fun pins s σ H Q I h => ?_⟩
  refine subD_of PySem.F.slot_dict_getitem.lookup hs (thn (ho.run pins s σ H _ I h) fun u s1 ⟨x, H1, I1, rx, q1⟩ => thn (hi.run pins s1 σ H1 _ I1 q1) fun iv s2 ⟨y, H2, I2, ry, a, kvs, k, v, ex, ⟨hsys, vs, rel, dd⟩, ey, l, q2⟩ => ?_)
  subst ex ey
  obtain rfl : u = Value.ref a := rx
  have dd := dd _ I2.kIn
  refine ⟨dd.typeIs, ?_⟩
  obtain ⟨w', hw, rw'⟩ := RelO.some_of (v := v) (o := valueAt vs k) (by rw [← l]; exact rel.val k)
  exact wpAny_getItem_of (kV_is ry) dd.mapOf hw ⟨v, H2, I2.tok _, rw', q2⟩
theorem pc_dinK (hi : PE X i ty) (ho : PE X o td) : PC X .In i o (tDInK X.prog X.w X.K ty td) := by
  refine ⟨fun pins s σ H Q I h => ?_⟩
  refine thn (hi.run pins s σ H _ I h) fun iv s1 ⟨y, H1, I1, ry, q1⟩ => thn (ho.run pins s1 σ H1 _ I1 q1) fun u s2 ⟨x, H2, I2, rx, a, kvs, k, ex, ⟨hsys, vs, rel, dd⟩, ey, q2⟩ => ?_
  subst ex ey
  obtain rfl : u = Value.ref a := rx
  have dd := dd _ I2.kIn
  refine wpAny_in_of (kV_is ry) hsys dd.mapOf ?_
  rw [← (rel.val k).isSome_eq]
  exact ⟨.bl _, H2, I2.tok _, rfl, q2⟩
end
/-! its fact from the top -/
def HasDct (P : Program) (w : World) (K : PySem.W.Frag) (x : Str) (kvs : List (Key × V)) : Prop := ∃ a, PySem.W.nsIn K mainGlobals x = some (some (.ref a)) ∧ KDct P w K a kvs
structure UseD (P : Program) (w : World) (K : PySem.W.Frag) (mg : Str → Option Value) (x : Str) (kvs : List (Key × V)) : Prop where
  ex : ∃ a, mg x = some (.ref a) ∧ KDct P w K a kvs
/-- entries whose keys and values are texts -/
inductive DEnt (w : World) : List DictEntry → List (Str × Str) → Prop
  | nil : DEnt w [] []
  | cons {e : DictEntry} {es : List DictEntry} {k v : Str} {ps : List (Str × Str)} {t t' : Tok} : e.key = .str k t → e.hash = hashStr w k → e.val = .str v t' → DEnt w es ps → DEnt w (e :: es) ((k, v) :: ps)
def txtKV (ps : List (Str × Str)) : List (Key × V) := ps.map fun p => (.inr p.1, .str p.2)
theorem DEnt.pairs {P : Program} {w : World} : ∀ {es : List DictEntry} {ps : List (Str × Str)}, DEnt w es ps → ∃ vs : List (Key × Value), KV (txtKV ps) vs ∧ PySem.Pairs (mixKind P w) es vs ∧ vs.map (·.1) = ps.map (fun p => (Sum.inr p.1 : Key)) ∧ ∀ e ∈ es, ∃ k, (mixKind P w).is k e.key = true ∧ e.hash = (mixKind P w).hash k
  | _, _, .nil => ⟨[], .nil, .nil, rfl, fun _ h => by cases h⟩
  | _, _, .cons (k := k) (v := v) (t := t) (t' := t') hk hh hv r => by
    obtain ⟨vs, a, b, c, d⟩ := DEnt.pairs (P := P) r
    refine ⟨(.inr k, .str v t') :: vs, .cons ⟨rfl, ⟨_, rfl⟩⟩ a, .cons (by rw [hk]; exact mixKind_str P w k t) hv b, by rw [List.map_cons, c]; rfl, fun e he => ?_⟩
    rcases List.mem_cons.mp he with rfl | he
    · exact ⟨.inr k, by rw [hk]; exact mixKind_str P w k t, hh⟩
    · exact d e he
theorem nodup_inr : ∀ {xs : List Str}, xs.Nodup → (xs.map (Sum.inr : Str → Key)).Nodup
  | [], _ => .nil
  | x :: r, h => by
    obtain ⟨h1, h2⟩ := List.nodup_cons.mp h
    refine List.nodup_cons.mpr ⟨fun hm => ?_, nodup_inr h2⟩
    obtain ⟨y, hy, e⟩ := List.mem_map.mp hm
    exact h1 (Sum.inr.inj e ▸ hy)
theorem HasDct.mk' {P : Program} {w : World} {K : PySem.W.Frag} {x : Str} {ps : List (Str × Str)} {a : Addr} {es : Array DictEntry} {ep : Nat} (h : PySem.W.nsIn K mainGlobals x = some (some (.ref a)))
    (b : K.lookup a = some { cls := .type "dict", data := .dict es ep }) (hs : (a == sysModules) = false) (c : DEnt w es.toList ps) (nd : (ps.map (·.1)).Nodup) : HasDct P w K x (txtKV ps) := by
  obtain ⟨vs, v1, v2, v3, v4⟩ := DEnt.pairs (P := P) c
  refine ⟨a, h, hs, vs, v1, fun hh hK => ⟨_, es, ep, hK a _ b, ⟨rfl, rfl, rfl⟩, rfl, fun e he => v4 e (Array.mem_toList_iff.mpr he), v2, ?_⟩⟩
  rw [v3]
  have : ps.map (fun p => (Sum.inr p.1 : Key)) = (ps.map (·.1)).map Sum.inr := by rw [List.map_map]; rfl
  rw [this]
  exact nodup_inr nd
theorem HasDct.g {P : Program} {w : World} {K : PySem.W.Frag} {mg : Str → Option Value} {h : Heap} {x : Str} {kvs : List (Key × V)} (D : HasDct P w K x kvs) (X : K.In h) (G : h.Ns mainGlobals mg) : UseD P w K mg x kvs := by
  obtain ⟨a, e, k⟩ := D
  exact ⟨a, PySem.W.mg_of X G e, k⟩
end LK

set_option Elab.async false
set_option linter.all false
set_option maxRecDepth 100000
set_option maxHeartbeats 4000000
set_option exponentiation.threshold 3000
/-! Numbers, texts over the 95 characters, dicts of the top with any plain values. -/
namespace LK
open PySem PySem.Spec PyProof.Rows L2 SX
def CPowW (i j : Int) : Prop := 0 ≤ j ∧ (Builtin.Int.intBits i : Int) * j ≤ 2 ^ 27
theorem op_powW {X : Cx} : OpR X (binaryOp .Pow) (rI CPowW fun i j => .int (i ^ j.toNat)) := opI fun _ _ _ _ _ _ _ hc q => pow_int hc.1 hc.2 q
/-- the 95 characters by their codes -/
def chStr : Str := "\n !\"#$&'()*+,-./0123456789:;<=>?@ABCDEFGHIJKLMNOPQRSTUVWXYZ[\\]^_`abcdefghijklmnopqrstuvwxyz{|}~"
def chC : List Nat := chStr.cps.toList
theorem chC_len : chC.length = 95 := by decide +kernel
theorem chStr_S : chStr = S chC := by unfold chC S; rfl
def ch (j : Nat) : Nat := chC.getD j 0
/-- the text of a row of indices -/
def tx (js : List Nat) : Str := S (js.map ch)
theorem ch_at {j : Nat} (h : j < 95) : chC[j]? = some (ch j) := by
  have h' : j < chC.length := by rw [chC_len]; exact h
  rw [List.getElem?_eq_getElem h', ch, List.getD_eq_getElem?_getD, List.getElem?_eq_getElem h']; rfl
theorem ch_low (j : Nat) : ch j < 128 := by
  by_cases h : j < 95
  · exact (show ∀ c ∈ chC, c < 128 by decide +kernel) _ (List.mem_of_getElem? (ch_at h))
  · rw [ch, List.getD_eq_getElem?_getD, List.getElem?_eq_none (by rw [chC_len]; omega)]; decide
theorem ch_inj {i j : Nat} (hi : i < 95) (hj : j < 95) (h : ch i = ch j) : i = j := by
  have key : ∀ i < 95, ∀ j < 95, ch i = ch j → i = j := by decide +kernel
  exact key i hi j hj h
theorem tx_len (js : List Nat) : (tx js).length = js.length := by rw [tx, S_len, List.length_map]
theorem tx_app (a b : List Nat) : tx (a ++ b) = tx a ++ tx b := by rw [tx, List.map_append, ← S_cat]; rfl
theorem occ_ch : ∀ j < 95, (Builtin.Str.occurrences chStr ⟨#[ch j]⟩ 0 95 1).head? = some j := by decide +kernel
theorem occ_at {j : Nat} (h : j < 95) : ∃ rest, Builtin.Str.occurrences chStr ⟨#[ch j]⟩ 0 chStr.length 1 = j :: rest := by
  have e := occ_ch j h
  rw [show chStr.length = 95 by decide +kernel]
  cases q : Builtin.Str.occurrences chStr ⟨#[ch j]⟩ 0 95 1 with
  | nil => rw [q] at e; cases e
  | cons a r => rw [q] at e; exact ⟨r, by rw [Option.some.inj e]⟩
theorem joinL_one : ∀ cs : List Nat, TL.joinL [] (cs.map fun c => [c]) = cs
  | [] => rfl
  | [c] => rfl
  | c :: d :: r => by
    have := joinL_one (d :: r)
    show [c] ++ ([] ++ TL.joinL [] ((d :: r).map fun c => [c])) = _
    rw [this]; rfl
theorem join_chars (cs : List Nat) : Txt.join "" (cs.map fun c => (⟨#[c]⟩ : Str)) = S cs := by
  rw [TL.join_eq]
  have e := TL.tl_join "" (cs.map fun c => (⟨#[c]⟩ : Str))
  rw [show TL.tl ("" : Str) = [] by decide +kernel, List.map_map, show (TL.tl ∘ fun c => (⟨#[c]⟩ : Str)) = fun c => [c] from rfl, joinL_one] at e
  cases h : Str.join "" (cs.map fun c => (⟨#[c]⟩ : Str)) with
  | mk a =>
    rw [h] at e
    have e : a.toList = cs := e
    subst e
    rfl
section
variable {X : Cx} {K : PySem.W.Frag} {T id : String} {name : Str} {r : V → List V → Hp → VK → Prop} {o e : Expr} {es : List Expr} {to : TE} {t : TA} {apos cpos : Pos}
/-- a built-in method, where the written part is told (in a comprehension) -/
theorem pe_bmK (hK : X.K = K) (pa : PlainAttrs T) (slot : Slot T name id) (hty : typeOf (.builtin id) = pure (.type "method_descriptor")) (hm : MtR X id r) (ho : PE X o to) (ha : PA X (e :: es) t)
    (hbase : attributeBase o name X.env (eval o X.env) = eval o X.env := by rfl)
    (hfew : ((backTo cpos (starEach (e :: es) X.env)).all (fun x => !x.1) && (backToKw cpos (keywordEach [] X.env)).all (fun x => x.1.isSome)
      && decide ((e :: es).length + ([] : List Keyword).length + (if ([] : List Keyword).isEmpty then 0 else 1) < 30)) = true := by rfl)
    (hline : (apos.endLine == cpos.line) = true := by rfl) (hs : starEach (e :: es) X.env = (false, eval e X.env) :: starEach es X.env := by rfl) (hplain : (backTo cpos (starEach es X.env)).any (·.1) = false := by rfl) :
    PE X (.Call (.Attribute o name apos) (e :: es) [] cpos) (tBM K T r to t) := by
  subst hK; exact pe_bm pa slot hty hm ho ha hbase hfew hline hs hplain
end
/-! dicts of the top whose keys are texts and whose values are plain -/
inductive DEntV (w : World) : List DictEntry → List (Str × V) → Prop
  | nil : DEntV w [] []
  | cons {e : DictEntry} {es : List DictEntry} {k : Str} {v : V} {ps : List (Str × V)} {t : Tok} : e.key = .str k t → e.hash = hashStr w k → RelV v e.val → DEntV w es ps → DEntV w (e :: es) ((k, v) :: ps)
def valKV (ps : List (Str × V)) : List (Key × V) := ps.map fun p => (.inr p.1, p.2)
theorem DEntV.pairs {P : Program} {w : World} : ∀ {es : List DictEntry} {ps : List (Str × V)}, DEntV w es ps → ∃ vs : List (Key × Value), KV (valKV ps) vs ∧ PySem.Pairs (mixKind P w) es vs ∧ vs.map (·.1) = ps.map (fun p => (Sum.inr p.1 : Key)) ∧ ∀ e ∈ es, ∃ k : Key, (mixKind P w).is k e.key = true ∧ e.hash = (mixKind P w).hash k
  | _, _, .nil => ⟨[], .nil, .nil, rfl, fun _ h => by cases h⟩
  | _, _, .cons (e := e0) (k := k) (v := v) (t := t) hk hh hv r => by
    obtain ⟨vs, a, b, c, d⟩ := DEntV.pairs (P := P) r
    refine ⟨(.inr k, e0.val) :: vs, .cons ⟨rfl, hv⟩ a, .cons (by rw [hk]; exact mixKind_str P w k t) rfl b, by rw [List.map_cons, c]; rfl, fun e he => ?_⟩
    rcases List.mem_cons.mp he with rfl | he
    · exact ⟨.inr k, by rw [hk]; exact mixKind_str P w k t, hh⟩
    · exact d e he
theorem HasDct.mkV {P : Program} {w : World} {K : PySem.W.Frag} {x : Str} {ps : List (Str × V)} {a : Addr} {es : Array DictEntry} {ep : Nat} (h : PySem.W.nsIn K mainGlobals x = some (some (.ref a)))
    (b : K.lookup a = some { cls := .type "dict", data := .dict es ep }) (hs : (a == sysModules) = false) (c : DEntV w es.toList ps) (nd : (ps.map (·.1)).Nodup) : HasDct P w K x (valKV ps) := by
  obtain ⟨vs, v1, v2, v3, v4⟩ := DEntV.pairs (P := P) c
  refine ⟨a, h, hs, vs, v1, fun hh hK => ⟨_, es, ep, hK a _ b, ⟨rfl, rfl, rfl⟩, rfl, fun e he => v4 e (Array.mem_toList_iff.mpr he), v2, ?_⟩⟩
  rw [v3]
  have : ps.map (fun p => (Sum.inr p.1 : Key)) = (ps.map (·.1)).map Sum.inr := by rw [List.map_map]; rfl
  rw [this]
  exact nodup_inr nd
theorem dtAll_int {K : PySem.W.Frag} {H : Hp} : ∀ {is : List Int} {ws : List V}, DtAll K H ws (is.map PyData.int) → ws = is.map V.int
  | [], _, h => by cases h.nil_inv; rfl
  | i :: r, _, h => by
    obtain ⟨y, ws, rfl, h1, h2⟩ := h.cons_inv
    cases h1.int_inv
    rw [dtAll_int h2]; rfl
theorem cut_one (x : V) (xs : List V) : cutV (x :: xs) (some 1) none = xs := by
  unfold cutV
  rw [show (some (1 : Int)) = some ((1 : Nat) : Int) from rfl, HT.sIx_nat, HT.sIx_none, Nat.min_eq_left (by simp)]
  simp
theorem tx_take (js : List Nat) (n : Nat) : cutS (tx js) none (some (n : Int)) = tx (js.take n) := by
  unfold cutS
  rw [tx_len, HT.sIx_nat, HT.sIx_none]
  show (⟨(((js.map ch).drop 0).take (min n js.length - 0)).toArray⟩ : Str) = ⟨((js.take n).map ch).toArray⟩
  rw [List.drop_zero, Nat.sub_zero, List.map_take]
  congr 2
  by_cases h : n ≤ js.length
  · rw [Nat.min_eq_left h]
  · rw [Nat.min_eq_right (by omega), List.take_of_length_le (by simp), List.take_of_length_le (by simp; omega)]
theorem tx_drop (js : List Nat) (n : Nat) : cutS (tx js) (some (n : Int)) none = tx (js.drop n) := by
  unfold cutS
  rw [tx_len, HT.sIx_nat, HT.sIx_none]
  show (⟨(((js.map ch).drop (min n js.length)).take (js.length - min n js.length)).toArray⟩ : Str) = ⟨((js.drop n).map ch).toArray⟩
  rw [List.map_drop]
  congr 2
  by_cases h : n ≤ js.length
  · rw [Nat.min_eq_left h, List.take_of_length_le (by simp)]
  · rw [Nat.min_eq_right (by omega), List.drop_of_length_le (by simp), List.drop_of_length_le (by simp; omega)]; simp
def rLenK (K : PySem.W.Frag) : List V → Hp → VK → Prop := fun xs H Q => ∃ x n, xs = [x] ∧ LenV K x H n ∧ Q (.int (n : Nat)) H
theorem call_lenK {X : Cx} {K : PySem.W.Frag} (hK : X.K = K) : CallR X (.builtin "len") (rLenK K) := by subst hK; exact call_len
end LK

set_option Elab.async false
set_option linter.all false
set_option maxRecDepth 100000
set_option maxHeartbeats 4000000
/-! rows: texts by their codes, tuples of data; cut, joined, their length -/
namespace LK
open PySem PySem.Spec PyProof.Rows L2 SX
inductive RowD where
  | txt (cs : List Nat)
  | tup (ds : List PyData)
namespace RowD
def d : RowD → PyData
  | txt cs => .str (S cs)
  | tup ds => .tuple ds
def len : RowD → Nat
  | txt cs => cs.length
  | tup ds => ds.length
end RowD
/-- xs[lo:hi] -/
def cutG {α : Type} (xs : List α) (lo hi : Option Int) : List α := (xs.drop (HT.sIx xs.length 0 lo)).take (HT.sIx xs.length xs.length hi - HT.sIx xs.length 0 lo)
def RowD.cut (r : RowD) (lo hi : Option Int) : RowD := match r with
  | .txt cs => .txt (cutG cs lo hi)
  | .tup ds => .tup (cutG ds lo hi)
theorem cutG_nat {α : Type} (xs : List α) {i j : Nat} (hi : i ≤ xs.length) (hj : j ≤ xs.length) : cutG xs (some (i : Int)) (some (j : Int)) = (xs.drop i).take (j - i) := by
  unfold cutG
  rw [HT.sIx_nat, HT.sIx_nat, Nat.min_eq_left hi, Nat.min_eq_left hj]
theorem cutG_to {α : Type} (xs : List α) {j : Nat} (hj : j ≤ xs.length) : cutG xs none (some (j : Int)) = xs.take j := by
  unfold cutG
  rw [HT.sIx_none, HT.sIx_nat, Nat.min_eq_left hj, List.drop_zero, Nat.sub_zero]
theorem cutG_from {α : Type} (xs : List α) {j : Nat} (hj : j ≤ xs.length) : cutG xs (some (j : Int)) none = xs.drop j := by
  unfold cutG
  rw [HT.sIx_none, HT.sIx_nat, Nat.min_eq_left hj]
  exact List.take_of_length_le (by rw [List.length_drop]; omega)
theorem DtAll.drop {K : PySem.W.Frag} {H : Hp} : ∀ {vs : List V} {ds : List PyData} (n : Nat), DtAll K H vs ds → DtAll K H (vs.drop n) (ds.drop n)
  | _, _, 0, h => h
  | _, _, _ + 1, .nil => .nil
  | _, _, n + 1, .cons _ t => t.drop n
theorem DtAll.takeN {K : PySem.W.Frag} {H : Hp} : ∀ {vs : List V} {ds : List PyData} (n : Nat), DtAll K H vs ds → DtAll K H (vs.take n) (ds.take n)
  | _, _, 0, _ => by rw [List.take_zero, List.take_zero]; exact .nil
  | _, _, _ + 1, .nil => .nil
  | _, _, n + 1, .cons h t => .cons h (t.takeN n)
theorem DtAll.cutG {K : PySem.W.Frag} {H : Hp} {vs : List V} {ds : List PyData} (h : DtAll K H vs ds) (lo hi : Option Int) : DtAll K H (cutV vs lo hi) (cutG ds lo hi) := by
  unfold cutV LK.cutG
  rw [h.length]
  exact DtAll.takeN _ (h.drop _)
theorem cutS_G (cs : List Nat) (lo hi : Option Int) : cutS (S cs) lo hi = S (cutG cs lo hi) := by
  unfold cutS cutG
  rw [S_len]
section
variable {X : Cx}
def rSlR (K : PySem.W.Frag) : V → Option Int → Option Int → Hp → VK → Prop := fun x lo hi H Q => ∃ r : RowD, Dt K H x r.d ∧ r.len ≤ 2000 ∧ ∀ v H', Same H H' → Dt K H' v (r.cut lo hi).d → Q v H'
theorem sl_row : SlR X (rSlR X.K) := by
  intro pins s σ H x v vl vu lo hi sl Q I rx hs pl pu h
  obtain ⟨r, dr, hn, q⟩ := h
  cases r with
  | txt cs =>
    cases dr.str_inv
    refine sl_str pins s σ H _ v vl vu _ _ sl Q I rx hs pl pu ⟨_, rfl, by rw [S_len]; exact Nat.le_trans hn (by decide), q _ _ (Same.refl _) ?_⟩
    rw [cutS_G]
    exact .str _
  | tup ds =>
    obtain ⟨p, xs, rfl, hq, ax⟩ := dr.tuple_inv
    have lx := ax.length
    refine sl_tupA pins s σ H _ v vl vu _ _ sl Q I rx hs pl pu ⟨p, xs, rfl, hq, fun hw => ?_, fun _ z hz => ?_⟩
    · refine q _ _ (Same.refl _) ?_
      rw [lx] at hw
      show Dt _ _ _ (PyData.tuple (cutG ds lo hi))
      unfold cutG
      rw [hw.1, hw.2, List.drop_zero, Nat.sub_zero, List.take_length]
      exact dr
    · exact q _ _ (Same.new hz) (Dt.made hz (ax.cutG lo hi))
/-- len(a), a row -/
def rLenR (K : PySem.W.Frag) : List V → Hp → VK → Prop := fun vs H Q => ∃ (v : V) (r : RowD), vs = [v] ∧ Dt K H v r.d ∧ r.len ≤ 2000 ∧ Q (.int (r.len : Int)) H
theorem call_lenR : CallR X (.builtin "len") (rLenR X.K) := by
  intro pins s σ H xs us Q I r h
  obtain ⟨v, rw', rfl, da, hn, q⟩ := h
  cases rw' with
  | txt cs =>
    cases da.str_inv
    exact call_len pins s σ H _ us Q I r ⟨_, cs.length, rfl, ⟨by rw [S_len]; exact Nat.le_trans hn (by decide), (S_len _).symm⟩, q⟩
  | tup ds =>
    obtain ⟨p, ys, rfl, hq, ax⟩ := da.tuple_inv
    exact call_len pins s σ H _ us Q I r ⟨_, ds.length, rfl, .inr ⟨_, hq, ax.length.symm⟩, q⟩
/-- x + y, tuples of data -/
def rCatTD (K : PySem.W.Frag) : R2 := fun x y H Q => ∃ ds es : List PyData, Dt K H x (.tuple ds) ∧ Dt K H y (.tuple es) ∧ ds.length + es.length ≤ 2000 ∧ ∀ v H', Same H H' → Dt K H' v (.tuple (ds ++ es)) → Q v H'
theorem op_catTD : OpR X (binaryOp .Add) (rCatTD X.K) := by
  intro pins s σ H x y v u Q I rx ry h
  obtain ⟨ds, es, dx, dy, hz, q⟩ := h
  obtain ⟨a, xs, rfl, ha, ax⟩ := dx.tuple_inv
  obtain ⟨b, ys, rfl, hb, ay⟩ := dy.tuple_inv
  have lx := ax.length
  have ly := ay.length
  refine op_catA pins s σ H _ _ v u Q I rx ry ⟨a, b, xs, ys, rfl, rfl, ha, hb, by rw [lx, ly]; exact Nat.le_trans hz (by decide), fun e => ?_, fun _ e => ?_, fun _ _ p hp => ?_⟩
  · subst e
    cases ax
    exact q _ _ (Same.refl _) dy
  · subst e
    cases ay
    rw [List.append_nil] at q
    exact q _ _ (Same.refl _) dx
  · exact q _ _ (Same.new hp) (Dt.made hp (DtAll.app ax ay))
end
end LK

set_option Elab.async false
set_option linter.all false
set_option maxRecDepth 100000
set_option maxHeartbeats 4000000
/-! Classes of one's own in the layer: fields, instances made, methods called. -/
namespace LK
open PySem PySem.Spec PyProof.Rows L2
/-- none of the names stands in the class -/
inductive NoAll (K : PySem.W.Frag) (C : Addr) : List Str → Prop
  | nil : NoAll K C []
  | cons {f : Str} {r : List Str} (h : PySem.W.findIn K (.ref C) f = some none) (t : NoAll K C r) : NoAll K C (f :: r)
theorem NoAll.at {K : PySem.W.Frag} {C : Addr} {f : Str} : ∀ {fs : List Str}, NoAll K C fs → fs.contains f = true → NoAttr K C f
  | _, .nil, h => by cases h
  | g :: r, .cons a t, h => by
    by_cases e : f = g
    · subst e; exact a
    · refine NoAll.at t ?_
      rw [List.contains_cons] at h
      rcases Bool.or_eq_true_iff.mp h with q | q
      · exact absurd (eq_of_beq q) e
      · exact q
/-- the class x as the top leaves it, at C, with the fields fs -/
structure ClsK (K : PySem.W.Frag) (x : Str) (fs : List Str) (C : Addr) : Prop where
  ns : PySem.W.nsIn K mainGlobals x = some (some (.ref C))
  cl : Cls K C
  mks : PySem.W.makesIn K C = true
  kp : PySem.W.keepIn K (.ref C) = true
  no : NoAll K C fs
theorem ClsK.mk' {K : PySem.W.Frag} {x : Str} {fs : List Str} {C : Addr} (a : PySem.W.nsIn K mainGlobals x = some (some (.ref C))) (pg : PySem.W.plainGet K C Str.empty = true) (hd : PySem.W.hasDictIn K C = true) (po : PySem.W.plainOver K C = true)
    (sa : PySem.W.findIn K (.ref C) "__setattr__" = some (some (.builtin "object.__setattr__"))) (mk : PySem.W.makesIn K C = true) (kp : PySem.W.keepIn K (.ref C) = true) (no : NoAll K C fs) : ClsK K x fs C := ⟨a, ⟨pg, hd, po, sa⟩, mk, kp, no⟩
structure UseC (K : PySem.W.Frag) (mg : Str → Option Value) (x : Str) (fs : List Str) (C : Addr) : Prop where
  cl : Cls K C
  no : NoAll K C fs
  mg : mg x = some (.ref C)
theorem ClsK.g {K : PySem.W.Frag} {mg : Str → Option Value} {h : Heap} {x : Str} {fs : List Str} {C : Addr} (k : ClsK K x fs C) (X : K.In h) (G : h.Ns mainGlobals mg) : UseC K mg x fs C := ⟨k.cl, k.no, PySem.W.mg_of X G k.ns⟩
/-- a method as the top leaves it -/
def HasMeth (K : PySem.W.Frag) (C : Addr) (m q : Str) (st : Stmt) : Prop := ∃ (f : Addr) (oc : Value) (od an : Option Addr) (kV doc pm cdv ct : Value) (osl : Array (Option Value)),
  PySem.W.findIn K (.ref C) m = some (some (.ref f)) ∧ PySem.W.isFn K (.ref f) = true ∧ PySem.W.keepIn K (.ref f) = true ∧
  K.lookup f = some ⟨oc, od, .func (PySem.W.fnOf m q (defArgs st) (defBody st) (defScope st) .none kV doc pm an cdv ct), osl⟩ ∧ PySem.W.codeIn K cdv q = true
theorem HasMeth.mk' {K : PySem.W.Frag} {C : Addr} {m q : Str} {st : Stmt} {f : Addr} {oc : Value} {od an : Option Addr} {kV doc pm cdv ct : Value} {osl : Array (Option Value)} (a : PySem.W.findIn K (.ref C) m = some (some (.ref f))) (i : PySem.W.isFn K (.ref f) = true)
    (k : PySem.W.keepIn K (.ref f) = true) (b : K.lookup f = some ⟨oc, od, .func (PySem.W.fnOf m q (defArgs st) (defBody st) (defScope st) .none kV doc pm an cdv ct), osl⟩) (c : PySem.W.codeIn K cdv q = true) : HasMeth K C m q st :=
  ⟨f, oc, od, an, kV, doc, pm, cdv, ct, osl, a, i, k, b, c⟩
/-- a method may be called -/
structure UseM (P : Program) (w : World) (K : PySem.W.Frag) (mg : Str → Option Value) (base : Heap) (CX : CXT) (C : Addr) (m : Str) (k : Nat) (ps : List Str) (sp : Sp) : Prop where
  ex : ∃ (f : Addr) (fd : FuncData), FnG P w K mg base CX k f fd ps sp ∧ Meth K C m f ∧ Binds K fd ps []
/-- an instance may be made -/
structure UseK (P : Program) (w : World) (K : PySem.W.Frag) (mg : Str → Option Value) (base : Heap) (x : Str) (C : Addr) (k : Nat) (ps : List Str) (sp : Sp) : Prop where
  ex : ∃ (f : Addr) (fd : FuncData), FnOk P w K mg base CX0 k f fd ps sp ∧ Mk K C f ∧ Binds K fd ps [] ∧ mg x = some (.ref C)
section
variable {P : Program} {w : World} {K : PySem.W.Frag} {mg : Str → Option Value} {base h : Heap} {CX : CXT} {C : Addr} {m q x : Str} {st : Stmt} {k : Nat} {ps fs : List Str} {sp : Sp}
theorem mk_useM (F : HasMeth K C m q st) (hb : ∀ (kV doc pm : Value) (an : Option Addr) (cdv ct : Value) (us : List Value), us.length = ps.length → bindArgs (PySem.W.fnOf m q (defArgs st) (defBody st) (defScope st) .none kV doc pm an cdv ct) ⟨us, []⟩ = pure (ps.zip us))
    (ok : ∀ (f : Addr) (fd : FuncData), Fun K m q st f fd → FnG P w K mg base CX k f fd ps sp) : UseM P w K mg base CX C m k ps sp := by
  obtain ⟨f, oc, od, an, kV, doc, pm, cdv, ct, osl, a, i, kp, b, c⟩ := F
  have Fn := fun_mk (st := st) b c kp
  exact ⟨f, _, ok f _ Fn, ⟨a, i, kp⟩, Fn.binds hb⟩
theorem mk_useK (k0 : ClsK K x fs C) (F : HasMeth K C "__init__" q st) (X : K.In h) (G : h.Ns mainGlobals mg) (hb : ∀ (kV doc pm : Value) (an : Option Addr) (cdv ct : Value) (us : List Value), us.length = ps.length → bindArgs (PySem.W.fnOf "__init__" q (defArgs st) (defBody st) (defScope st) .none kV doc pm an cdv ct) ⟨us, []⟩ = pure (ps.zip us))
    (ok : ∀ (f : Addr) (fd : FuncData), Fun K "__init__" q st f fd → FnOk P w K mg base CX0 k f fd ps sp) : UseK P w K mg base x C k ps sp := by
  obtain ⟨f, oc, od, an, kV, doc, pm, cdv, ct, osl, a, i, kp, b, c⟩ := F
  have Fn := fun_mk (st := st) b c kp
  exact ⟨f, _, ok f _ Fn, ⟨k0.mks, a, i, k0.kp⟩, Fn.binds hb, PySem.W.mg_of X G k0.ns⟩
theorem UseM.imp {sp' : Sp} (U : UseM P w K mg base CX C m k ps sp) (i : ∀ vs H Q E, sp' vs H Q E → sp vs H Q E) : UseM P w K mg base CX C m k ps sp' := by
  obtain ⟨f, fd, ok, r⟩ := U.ex
  exact ⟨f, fd, ok.imp i, r⟩
end
/-! ### readings -/
def tFd (C : Addr) (ta : TE) (f : Str) : TE := fun σ H Q => ta σ H fun x H1 => ∃ a dx gs v, x = .ref a ∧ H1 a = some (.ins C dx gs) ∧ gs.lookup f = some v ∧ Q v H1
def sFd (C : Addr) (ta tv : TE) (f : Str) : TS := fun D σ H => tv σ H fun y H1 => ta σ H1 fun x H2 => ∃ a dx gs, x = .ref a ∧ H2 a = some (.ins C dx gs) ∧ gs.length < 1000 ∧ D.nx σ (upd H2 a (.ins C dx (putF f y gs)))
def sFdAug (C : Addr) (ta tv : TE) (rd : V → V → Hp → VK → Prop) (f : Str) : TS := fun D σ H => ta σ H fun x H1 => ∃ a dx gs v, x = .ref a ∧ H1 a = some (.ins C dx gs) ∧ gs.lookup f = some v ∧
  tv σ H1 fun y H2 => rd v y H2 fun z H3 => ∃ dx' gs', H3 a = some (.ins C dx' gs') ∧ gs'.length < 1000 ∧ D.nx σ (upd H3 a (.ins C dx' (putF f z gs')))
def tMc (C : Addr) (m : Str) (sp : Sp) (E : XK) (ta : TE) (t : TA) : TE := fun σ H Q => ta σ H fun x H1 => ∃ a dx gs, x = .ref a ∧ H1 a = some (.ins C dx gs) ∧ gs.lookup m = none ∧ t σ H1 fun vs H2 => sp (.ref a :: vs) H2 Q E
def tMk (C : Addr) (sp : Sp) (t : TA) : TE := fun σ H Q => t σ H fun vs H1 => ∀ x dx, H1 x = none → H1 dx = none → dx ≠ x → sp (.ref x :: vs) (upd (upd H1 dx (.own x)) x (.ins C dx [])) (fun v H2 => v = .non ∧ Q (.ref x) H2) E0
section
variable {X : Cx} {CX : CXT} {C : Addr} {x m f : Str} {fs ps : List Str} {k : Nat} {sp : Sp} {o e value : Expr} {es : List Expr} {p pos pos' tpos apos : Pos} {ta tv : TE} {t : TA}
theorem pe_fd (U : UseC X.K X.mg x fs C) (hf : fs.contains f = true) (he : PE X e ta) (hb : attributeBase e f X.env (eval e X.env) = eval e X.env := by rfl) : PE X (.Attribute e f pos) (tFd C ta f) := by
  refine ⟨fun pins s σ H Q I h => ?_⟩
  refine attr_of hb (thn (he.run pins s σ H _ I h) fun u s1 ⟨x, H1, I1, rx, a, dx, fs, v, ex, ea, l, q⟩ => ?_)
  subst ex
  obtain rfl : u = Value.ref a := rx
  exact getattr_ok I1 ea U.cl (U.no.at hf) l fun u' s2 I2 ru => ⟨v, H1, I2, ru, q⟩
theorem ps_fd (U : UseC X.K X.mg x fs C) (hf : fs.contains f = true) (ha : PE X o ta) (hv : PE X value tv) (hs : swapsWith value (some (.Attribute o f pos')) pos.line X.env = pure false := by rfl) : PS X (.Assign [.Attribute o f pos'] value pos) (sFd C ta tv f) := by
  refine ⟨fun pins s σ H D I h => ?_⟩
  refine plainObj_wpAny_Assign_Attribute (thn (hv.run pins s σ H _ I h) fun u s1 ⟨y, H1, I1, ry, q⟩ => thn (ha.run pins s1 σ H1 _ I1 q) fun ov s2 ⟨x, H2, I2, rx, a, dx, fs, ex, ea, l, q2⟩ => ?_) hs
  subst ex
  obtain rfl : ov = Value.ref a := rx
  exact setattr_ok I2 ea U.cl (U.no.at hf) l ry fun s3 I3 => ⟨σ, _, I3, q2⟩
theorem ps_fdaug (U : UseC X.K X.mg x fs C) (hf : fs.contains f = true) {op : Operator} {rd : V → V → Hp → VK → Prop} (ha : PE X o ta) (hv : PE X value tv) (hop : InOp X op rd) : PS X (.AugAssign (.Attribute o f tpos) op value pos) (sFdAug C ta tv rd f) := by
  refine ⟨fun pins s σ H D I h => ?_⟩
  refine wpAny_AugAssign_AttributeAny (thn (ha.run pins s σ H _ I h) fun ov s1 ⟨x, H1, I1, rx, a, dx, fs, v, ex, ea, l, q⟩ => ?_)
  subst ex
  obtain rfl : ov = Value.ref a := rx
  refine getattr_ok I1 ea U.cl (U.no.at hf) l fun u s2 I2 ru => thn (hv.run pins s2 σ H1 _ I2 q) fun w3 s3 ⟨y, H2, I3, ry, q3⟩ => thn (hop pins s3 σ H2 v y u w3 _ I3 ru ry q3) fun w4 s4 ⟨z, H3, I4, rz, dx', fs', ea', l', q4⟩ => ?_
  exact setattr_ok I4 ea' U.cl (U.no.at hf) l' rz fun s5 I5 => ⟨σ, _, I5, q4⟩
/-- o.m(e, ..) -/
theorem pe_mc {E : XK} {pl : Sem Bool} (U : UseC X.K X.mg x fs C) (M : UseM X.prog X.w X.K X.mg X.base CX C m k ps sp) (hx : Passes CX X E) (hr : Room k X.A) (gd : X.A.guards = some []) (he : PE X o ta) (ha : PA X (e :: es) t)
    (hst : starEach (e :: es) X.env = (false, eval e X.env) :: starEach es X.env := by rfl) (hpl : (backTo pos (starEach es X.env)).any (·.1) = false := by rfl)
    (ht : eval (.Call (.Attribute o m apos) (e :: es) [] pos) X.env = (do
      let ov ← eval o X.env
      standAt apos.atName
      let (f, first) ← holding [ov] (getMethod ov m pl)
      callWith pos f first (backTo pos (starEach (e :: es) X.env)) (backToKw pos (keywordEach [] X.env))) := by rfl) :
    PE X (.Call (.Attribute o m apos) (e :: es) [] pos) (tMc C m sp E ta t) := by
  obtain ⟨f, fd, F, hm, hb⟩ := M.ex
  refine ⟨fun pins s σ H Q I h => ?_⟩
  refine PySem.W.methodCall_KW (pl := pl) (thn (he.run pins s σ H _ I h) fun u s1 ⟨x, H1, I1, rx, a, dx, fs, ex, ea, l, q⟩ => ?_) ht
  subst ex
  obtain rfl : u = Value.ref a := rx
  refine getmeth_ok I1 ea U.cl hm l ?_
  refine PySem.W.callWith_K (first := [.ref a]) (h₀ := X.base) I.ok.mod.kin hm.kp (thn (ha.run pos pins s1 σ H1 _ I1 q) fun us s2 ⟨vs, H2, I2, r, q2⟩ => ⟨I2.kIn, ?_⟩) hst hpl
  exact run_fnG (us := .ref a :: us) (vs := .ref a :: vs) F hr gd hb hx I2 (.cons rfl r) q2
/-- o.m() -/
theorem pe_mc0 {E : XK} {pl : Sem Bool} (U : UseC X.K X.mg x fs C) (M : UseM X.prog X.w X.K X.mg X.base CX C m k ps sp) (hx : Passes CX X E) (hr : Room k X.A) (gd : X.A.guards = some []) (he : PE X o ta)
    (ht : eval (.Call (.Attribute o m apos) [] [] pos) X.env = (do
      let ov ← eval o X.env
      standAt apos.atName
      let (f, first) ← holding [ov] (getMethod ov m pl)
      callWith pos f first (backTo pos (starEach [] X.env)) (backToKw pos (keywordEach [] X.env))) := by rfl) :
    PE X (.Call (.Attribute o m apos) [] [] pos) (tMc C m sp E ta tNil) := by
  obtain ⟨f, fd, F, hm, hb⟩ := M.ex
  refine ⟨fun pins s σ H Q I h => ?_⟩
  refine PySem.W.methodCall_KW (pl := pl) (thn (he.run pins s σ H _ I h) fun u s1 ⟨x, H1, I1, rx, a, dx, fs, ex, ea, l, q⟩ => ?_) ht
  subst ex
  obtain rfl : u = Value.ref a := rx
  refine getmeth_ok I1 ea U.cl hm l ?_
  exact PySem.W.callWith_K0 (first := [.ref a]) I1.kIn hm.kp (run_fnG (us := [.ref a]) (vs := [.ref a]) F hr gd hb hx I1 (.cons rfl .nil) q)
/-- C(e, ..) -/
theorem pe_mk (M : UseK X.prog X.w X.K X.mg X.base x C k ps sp) (hr : Room (k + 1) X.A) (hg : Gl X x) (ha : PA X (e :: es) t) (hdb : (x == ("__debug__" : Str)) = false := by decide) (he : starEach (e :: es) X.env = (false, eval e X.env) :: starEach es X.env := by rfl)
    (hpl : (backTo pos (starEach es X.env)).any (·.1) = false := by rfl) : PE X (.Call (.Name x p) (e :: es) [] pos) (tMk C sp t) := by
  obtain ⟨f, fd, F, mk, hb, hm⟩ := M.ex
  have R := pe_make (p := p) (pos := pos) mk F hr hg hm hb .nil pass0 ha hdb he hpl
  refine ⟨fun pins s σ H Q I h => R.run pins s σ H Q I ?_⟩
  have e0 : (tMake C sp [] E0 t : TE) = tMk C sp t := by
    funext σ H Q
    unfold tMake tMk
    simp only [List.append_nil]
  rw [e0]; exact h
end
end LK

set_option Elab.async false
set_option linter.all false
set_option maxRecDepth 100000
set_option maxHeartbeats 4000000
/-! dict comprehensions over any walk; dicts whose keys are ints -/
namespace LK
open PySem PySem.Spec PyProof.Rows L2
theorem dc_it {J : It} {n : Nat} {G : Hp → Prop} {Y : Nat → Hp → V → Hp → Prop} (wk : Walk J n G Y) {g : TG} {tt : TT} {tk tv : TE} {own : List Nat} {σ : L2.St} {H0 : Hp} {D : Addr} {Qd : Hp → Prop} (I : Nat → Hp → Prop) (st : I 0 (upd H0 D (.dK []))) (still : ∀ j H, j ≤ n → I j H → G H)
    (turn : ∀ j x H H', j < n → I j H → Y j H x H' → g x (wipe σ own) H' fun τ Ha => wipe τ own = wipe σ own ∧ tt τ Ha fun b Hb =>
      if b = true then tk τ Hb fun key Hc => tv τ Hc fun val Hd => ∃ ps c, key = kV c ∧ Hd D = some (.dK ps) ∧ ps.length < sizeLine ∧ I (j + 1) (upd Hd D (.dK (putK ps c val))) else I (j + 1) Hb) (fin : ∀ H, I n H → Qd H) :
    ∃ W : Nat → Nat → Hp → Prop, (∃ m, W 0 m (upd H0 D (.dK []))) ∧ ∀ j m H, W j m H → (J.stop j H ∧ Qd H) ∨ (J.go j H ∧ ∃ Nx : Hp → Prop, (∀ H', Nx H' → ∃ m', m' < m ∧ W (j + 1) m' H') ∧
      ∀ x H', J.yld j H x H' → g x (wipe σ own) H' fun τ Ha => wipe τ own = wipe σ own ∧ tt τ Ha fun b Hb =>
        if b = true then tk τ Hb fun key Hc => tv τ Hc fun val Hd => ∃ ps c, key = kV c ∧ Hd D = some (.dK ps) ∧ ps.length < sizeLine ∧ Nx (upd Hd D (.dK (putK ps c val))) else Nx Hb) := by
  refine ⟨fun j m H => j ≤ n ∧ m = n - j ∧ I j H, ⟨n - 0, Nat.zero_le _, rfl, st⟩, ?_⟩
  rintro j m H ⟨hj, rfl, hI⟩
  have hG := still j H hj hI
  rcases Nat.lt_or_ge j n with c | c
  · exact .inr ⟨wk.goes j H c hG, I (j + 1), fun H' h' => ⟨n - (j + 1), by omega, c, rfl, h'⟩, fun x H' y => turn j x H H' c hI (wk.yields j H x H' c hG y)⟩
  · obtain rfl : j = n := Nat.le_antisymm hj c
    exact .inl ⟨wk.stops H hG, fin H hI⟩
/-- a dict whose keys are the ints of a row -/
def KnAt (H : Hp) (a : Addr) (ks : List Int) : Prop := ∃ kvs : List (Key × V), H a = some (.dK kvs) ∧ kvs.length ≤ ks.length ∧ ∀ k : Int, (valV kvs (.inl k)).isSome = decide (k ∈ ks)
theorem KnAt.nil {H : Hp} {a : Addr} : KnAt (upd H a (.dK [])) a [] := ⟨[], upd_same, Nat.le_refl _, fun k => by rw [valV_nil]; simp⟩
theorem KnAt.put {H : Hp} {a : Addr} {ks : List Int} {kvs : List (Key × V)} {k : Int} {v : V} (h : KnAt H a ks) (e : H a = some (.dK kvs)) : KnAt (upd H a (.dK (putK kvs (.inl k) v))) a (ks ++ [k]) := by
  obtain ⟨kvs', e', l, p⟩ := h
  rw [e] at e'
  obtain rfl := HO.dK.inj (Option.some.inj e')
  refine ⟨_, upd_same, ?_, fun j => ?_⟩
  · have := length_putK kvs (.inl k) v
    rw [List.length_append, List.length_singleton]; omega
  · rw [valV_put]
    by_cases c : j = k
    · subst c; simp
    · rw [if_neg (fun h => c (Sum.inl.inj h)), p j]
      simp [c]
theorem KnAt.same {H H' : Hp} {a : Addr} {ks : List Int} (h : KnAt H a ks) (e : Same H H') : KnAt H' a ks := let ⟨x, b, c⟩ := h; ⟨x, e _ _ b, c⟩
/-- what a comprehension's block asks of each of its pieces -/
abbrev InBlk (X : Cx) (scope : Scope) (Z : Cx → Prop) : Prop := ∀ (s : Shared) (H : Hp) (C : Addr) (cl : List (Str × Addr)) (fp : List Addr), Z (X.blk s H scope (compEnvC scope cl C X.env) fp)
/-- name = {k: v for ..}, the name a local of the def -/
theorem ps_setDc {X : Cx} {i : Nat} {y : Str} {py : Pos} {ke ve te ie : Expr} {ifs : List Expr} {scope : Scope} {own : List (Str × Nat)} {p1 p2 : Pos} {wi : TI} {g : TG} {tt : TT} {tk tv : TE} (calm : X.calm = true) (nd : X.N.Nodup) (at_ : X.N[i]? = some y) (isl : X.env.scope.names.lookup y = some .local) (used : swapsWith (.DictComp ke ve [⟨te, ie, ifs, 0⟩] scope p1) (some (.Name y py)) p2.line X.env = pure true)
    (hi : PI X te ie wi) (blk : BlkOk X.N X.env.scope scope own) (a1 : InBlk X scope fun Y => PG Y te g) (a2 : InBlk X scope fun Y => PTs Y ifs tt) (a3 : InBlk X scope fun Y => PE Y ke tk) (a4 : InBlk X scope fun Y => PE Y ve tv) (fi : ∀ x, foldedSetIterable ie X.env x = pure x := by intro _; rfl) : PS X (.Assign [.Name y py] (.DictComp ke ve [⟨te, ie, ifs, 0⟩] scope p1) p2) (tAsg (tDc wi g tt tk tv (own.map (·.2))) (gName i)) := ⟨fun pins s σ H D I h => by
  rw [exec_Assign_Name_used _ _ _ _ used]; refine wpAny_bind (wpAny_standAt (wpAny_bind ?_)); show wpAny _ X.A (do let _ ← comprehension (.DictComp ke ve [⟨te, ie, ifs, 0⟩] scope p1) scope X.env (firstIterPos [⟨te, ie, ifs, 0⟩] p1) newDict false (eval ie X.env) (some (assign (.Name y py) X.env))) _ _ s
  have h' : tDc wi g tt tk tv (own.map (·.2)) σ H (fun x H1 => gName i x σ H1 D.nx) := h
  refine wpAny_bind (thn (dc_core (Qf := fun _ z => SP X pins D .next z) calm nd I hi blk a1 a2 a3 a4 fi h' fun L C z m H' I' q ns fo => ?_) fun _ _ hq => wpAny_pure (wpAny_pure hq)); show wpAny _ _ (assign (.Name y py) X.env (.ref L)) _ _ _
  refine wpAny_assign_Name (store_ok2 (v := V.ref L) I' nd at_ (.inl isl) rfl (fun z2 I2 ⟨b, sb, hb⟩ => ?_) (.inr isl)); obtain ⟨e0, e1, e2, e3, e4, e5⟩ := fo
  have apart : C ≠ b := hb.elim (fun w => by rw [w]; exact e1) fun w e => e4 y b w e.symm
  exact ⟨m, ns.sameBut sb apart, fun h3 sb3 => ⟨_, H', I2.turned (t' := z2.toks) (fun c o hc e => (sb3.2 c hc).trans e) e0 e1 e3 e4 e5, q⟩⟩⟩
theorem swd_true {ke ve : Expr} {gs : List Comprehension} {scope : Scope} {p1 py : Pos} {y : Str} {l : Nat} {env : Env} (h1 : env.scope.kind = .function) (h2 : env.scope.names.lookup y = some .local) (h3 : (py.line == p1.line) = true) (h4 : (scope.names.any fun (n, k) => n == y && (k == .local || k == .cell)) = false) : swapsWith (.DictComp ke ve gs scope p1) (some (.Name y py)) l env = pure true := by
  have k1 : env.kindOf y = some .local := h2
  have k2 : env.blockKind = .function := by unfold Env.blockKind; rw [h1]; rfl
  unfold swapsWith; simp only [k2, k1, h4, Expr.pos, h3]; rfl
end LK

set_option Elab.async false
set_option linter.all false
set_option maxRecDepth 100000
set_option maxHeartbeats 4000000
/-! x.split(): the words of a text -/
namespace LK
open PySem PySem.Spec PyProof.Rows L2
theorem mt_split0 {X : Cx} : MtR X "str.split" (fun x xs H Q => ∃ z, x = .str z ∧ xs = [] ∧ z.length + 2 ≤ sizeLine ∧ rNewStrs (Txt.words z) H Q) := by
  intro pins s σ H x xs v us Q I ex es hyp
  obtain ⟨z, rfl, rfl, lim, next⟩ := hyp
  obtain ⟨tok, rfl⟩ := ex
  cases es
  have few : (Txt.words z).length ≤ sizeLine := Nat.le_trans (words_le z) (by omega)
  have few2 : (Builtin.Str.spaceWords z (z.length + 1)).length ≤ sizeLine := by
    have w1 := (StrLaws.sw_weight z).1
    have w2 := StrLaws.len_le_wsum (Builtin.Str.spaceWords z (z.length + 1))
    omega
  refine call_meets F.slot_str_split (typeIs_str _ _ _) F.entry_str_split (F.args_str_split_1 _) (meets_str_split_space z tok (by omega) few2) ?_
  cases hb : Builtin.Str.spaceWords z (z.length + 1) == [(0, z.length)]
  · simp only [Bool.false_eq_true, if_false]
    rw [strsFrom_eq]
    exact laid_strs (ys := Txt.words z) I ((numbered_texts _ _).trans (if_neg (ne_true_of_eq_false hb)).symm) few next
  · simp only [if_true]
    exact laid_strs (l := [(z, tok)]) (ys := Txt.words z) (k := s.toks) I (if_pos hb).symm few next
end LK

set_option Elab.async false
set_option linter.all false
set_option maxRecDepth 100000
set_option maxHeartbeats 4000000
/-! zip of a text and a tuple -/
namespace LK
open PySem PySem.Spec PyProof.Rows L2 SX
/-- the signs of x beside the items of the tuple at b, in new pairs -/
def ItzST (K : PySem.W.Frag) (x : Str) (b : Addr) : It where
  go := fun i H => ∃ (ys : List V) (c : Nat) (y : V), SqT K H b ys ∧ x.cps[i]? = some c ∧ ys[i]? = some y
  yld := fun i H v H' => ∃ T c y, v = .ref T ∧ H T = none ∧ H' = upd H T (.tup [.str ⟨#[c]⟩, y]) ∧ x.cps[i]? = some c ∧ ∀ ys, SqT K H b ys → ys[i]? = some y
  stop := fun i H => ∃ ys : List V, SqT K H b ys ∧ i ≤ x.cps.size ∧ i ≤ ys.length ∧ (i = x.cps.size ∨ i = ys.length)
theorem sep_of {z TI TO i1 i2 b : Addr} (D : ZipApart z TI TO i1 i2 b b) : ZipSep2 z TI TO i1 i2 [i1] [i2, b] :=
  ⟨D.TIz, D.TOz, D.TITO, D.TIi1, by simp, by simpa using D.i1z.symm, by simpa using D.TOi1, D.TIi2, by simp, by simp [D.i2z.symm, D.l1z.symm], by simp [D.TOi2, D.l1TO.symm], by simp [D.i12, D.l1i1.symm], by simpa using D.i12.symm⟩
theorem turn_zipST {P : Program} {w : World} {K : PySem.W.Frag} {elts : List Expr} {kk : Nat} {tpos : Pos} {x : Str} {t : Tok} {b z TI TO i1 i2 : Addr} (D : ZipApart z TI TO i1 i2 b b) :
    Turn P w K (.Tuple elts kk tpos) (ItzST K x b) [z, TI, TO, i1, i2] z (fun i h => IsZip h z TI TO .none ∧ IsTupOf2 h TI (.ref i1) (.ref i2) ∧ (∃ u v, IsTupOf2 h TO u v) ∧ h.IsStrIter i1 (strIterType x) x t i ∧ h.IsTupleIter i2 b i) where
  mem := List.mem_cons_self
  obj := fun i h ⟨a1, a2, ⟨u, v, a3⟩, ⟨o1, e1, _, d1⟩, ⟨o2, e2, _, d2⟩⟩ c hc => by
    simp only [List.mem_cons, List.not_mem_nil, or_false] at hc
    rcases hc with rfl | rfl | rfl | rfl | rfl
    · exact ⟨_, a1, fun v q => nomatch q⟩
    · exact ⟨_, a2, fun v q => nomatch q⟩
    · exact ⟨_, a3, fun v q => nomatch q⟩
    · exact ⟨o1, e1, fun v q => by rw [d1] at q; cases q⟩
    · exact ⟨o2, e2, fun v q => by rw [d2] at q; cases q⟩
  keep := fun i h h' ⟨a1, a2, ⟨u, v, a3⟩, a4, a5⟩ k =>
    ⟨k z (by simp) _ a1, k TI (by simp) _ a2, ⟨u, v, k TO (by simp) _ a3⟩, (let ⟨o, e, r⟩ := a4; ⟨o, k i1 (by simp) o e, r⟩), a5.at fun o q => k i2 (by simp) o q⟩
  item := by
    intro X hP hw hK hc i pins s σ H E I hf st hg
    subst hP hw hK
    obtain ⟨a1, a2, ⟨u0, v0, a3⟩, a4, a5⟩ := st
    obtain ⟨ys, c, y, hq, hx, hy⟩ := hg
    obtain ⟨its, rv, p, _⟩ := I.tuple hq
    obtain ⟨u, hu, ru⟩ := rv.get hy
    have hzl : z < s.heap.objs.size := Heap.lt_size a1
    have D1 := Draws.text (prog := X.prog) (w := X.w) (A := X.A.in1) (I.ok.hd hc) i1 x t
    have D2 := Draws.tuple (prog := X.prog) (w := X.w) (A := X.A.in1) (I.ok.hd hc) i2 b D.l1i2 its.toArray
    have l1 : i < x.cps.size := (Array.getElem?_eq_some_iff.mp hx).1
    have l2 : i < its.toArray.size := by
      have := (List.getElem?_eq_some_iff.mp hu).1
      simpa using this
    refine wpAny_pyNext_zipD2_item (sep_of D) D1 D2 a1 a2 a3 a4 ⟨a5, p⟩ l1 l2 fun x1 x2 h' tk p1 p2 b1 b2 b3 b4 b5 b6 hk => ?_
    obtain ⟨c', tc, hc', rfl⟩ := p1
    obtain rfl : c' = c := Option.some.inj (hc'.symm.trans hx)
    obtain rfl : x2 = u := by
      have p2 : its.toArray[i]? = some x2 := p2
      rw [show its.toArray[i]? = some u by simpa using hu] at p2
      exact (Option.some.inj p2).symm
    refine ⟨_, rfl, wpAny_letOwnedTupleGo_zip (s := { s with heap := h', toks := tk }) b1 fun h'' z'' sb => ?_⟩
    have hT2 : h''.get? s.heap.objs.size = _ := (sb.2 _ (Nat.ne_of_gt hzl)).trans b5
    have new : ObjOk X.prog X.w (upd H s.heap.objs.size (.tup [.str ⟨#[c']⟩, y])) h'' s.heap.objs.size (.tup [.str ⟨#[c']⟩, y]) :=
      ⟨by show 2 ≤ sizeLine; decide, [.str ⟨#[c']⟩ tc, x2], .cons ⟨_, rfl⟩ (.cons ru .nil), ⟨_, hT2, rfl, _, rfl⟩⟩
    have I1 : Inv X pins σ (upd H s.heap.objs.size (.tup [.str ⟨#[c']⟩, y])) { s with heap := h'', toks := tk } :=
      I.turnedNew (t' := tk) (ch := [z, TI, TO, i1, i2]) (fun q o hb e => (sb.2 q (fun g => hb (by simp [g]))).trans (hk q o (fun g => hb (by simp [g])) (fun g => hb (by simp [g])) (fun g => hb (by simp [g])) (fun g => hb (by simp [g])) e)) hf (Nat.le_refl _) new
    refine ⟨.ref s.heap.objs.size, _, I1, rfl, ⟨_, c', y, rfl, I.hok.fresh (Nat.le_refl _), rfl, hx, fun l hl => by rw [I.tuple_inj hl hq]; exact hy⟩, ⟨z'', ?_, ⟨_, _, (sb.2 _ D.TOz).trans b2⟩, (let ⟨o, e, r⟩ := b3; ⟨o, (sb.2 _ D.i1z).trans e, r⟩), b4.1.at fun o q => (sb.2 _ D.i2z).trans q⟩, fun q hm => ?_⟩
    · exact (sb.2 _ D.TIz).trans (hk _ _ D.TIz D.TITO D.TIi1 D.TIi2 a2)
    · have hlt : q < s.heap.objs.size := by
        simp only [List.mem_cons, List.not_mem_nil, or_false] at hm
        rcases hm with rfl | rfl | rfl | rfl | rfl
        · exact hzl
        · exact Heap.lt_size a2
        · exact Heap.lt_size a3
        · obtain ⟨_, e, _⟩ := a4; exact Heap.lt_size e
        · obtain ⟨_, e, _⟩ := a5; exact Heap.lt_size e
      rw [upd_ne (Nat.ne_of_lt hlt)]
      exact (hf q hm).1
  done := by
    intro X hP hw hK hc i pins s σ H E I hf st hg
    subst hP hw hK
    obtain ⟨a1, a2, ⟨u0, v0, a3⟩, a4, a5⟩ := st
    obtain ⟨ys, hq, e1, e2, e3⟩ := hg
    obtain ⟨its, rv, p, _⟩ := I.tuple hq
    have hl := rv.length
    have D1 := Draws.text (prog := X.prog) (w := X.w) (A := X.A.in1) (I.ok.hd hc) i1 x t
    have D2 := Draws.tuple (prog := X.prog) (w := X.w) (A := X.A.in1) (I.ok.hd hc) i2 b D.l1i2 its.toArray
    have hz : its.toArray.size = ys.length := by simp; omega
    refine wpAny_pyNext_zipD2_end (sep_of D) D1 D2 a1 a2 a3 a4 ⟨a5, p⟩ e1 (by omega) (by omega) fun h' tk hk => ⟨rfl, ?_⟩
    exact I.turnedL (t' := tk) (ch := [z, TI, TO, i1, i2]) (fun q o hb e => hk q o (fun g => hb (by simp [g])) (fun g => hb (by simp [g])) (fun g => hb (by simp [g])) (fun g => hb (by simp [g])) e) hf
  self := fun A i s Q E st h => wpAny_pyIter_zip st.1 h
def iZipST (K : PySem.W.Frag) (ta : TA) : TI := fun σ H R => ta σ H fun vs H1 => ∃ z b ys, vs = [.str z, .ref b] ∧ SqT K H1 b ys ∧ R (ItzST K z b) H1
theorem pi_zipST {X : Cx} {e e2 : Expr} {ta : TA} {p pos tpos : Pos} {elts : List Expr} {kk : Nat} (hg : Gl X "zip") (hm : X.mg "zip" = none) (ha : PA X [e, e2] ta)
    (hs : starEach [e, e2] X.env = (false, eval e X.env) :: starEach [e2] X.env := by rfl) (hpl : (backTo pos (starEach [e2] X.env)).any (·.1) = false := by rfl) :
    PI X (.Tuple elts kk tpos) (.Call (.Name "zip" p) [e, e2] [] pos) (iZipST X.K ta) := by
  refine ⟨fun pins s σ H R I h => ?_⟩
  refine Call_ (ld_blt I hg hm PyProof.Rows.boot_zip (PyProof.Rows.callWith_type1 (thn (ha.run pos pins s σ H _ I h) fun us s1 ⟨vs, H1, I1, r1, q1⟩ => ?_) hs hpl))
  obtain ⟨z, b, ys, rfl, hq, q⟩ := q1
  obtain ⟨u1, u2, rfl, r1, r2⟩ := vals2 r1
  obtain ⟨t, rfl⟩ := r1
  cases r2
  obtain ⟨its, rv, pt, _⟩ := I1.tuple hq
  obtain ⟨o2, ho2, _⟩ := id pt
  refine zip_begins2 (begins_text z t) (begins_tuple b its.toArray) trivial pt fun h' hz hTI hTO h1 h2 hsz hk => wpAny_pyIter_zip hz ?_
  have hb : b < s1.heap.objs.size := Heap.lt_size ho2
  refine ⟨s1.heap.objs.size + 4, [s1.heap.objs.size + 4, s1.heap.objs.size + 2, s1.heap.objs.size + 3, s1.heap.objs.size, s1.heap.objs.size + 1], _, _, H1, rfl, I1.kept (t' := s1.toks) hk, turn_zipST (x := z) (t := t) (PySem.W.ktu_apart s1.heap.objs.size b b hb hb), ⟨hz, hTI, ⟨_, _, hTO⟩, ⟨_, h1, rfl, rfl⟩, ⟨_, h2, rfl, rfl⟩⟩, fun c hc => ?_, q⟩
  have hle : s1.heap.objs.size ≤ c := by
    simp only [List.mem_cons, List.not_mem_nil, or_false] at hc
    rcases hc with rfl | rfl | rfl | rfl | rfl
    · exact Nat.le_add_right _ _
    · exact Nat.le_add_right _ _
    · exact Nat.le_add_right _ _
    · exact Nat.le_refl _
    · exact Nat.le_add_right _ _
  exact I1.fpOk hle (I1.hok.fresh hle)
/-- walked over a text and a tuple of one length -/
theorem walk_zipST {K : PySem.W.Frag} {z : List Nat} {b : Addr} {ys : List V} (hl : z.length = ys.length) : Walk (ItzST K (S z) b) ys.length (fun H => SqT K H b ys) (YPair (fun i => (z[i]?).map fun c => V.str (S [c])) (fun i => ys[i]?)) := by
  have hz : (S z).cps.size = z.length := by simp [S]
  have hg : ∀ i : Nat, (S z).cps[i]? = z[i]? := fun i => by simp [S]
  refine ⟨fun i _ hi q => ⟨ys, z[i]'(by omega), ys[i], q, by rw [hg]; simp [hl, hi], by simp [hi]⟩, fun _ q => ⟨ys, q, by rw [hz, hl]; exact Nat.le_refl _, Nat.le_refl _, .inr rfl⟩, fun i H v H' _ q y => ?_⟩
  obtain ⟨T, c, y', h1, h2, h3, h4, h5⟩ := y
  exact ⟨T, .str (S [c]), y', h1, h2, h3, (by have hz4 := h4; rw [hg] at hz4; show (z[i]?).map (fun c => V.str (S [c])) = _; rw [hz4]; rfl), h5 ys q⟩
/-- a loop, by its turns -/
theorem walk_gen {J : It} {n : Nat} {G : Hp → Prop} {Y : Nat → Hp → V → Hp → Prop} (w : Walk J n G Y) {F : (Hp → Prop) → V → Hp → Prop} {H0 : Hp} {Qd : Hp → Prop} (Pv : Nat → Hp → Prop) (h0 : Pv 0 H0) (hG : ∀ i H, i ≤ n → Pv i H → G H)
    (hs : ∀ i x H H', i < n → Pv i H → Y i H x H' → F (Pv (i + 1)) x H') (hd : ∀ H, Pv n H → Qd H) :
    ∃ W : Nat → Nat → Hp → Prop, (∃ m, W 0 m H0) ∧ ∀ i m H, W i m H → (J.stop i H ∧ Qd H) ∨ (J.go i H ∧ ∃ Nx : Hp → Prop, (∀ H', Nx H' → ∃ m', m' < m ∧ W (i + 1) m' H') ∧ ∀ x H', J.yld i H x H' → F Nx x H') := by
  refine ⟨fun i m H => m = n - i ∧ i ≤ n ∧ Pv i H, ⟨n, by simp, Nat.zero_le _, h0⟩, ?_⟩
  rintro i m H ⟨rfl, hi, pv⟩
  rcases Nat.lt_or_ge i n with hlt | hge
  · exact .inr ⟨w.goes i H hlt (hG i H hi pv), Pv (i + 1), fun H' pv' => ⟨n - (i + 1), by omega, rfl, hlt, pv'⟩, fun x H' hy => hs i x H H' hlt pv (w.yields i H x H' hlt (hG i H hi pv) hy)⟩
  · have hin : i = n := by omega
    subst hin
    exact .inl ⟨w.stops H (hG i H hi pv), hd H pv⟩
end LK

set_option Elab.async false
set_option linter.all false
set_option maxRecDepth 100000
set_option maxHeartbeats 4000000
set_option exponentiation.threshold 3000
namespace K81
open PySem PySem.Spec PyProof.Rows LK SX
open L2 hiding spCell
def top (i : Nat) : Stmt := PySem.Challenge.pw_pyhold_k81_live_size.main.body.getD i (.Pass ⟨0, 0, 0, 0⟩)
structure Txt (K : PySem.W.Frag) (mg : Str → Option Value) : Prop where
  c_FIRST_OBJECTS : GInt mg "FIRST_OBJECTS" 17
  b_len : mg "len" = none
  b_int : mg "int" = none
  b_range : mg "range" = none
  b_list : mg "list" = none
  b_tuple : mg "tuple" = none
  b_isinstance : mg "isinstance" = none
  b_bool : mg "bool" = none
  b_str : mg "str" = none
  b_abs : mg "abs" = none
  b_zip : mg "zip" = none
  b_enumerate : mg "enumerate" = none
  b_sum : mg "sum" = none
def addN (f : List Int) : List Int → List Int
  | [] => f
  | k :: r => addN (if k ∈ f then f else f ++ [k]) r
theorem addN_app (f a b : List Int) : addN f (a ++ b) = addN (addN f a) b := by
  induction a generalizing f with
  | nil => rfl
  | cons k r ih => simp only [List.cons_append, addN]; exact ih _
/-- what is added stands behind, comes from the row, and all of the row is there -/
theorem addN_pref (f rs : List Int) : ∃ more, addN f rs = f ++ more ∧ ∀ x ∈ more, x ∈ rs := by
  induction rs generalizing f with
  | nil => exact ⟨[], by simp [addN], by simp⟩
  | cons k r ih =>
    obtain ⟨m, e, h⟩ := ih (if k ∈ f then f else f ++ [k])
    by_cases c : k ∈ f
    · rw [if_pos c] at e
      exact ⟨m, by rw [addN, if_pos c, e], fun x hx => List.mem_cons_of_mem _ (h x hx)⟩
    · rw [if_neg c] at e
      refine ⟨k :: m, by rw [addN, if_neg c, e]; simp, fun x hx => ?_⟩
      rcases List.mem_cons.mp hx with rfl | hx
      · exact List.mem_cons_self
      · exact List.mem_cons_of_mem _ (by
          have := h x
          exact h x hx)
theorem addN_nodup {f : List Int} (rs : List Int) (h : f.Nodup) : (addN f rs).Nodup := by
  induction rs generalizing f with
  | nil => exact h
  | cons k r ih =>
    rw [addN]
    by_cases c : k ∈ f
    · rw [if_pos c]; exact ih h
    · rw [if_neg c]
      refine ih (List.nodup_append.mpr ⟨h, by simp, fun a ha b hb => ?_⟩)
      rw [List.mem_singleton.mp hb]
      exact fun e => c (e ▸ ha)
theorem addN_sub {f x} (rs : List Int) (h : x ∈ f) : x ∈ addN f rs := by
  obtain ⟨m, e, _⟩ := addN_pref f rs
  rw [e]; exact List.mem_append_left _ h
theorem addN_all (f rs : List Int) : ∀ x ∈ rs, x ∈ addN f rs := by
  induction rs generalizing f with
  | nil => simp
  | cons k r ih =>
    intro x hx
    rw [addN]
    rcases List.mem_cons.mp hx with rfl | hx
    · refine addN_sub r ?_
      by_cases c : x ∈ f
      · rw [if_pos c]; exact c
      · rw [if_neg c]; simp
    · exact ih _ x hx
theorem addN_mem {f rs : List Int} {x : Int} (h : x ∈ addN f rs) : x ∈ f ∨ x ∈ rs := by
  obtain ⟨m, e, hm⟩ := addN_pref f rs
  rw [e] at h
  rcases List.mem_append.mp h with h | h
  · exact .inl h
  · exact .inr (hm x h)
theorem addN_len (f rs : List Int) : (addN f rs).length ≤ f.length + rs.length := by
  induction rs generalizing f with
  | nil => exact Nat.le_refl _
  | cons k r ih =>
    rw [addN]
    have := ih (if k ∈ f then f else f ++ [k])
    have h2 : (if k ∈ f then f else f ++ [k]).length ≤ f.length + 1 := by split <;> simp
    rw [List.length_cons]; omega
/-- numbers below m, none twice: at most m -/
theorem nodup_len : ∀ (m : Nat) (l : List Int), l.Nodup → (∀ x ∈ l, 0 ≤ x ∧ x < (m : Int)) → l.length ≤ m
  | 0, l, _, h => by
    cases l with
    | nil => exact Nat.le_refl _
    | cons x r => have := h x (by simp); omega
  | m + 1, l, hn, h => by
    have h1 := nodup_len m (l.erase (m : Int)) (hn.erase _) (fun x hx => by
      obtain ⟨h2, h3⟩ := (List.Nodup.mem_erase_iff hn).mp hx
      have := h x h3
      omega)
    have : l.length ≤ (l.erase (m : Int)).length + 1 := by
      rw [List.length_erase]
      split <;> omega
    omega
def S0 (roots : List Int) : List Int := addN ((List.range 17).map fun (i : Nat) => (i : Int)) roots
def St (R : Int → List Int) (roots : List Int) : Nat → List Int
  | 0 => S0 roots
  | t + 1 => match (St R roots t)[t]? with
    | some k => addN (St R roots t) (R k)
    | none => St R roots t
section
variable {R : Int → List Int} {roots : List Int}
theorem St_lt {t : Nat} {k : Int} (h : (St R roots t)[t]? = some k) : St R roots (t + 1) = addN (St R roots t) (R k) := by
  rw [St, h]
theorem St_pref (t : Nat) : ∃ more, St R roots (t + 1) = St R roots t ++ more := by
  rw [St]
  split
  · obtain ⟨m, e, _⟩ := addN_pref (St R roots t) (R _)
    exact ⟨m, e⟩
  · exact ⟨[], by simp⟩
theorem St_le {s t : Nat} (h : s ≤ t) : ∃ more, St R roots t = St R roots s ++ more := by
  induction t with
  | zero => obtain rfl : s = 0 := by omega
            exact ⟨[], by simp⟩
  | succ t ih =>
    by_cases e : s = t + 1
    · subst e; exact ⟨[], by simp⟩
    · obtain ⟨m, e1⟩ := ih (by omega)
      obtain ⟨m2, e2⟩ := St_pref (R := R) (roots := roots) t
      exact ⟨m ++ m2, by rw [e2, e1, List.append_assoc]⟩
theorem St_at {s t i : Nat} {k : Int} (h : s ≤ t) (e : (St R roots s)[i]? = some k) : (St R roots t)[i]? = some k := by
  obtain ⟨m, e1⟩ := St_le (R := R) (roots := roots) h
  rw [e1, List.getElem?_append_left (List.getElem?_eq_some_iff.mp e).1]; exact e
theorem range17_nodup : ((List.range 17).map fun (i : Nat) => (i : Int)).Nodup := by decide
theorem St_nodup : ∀ t, (St R roots t).Nodup
  | 0 => addN_nodup _ range17_nodup
  | t + 1 => by
    rw [St]
    split
    · exact addN_nodup _ (St_nodup t)
    · exact St_nodup t
theorem St_lt_m {m : Nat} (hm : 17 ≤ m) (hR : ∀ k x, x ∈ R k → 0 ≤ x ∧ x < (m : Int)) (hr : ∀ x ∈ roots, 0 ≤ x ∧ x < (m : Int)) : ∀ t, ∀ x ∈ St R roots t, 0 ≤ x ∧ x < (m : Int)
  | 0, x, hx => by
    rcases addN_mem hx with h | h
    · obtain ⟨i, hi, rfl⟩ := List.mem_map.mp h
      have := List.mem_range.mp hi
      omega
    · exact hr x h
  | t + 1, x, hx => by
    rw [St] at hx
    split at hx
    · rcases addN_mem hx with h | h
      · exact St_lt_m hm hR hr t x h
      · exact hR _ x h
    · exact St_lt_m hm hR hr t x hx
theorem St_first (t : Nat) : ∃ more, St R roots t = ((List.range 17).map fun (i : Nat) => (i : Int)) ++ more := by
  obtain ⟨m, e⟩ := St_le (R := R) (roots := roots) (Nat.zero_le t)
  obtain ⟨m2, e2, _⟩ := addN_pref ((List.range 17).map fun (i : Nat) => (i : Int)) roots
  exact ⟨m2 ++ m, by rw [e]; show addN _ roots ++ m = _; rw [e2, List.append_assoc]⟩
theorem St_len17 (t : Nat) : 17 ≤ (St R roots t).length := by
  obtain ⟨m, e⟩ := St_first (R := R) (roots := roots) t
  rw [e]; simp
/-- where an element comes from -/
theorem St_from : ∀ (t i : Nat) (k : Int), 17 ≤ i → (St R roots t)[i]? = some k → k ∈ roots ∨ ∃ j x, j < i ∧ j < t ∧ (St R roots t)[j]? = some x ∧ k ∈ R x
  | 0, i, k, hi, e => by
    obtain ⟨m, e1, h1⟩ := addN_pref ((List.range 17).map fun (i : Nat) => (i : Int)) roots
    rw [show St R roots 0 = _ from e1, List.getElem?_append_right (by simpa using hi)] at e
    exact .inl (h1 k (List.mem_of_getElem? e))
  | t + 1, i, k, hi, e => by
    by_cases c : i < (St R roots t).length
    · have e0 : (St R roots t)[i]? = some k := by
        obtain ⟨m, e1⟩ := St_pref (R := R) (roots := roots) t
        rw [e1, List.getElem?_append_left c] at e
        exact e
      rcases St_from t i k hi e0 with h | ⟨j, x, h1, h2, h3, h4⟩
      · exact .inl h
      · exact .inr ⟨j, x, h1, by omega, St_at (Nat.le_succ t) h3, h4⟩
    · cases h : (St R roots t)[t]? with
      | none =>
        rw [St, h] at e
        exact absurd (List.getElem?_eq_some_iff.mp e).1 c
      | some x =>
        have e' := e
        rw [St_lt h] at e
        obtain ⟨m, e1, h1⟩ := addN_pref (St R roots t) (R x)
        rw [e1, List.getElem?_append_right (by omega)] at e
        have := (List.getElem?_eq_some_iff.mp h).1
        exact .inr ⟨t, x, by omega, by omega, St_at (Nat.le_succ t) h, h1 k (List.mem_of_getElem? e)⟩
/-- what was worked through is there -/
theorem St_done : ∀ (t j : Nat) (x : Int), j < t → (St R roots t)[j]? = some x → j < (St R roots j).length → ∀ k ∈ R x, k ∈ St R roots t
  | t, j, x, hj, e, hl, k, hk => by
    have e0 : (St R roots j)[j]? = some x := by
      have h := List.getElem?_eq_getElem hl
      have := St_at (t := t) (Nat.le_of_lt hj) h
      rw [e] at this
      rw [h, this]
    have h1 : k ∈ St R roots (j + 1) := by
      rw [St_lt e0]; exact addN_all _ _ k hk
    obtain ⟨m, e1⟩ := St_le (R := R) (roots := roots) (s := j + 1) (t := t) hj
    rw [e1]; exact List.mem_append_left _ h1
theorem St_roots (t : Nat) : ∀ k ∈ roots, k ∈ St R roots t := fun k hk => by
  obtain ⟨m, e1⟩ := St_le (R := R) (roots := roots) (Nat.zero_le t)
  rw [e1]; exact List.mem_append_left _ (addN_all _ _ k hk)
/-- the end: the first place that is behind the row -/
structure StEnd (R : Int → List Int) (roots : List Int) (t : Nat) : Prop where
  fin : (St R roots t).length ≤ t
  go : ∀ j < t, j < (St R roots j).length
theorem StEnd.uniq {s t : Nat} (a : StEnd R roots s) (b : StEnd R roots t) : s = t := by
  rcases Nat.lt_trichotomy s t with h | h | h
  · exact absurd (b.go s h) (by have := a.fin; omega)
  · exact h
  · exact absurd (a.go t h) (by have := b.fin; omega)
theorem StEnd.closed {t : Nat} (a : StEnd R roots t) : (∀ k ∈ roots, k ∈ St R roots t) ∧ ∀ (j : Nat) (x : Int), (St R roots t)[j]? = some x → ∀ k ∈ R x, k ∈ St R roots t := by
  refine ⟨St_roots t, fun j x e k hk => ?_⟩
  have hj : j < t := by have := (List.getElem?_eq_some_iff.mp e).1; have := a.fin; omega
  exact St_done t j x hj e (a.go j hj) k hk
end

abbrev s_law_cell : Stmt := top 23
abbrev N_law_cell : List Str := ["script", "k"]
abbrev P_law_cell : List Str := ["script", "k"]
theorem sc_law_cell : FnScope N_law_cell P_law_cell (defScope s_law_cell) := ⟨rfl, rfl, rfl, by decide +kernel, rfl, by decide +kernel, by decide +kernel⟩
abbrev s_law_digits : Stmt := top 27
abbrev N_law_digits : List Str := ["script", "first", "last", "digits", "k", "cell", "turn", "seed"]
abbrev P_law_digits : List Str := ["script", "first", "last"]
theorem sc_law_digits : FnScope N_law_digits P_law_digits (defScope s_law_digits) := ⟨rfl, rfl, rfl, by decide +kernel, rfl, by decide +kernel, by decide +kernel⟩
abbrev s_law_draw : Stmt := top 28
abbrev N_law_draw : List Str := ["box", "many", "at"]
abbrev P_law_draw : List Str := ["box", "many"]
theorem sc_law_draw : FnScope N_law_draw P_law_draw (defScope s_law_draw) := ⟨rfl, rfl, rfl, by decide +kernel, rfl, by decide +kernel, by decide +kernel⟩
section
variable {P : Program} {w : World} {K : PySem.W.Frag} {mg : Str → Option Value} {base : Heap}
theorem ok_draw {f : Addr} {fd : FuncData} (F : Fun K "_law_draw" "_law_draw" s_law_draw f fd) (T : Txt K mg) : FnG P w K mg base CX0 1 f fd P_law_draw (spDraw K) := by
  refine okG0 F sc_law_draw (fun vs H Q E h => ?_) fun cdv A outer s H vs Q E hr hg h => ?_
  · obtain ⟨p, dl, m, rfl, _⟩ := h
    rfl
  · obtain ⟨p, dl, m, rfl, B, hm, k⟩ := h
    obtain ⟨ds, n, hp, hn, hd, hl, hds⟩ := id B
    refine ⟨_, (pss_cons (ps_set (i := 2) sc_law_draw.nd rfl (Or.inl rfl) (pe_ix ix_list (pv 0) pe_int (fun _ _ => rfl)))
  (pss_cons (ps_asg (pe_op op_add (pv 2) pe_int) (pg_sub (pv 0) pe_int set_list))
  (pss_cons (ps_if (pt_cmpR op_lt (pv 2) (pe_callB call_len (by rfl) T.b_len PySem.boot_len (pa_cons (pe_ix ix_list (pv 0) pe_int (fun _ _ => rfl)) pa_nil)) (nomark _))
   (pss_one (ps_ret (pe_op op_mod (pe_callTy call_int1 (by rfl) T.b_int (by decide +kernel) (pa_cons (pe_ix ix_list (pe_ix ix_list (pv 0) pe_int (fun _ _ => rfl)) (pv 2) (fun _ _ => rfl)) pa_nil)) (pv 1))))
   pss_nil)
  (pss_one (ps_ret (pe_op op_mod (pe_callTy call_int1 (by rfl) T.b_int (by decide +kernel) (pa_cons (pe_op op_add (pe_op op_mul (pv 2) pe_int) pe_int) pa_nil)) (pv 1))))))), ?_⟩
    -- at = box[1]; box[1] = at + 1
    refine ⟨_, rfl, p, _, _, _, rfl, rfl, SqL.of hp, rfl, ?_⟩
    refine ⟨_, rfl, _, _, rfl, rfl, _, rfl, p, _, _, _, rfl, rfl, hp, rfl, ?_⟩
    have npd : dl ≠ p := by
      intro e
      subst e
      rw [hp] at hd
      have e := HO.lst.inj (Option.some.inj hd)
      cases ds with
      | nil => cases e
      | cons d ds => cases (List.cons.inj e).1
    have B' : BoxAt (upd H p (.lst [.ref dl, .int (n + 1)])) p dl := ⟨ds, n + 1, upd_same, by omega, by rw [upd_ne npd]; exact hd, hl, hds⟩
    have kp : Keep p H (upd H p (.lst [.ref dl, .int (n + 1)])) := fun b o e hb => by rw [upd_ne hb]; exact e
    have hd' : upd H p (.lst [.ref dl, .int (n + 1)]) dl = some (.lst (ds.map V.int)) := by rw [upd_ne npd]; exact hd
    -- if at < len(box[0])
    refine ⟨_, rfl, _, rfl, p, _, _, _, rfl, rfl, SqL.of upd_same, rfl, _, _, rfl, .inl ⟨_, SqL.of hd', rfl⟩, ?_⟩
    refine ⟨_, _, rfl, rfl, _, rfl, ?_⟩
    refine ite2 (fun c => ?_) fun c => ?_
    · have c1 : n < (ds.length : Int) := by simpa using c
      have c2 : n.toNat < ds.length := by omega
      have mem := hds _ (List.getElem_mem c2)
      refine ⟨_, rfl, p, _, _, _, rfl, rfl, SqL.of upd_same, rfl, _, rfl, dl, _, _, .int ds[n.toNat], rfl, rfl, SqL.of hd', ?_, .inl ⟨_, rfl, ?_⟩⟩
      · have e : n = ((n.toNat : Nat) : Int) := by omega
        exact at_of e (by simp [c2])
      · refine ⟨_, rfl, _, _, rfl, rfl, hm, ?_⟩
        exact k _ _ (Int.emod_nonneg _ (by omega)) (Int.emod_lt_of_pos _ hm) B' kp
    · refine ⟨_, rfl, _, _, rfl, rfl, .inr ⟨by decide, by decide⟩, _, _, rfl, rfl, .inl ⟨_, rfl, _, rfl, _, _, rfl, rfl, hm, ?_⟩⟩
      exact k _ _ (Int.emod_nonneg _ (by omega)) (Int.emod_lt_of_pos _ hm) B' kp
theorem ok_cell {f : Addr} {fd : FuncData} (F : Fun K "_law_cell" "_law_cell" s_law_cell f fd) (T : Txt K mg) : FnG P w K mg base CX0 1 f fd P_law_cell (spCell K) := by
  refine okG0 F sc_law_cell (fun vs H Q E h => ?_) fun cdv A outer s H vs Q E hr hg h => ?_
  · obtain ⟨a, ns, i, rfl, _⟩ := h
    rfl
  · obtain ⟨a, ns, i, rfl, hs, hi, k⟩ := h
    refine ⟨_, (pss_cons (ps_if (pt_cmpR op_lt (pv 1) (pe_callB call_len (by rfl) T.b_len PySem.boot_len (pa_cons (pv 0) pa_nil)) (nomark _))
   (pss_one (ps_ret (pe_ix ix_list (pv 0) (pv 1) (fun _ _ => rfl))))
   pss_nil)
  (pss_one (ps_ret pe_int))), ?_⟩
    refine ⟨_, rfl, _, rfl, _, _, rfl, .inl ⟨_, hs, rfl⟩, _, _, rfl, rfl, _, rfl, ?_⟩
    refine ite3 (fun c => ?_) fun _ => k 0
    have c1 : i < (ns.length : Int) := by simpa using c
    have c2 : i.toNat < ns.length := by omega
    exact ⟨_, rfl, _, rfl, a, _, _, .int ns[i.toNat], rfl, rfl, hs, at_of (show i = ((i.toNat : Nat) : Int) by omega) (by simp [c2]), k _⟩
theorem ok_digits {f : Addr} {fd : FuncData} (F : Fun K "_law_digits" "_law_digits" s_law_digits f fd) (T : Txt K mg) (U_law_cell : Use P w K mg base CX0 "_law_cell" 1 P_law_cell (spCell K)) : FnG P w K mg base CX0 2 f fd P_law_digits (spDigits K) := by
  refine okG0 F sc_law_digits (fun vs H Q E h => ?_) fun cdv A outer s H vs Q E hr hg h => ?_
  · obtain ⟨a, ns, lo, hi, rfl, _⟩ := h
    rfl
  · obtain ⟨a, ns, lo, hi, rfl, hs, hlo, hhi, k⟩ := h
    refine ⟨_, (pss_cons (ps_set (i := 3) sc_law_digits.nd rfl (Or.inl rfl) (pe_lst pa_nil))
  (pss_cons (ps_for PassesOwn.never rfl (pi_range2 (by rfl) T.b_range (pa_cons (pv 1) (pa_cons (pv 2) pa_nil))) (pg_name (i := 4) sc_law_digits.nd rfl (Or.inl rfl))
   (pss_cons (ps_set (i := 5) sc_law_digits.nd rfl (Or.inl rfl) (pe_use U_law_cell (hr.mono (by decide)) hg rfl (pa_cons (pv 0) (pa_cons (pv 4) pa_nil))))
  (C8.pss_cut (ps_if (pt_cmpR op_lt (pv 5) pe_int (nomark _))
   (pss_one (ps_set (i := 5) sc_law_digits.nd rfl (Or.inl rfl) (pe_op op_sub pe_int (pe_op op_mul pe_int (pv 5)))))
   pss_nil)
  (pss_one (ps_if (pt_cmpR op_ge (pv 5) (pe_op op_pow pe_int pe_int) (nomark _))
   (pss_one (ps_for PassesOwn.never rfl (pi_range1 (by rfl) T.b_range (pa_cons pe_int pa_nil)) (pg_name (i := 6) sc_law_digits.nd rfl (Or.inl rfl))
   (pss_one (ps_if (pt_cmpR op_gt (pv 5) pe_int (nomark _))
   (pss_cons (ps_expr (pe_bm PySem.F.plainAttrs_list PySem.F.slot_list_append PySem.F.type_list_append mt_append (pv 3) (pa_cons (pe_op op_mod (pe_callTy call_int1 (by rfl) T.b_int (by decide +kernel) (pa_cons (pv 5) pa_nil)) pe_int) pa_nil)))
  (pss_one (ps_set (i := 5) sc_law_digits.nd rfl (Or.inl rfl) (pe_op op_fdiv (pv 5) pe_int))))
   pss_nil))))
   (pss_cons (ps_set (i := 7) sc_law_digits.nd rfl (Or.inl rfl) (pe_op op_mod (pe_callTy call_int1 (by rfl) T.b_int (by decide +kernel) (pa_cons (pe_op op_add (pe_op op_add (pe_op op_mul (pv 5) pe_int) (pe_op op_mul (pv 4) pe_int)) pe_int) pa_nil)) pe_int))
  (pss_one (ps_for PassesOwn.never rfl (pi_range1 (by rfl) T.b_range (pa_cons pe_int pa_nil)) (pg_name (i := 6) sc_law_digits.nd rfl (Or.inl rfl))
   (pss_cons (ps_set (i := 7) sc_law_digits.nd rfl (Or.inl rfl) (pe_op op_mod (pe_callTy call_int1 (by rfl) T.b_int (by decide +kernel) (pa_cons (pe_op op_add (pe_op op_add (pe_op op_mul (pv 7) pe_int) (pe_op op_mul pe_int (pv 6))) pe_int) pa_nil)) pe_int))
  (pss_one (ps_expr (pe_bm PySem.F.plainAttrs_list PySem.F.slot_list_append PySem.F.type_list_append mt_append (pv 3) (pa_cons (pe_op op_mod (pe_callTy call_int1 (by rfl) T.b_int (by decide +kernel) (pa_cons (pe_op op_fdiv (pv 7) pe_int) pa_nil)) pe_int) pa_nil)))))))))))))
  (pss_one (ps_ret (pv 3))))), ?_⟩
    refine ⟨by decide, fun dl nd => ?_⟩
    have sz : (4000 : Nat) < sizeLine := by decide
    -- for k in range(first, last)
    refine ⟨_, rfl, _, rfl, _, _, rfl, ⟨by omega, by omega, by omega, by omega⟩, ?_⟩
    refine for_range (lo := (lo : Int)) (n := ((hi : Int) - (lo : Int)).toNat) (fun i σ H1 => ∃ x5 x6 x7 x4, σ = [some (.ref a), some (.int lo), some (.int hi), some (.ref dl), x4, x5, x6, x7] ∧ DigAt H H1 dl (60 * i)) ?_ ?_ ?_
    · exact ⟨none, none, none, none, rfl, [], upd_same, by simp, by simp, Same.new nd⟩
    · rintro i σ H1 hi' ⟨x5, x6, x7, x4, rfl, D⟩
      have S1 : Same H H1 := let ⟨_, _, _, _, z⟩ := D; z
      -- cell = _law_cell(script, k)
      refine ⟨_, rfl, _, rfl, a, ns, _, rfl, S1.seq hs, by omega, fun cell => ?_⟩
      -- if cell < 0: cell = 1 - 2 * cell
      refine ⟨fun σ H2 => ∃ c : Int, σ = [some (.ref a), some (.int lo), some (.int hi), some (.ref dl), some (.int ((lo : Int) + i)), some (.int c), x6, x7] ∧ H2 = H1, ?_, ?_⟩
      · refine ⟨_, rfl, _, _, rfl, rfl, _, rfl, ?_⟩
        refine ite3 (fun _ => ?_) fun _ => ⟨cell, rfl, rfl⟩
        exact ⟨_, rfl, _, _, rfl, rfl, .inl ⟨by decide, by decide⟩, _, _, rfl, rfl, _, rfl, rfl⟩
      · rintro _ _ ⟨c, rfl, rfl⟩
        -- if cell >= 10 ** 18
        refine ⟨_, rfl, _, _, rfl, rfl, ⟨by decide, by decide, by decide⟩, _, _, rfl, rfl, _, rfl, ?_⟩
        refine ite3 (fun hc => ?_) fun hc => ?_
        · refine ⟨_, rfl, by decide, by decide, ?_⟩
          refine for_range (lo := 0) (n := 60) (fun j σ H1 => ∃ (c : Int) (y6 : Option V), σ = [some (.ref a), some (.int lo), some (.int hi), some (.ref dl), some (.int ((lo : Int) + i)), some (.int c), y6, x7] ∧ DigAt H H1 dl (60 * i + j)) ⟨c, x6, rfl, D⟩ ?_ ?_
          · rintro j σ H2 hj ⟨c, y6, rfl, D2⟩
            obtain ⟨ds, hd, hl, _⟩ := id D2
            refine ⟨_, rfl, _, _, rfl, rfl, _, rfl, ?_⟩
            refine ite3 (fun hp => ?_) fun _ => ⟨c, _, rfl, D2.mono (by omega)⟩
            have hp : 0 < c := by simpa using hp
            refine ⟨_, rfl, .inl ⟨rfl, _, SqL.of hd⟩, _, rfl, .inl ⟨_, rfl, _, _, rfl, rfl, (by show (0 : Int) < 1000; decide), dl, _, _, rfl, rfl, hd, (by simp; omega), ?_⟩⟩
            refine ⟨_, rfl, _, _, rfl, rfl, ⟨by decide, by decide⟩, ?_⟩
            exact ⟨_, _, rfl, D2.add hd nd (Int.emod_nonneg _ (by decide)) (Int.emod_lt_of_pos _ (by decide))⟩
          · rintro σ H2 ⟨c, y6, rfl, D2⟩
            exact ⟨_, _, _, _, rfl, D2.mono (by omega)⟩
        · refine ⟨_, rfl, _, _, rfl, rfl, .inr ⟨by decide, by decide⟩, _, rfl, _, _, rfl, rfl, .inr ⟨by decide, by decide⟩, _, _, rfl, rfl, _, _, rfl, rfl, .inl ⟨_, rfl, _, _, rfl, rfl, (by show (0 : Int) < 2147483647; decide), ?_⟩⟩
          refine ⟨_, rfl, by decide, by decide, ?_⟩
          refine for_range (lo := 0) (n := 12) (fun j σ H1 => ∃ (sd : Int) (y6 : Option V), σ = [some (.ref a), some (.int lo), some (.int hi), some (.ref dl), some (.int ((lo : Int) + i)), some (.int c), y6, some (.int sd)] ∧ DigAt H H1 dl (60 * i + j)) ⟨_, x6, rfl, D⟩ ?_ ?_
          · rintro j σ H2 hj ⟨sd, y6, rfl, D2⟩
            obtain ⟨ds, hd, hl, _⟩ := id D2
            refine ⟨_, rfl, _, _, rfl, rfl, .inr ⟨by decide, by decide⟩, _, rfl, _, _, rfl, rfl, .inl ⟨by decide, by decide⟩, _, _, rfl, rfl, _, _, rfl, rfl, .inl ⟨_, rfl, _, _, rfl, rfl, (by show (0 : Int) < 2147483647; decide), ?_⟩⟩
            refine ⟨_, rfl, .inl ⟨rfl, _, SqL.of hd⟩, _, rfl, _, _, rfl, rfl, ⟨by decide, by decide⟩, .inl ⟨_, rfl, _, _, rfl, rfl, (by show (0 : Int) < 1000; decide), dl, _, _, rfl, rfl, hd, (by simp; omega), ?_⟩⟩
            exact ⟨_, _, rfl, D2.add hd nd (Int.emod_nonneg _ (by decide)) (Int.emod_lt_of_pos _ (by decide))⟩
          · rintro σ H2 ⟨sd, y6, rfl, D2⟩
            exact ⟨_, _, _, _, rfl, D2.mono (by omega)⟩
    · rintro σ H1 ⟨x5, x6, x7, x4, rfl, D⟩
      exact ⟨_, rfl, k dl H1 nd (D.mono (by omega))⟩
end

section
variable {P : Program} {w : World} {K : PySem.W.Frag} {mg : Str → Option Value} {base : Heap}
inductive Val where
  | none | bool (b : Bool) | int (i : Int) | text (js : List Nat) | span (a b : Int) | built (js : List Nat) | host (js : List Nat) | ref (n : Nat)
def valD : Val → PyData
  | .none => .tuple [.str "none"]
  | .bool b => .tuple [.str "bool", .bool b]
  | .int i => .tuple [.str "int", .int i]
  | .text js => .tuple [.str "text", .str (tx js)]
  | .span a b => .tuple [.str "span", .int a, .int b]
  | .built js => .tuple [.str "built", .str (tx js)]
  | .host js => .tuple [.str "host", .str (tx js)]
  | .ref n => .tuple [.str "ref", .int (n : Int)]
structure TxOk (js : List Nat) : Prop where
  len : js.length ≤ 100000
  lt : ∀ j ∈ js, j < 95
def ValOk : Val → Prop
  | .int i => i.natAbs ≤ 2 ^ 258
  | .text js => TxOk js
  | .span a b => a.natAbs ≤ 2 ^ 258 ∧ b.natAbs ≤ 2 ^ 258
  | .built js => TxOk js
  | .host js => TxOk js
  | .ref n => n ≤ 2 ^ 100
  | _ => True
end

abbrev s_law_signs : Stmt := top 29
abbrev N_law_signs : List Str := ["signs"]
abbrev P_law_signs : List Str := []
theorem sc_law_signs : FnScope N_law_signs P_law_signs (defScope s_law_signs) := ⟨rfl, rfl, rfl, by decide +kernel, rfl, by decide +kernel, by decide +kernel⟩
abbrev s_law_text : Stmt := top 30
abbrev N_law_text : List Str := ["box", "up", "signs", "size", "k"]
abbrev P_law_text : List Str := ["box", "up"]
theorem sc_law_text : FnScope N_law_text P_law_text (defScope s_law_text) := ⟨rfl, rfl, rfl, by decide +kernel, rfl, by decide +kernel, by decide +kernel⟩
abbrev s_law_name : Stmt := top 31
abbrev N_law_name : List Str := ["box", "letters", "size", "k"]
abbrev P_law_name : List Str := ["box"]
theorem sc_law_name : FnScope N_law_name P_law_name (defScope s_law_name) := ⟨rfl, rfl, rfl, by decide +kernel, rfl, by decide +kernel, by decide +kernel⟩
abbrev s_law_number : Stmt := top 32
abbrev N_law_number : List Str := ["box", "bound", "kind", "number", "k"]
abbrev P_law_number : List Str := ["box"]
theorem sc_law_number : FnScope N_law_number P_law_number (defScope s_law_number) := ⟨rfl, rfl, rfl, by decide +kernel, rfl, by decide +kernel, by decide +kernel⟩
abbrev s_law_value : Stmt := top 33
abbrev N_law_value : List Str := ["box", "many", "kind", "low"]
abbrev P_law_value : List Str := ["box", "many"]
theorem sc_law_value : FnScope N_law_value P_law_value (defScope s_law_value) := ⟨rfl, rfl, rfl, by decide +kernel, rfl, by decide +kernel, by decide +kernel⟩
section
variable {P : Program} {w : World} {K : PySem.W.Frag} {mg : Str → Option Value} {base : Heap}
def spSigns (K : PySem.W.Frag) : Sp := fun vs H Q _ => vs = [] ∧ Q (.str chStr) H
theorem ok_signs {f : Addr} {fd : FuncData} (F : Fun K "_law_signs" "_law_signs" s_law_signs f fd) (T : Txt K mg) : FnG P w K mg base CX0 1 f fd P_law_signs (spSigns K) := by
  refine okG0 F sc_law_signs (fun vs H Q E h => ?_) fun cdv A outer s H vs Q E hr hg h => ?_
  · obtain ⟨rfl, _⟩ := h
    rfl
  · obtain ⟨rfl, k⟩ := h
    refine ⟨_, (pss_cons (ps_set (i := 0) sc_law_signs.nd rfl (Or.inl rfl) pe_str)
  (pss_one (ps_ret (pe_op op_add_str (pv 0) pe_str)))), ?_⟩
    refine ⟨_, rfl, _, _, rfl, rfl, by decide +kernel, ?_⟩
    exact k
theorem chars_of : ∀ {cs : List Nat}, (∀ c ∈ cs, ∃ j < 95, ch j = c) → ∃ js : List Nat, cs = js.map ch ∧ js.length = cs.length ∧ ∀ j ∈ js, j < 95
  | [], _ => ⟨[], rfl, rfl, by simp⟩
  | c :: r, h => by
    obtain ⟨j, hj, e⟩ := h c (by simp)
    obtain ⟨js, e1, e2, e3⟩ := chars_of (cs := r) fun d hd => h d (List.mem_cons_of_mem _ hd)
    exact ⟨j :: js, by rw [List.map_cons, e, e1], by simp [e2], fun x hx => by
      rcases List.mem_cons.mp hx with rfl | hx
      · exact hj
      · exact e3 x hx⟩
def chV (cs : List Nat) : List V := (cs.map fun c => (⟨#[c]⟩ : Str)).map V.str
theorem chV_app (a b : List Nat) : chV (a ++ b) = chV a ++ chV b := by unfold chV; rw [List.map_append, List.map_append]
theorem chV_len (a : List Nat) : (chV a).length = a.length := by unfold chV; simp
theorem one_len : ∀ cs : List Nat, ((cs.map fun c => (⟨#[c]⟩ : Str)).map (·.length)).sum = cs.length
  | [] => rfl
  | c :: r => by rw [List.map_cons, List.map_cons, List.sum_cons, one_len r]; simp [Str.length]; omega
def spText (K : PySem.W.Frag) : Sp := fun vs H Q _ => ∃ (p dl : Addr) (up : Nat), vs = [.ref p, .int (up : Int)] ∧ BoxAt H p dl ∧ up ≤ 1000 ∧ ∀ (js : List Nat) H', js.length ≤ up → (∀ j ∈ js, j < 95) → BoxAt H' p dl → Keep p H H' → Q (.str (tx js)) H'
theorem ok_text {f : Addr} {fd : FuncData} (F : Fun K "_law_text" "_law_text" s_law_text f fd) (T : Txt K mg) (U_law_signs : Use P w K mg base CX0 "_law_signs" 1 P_law_signs (spSigns K)) (U_law_draw : Use P w K mg base CX0 "_law_draw" 1 P_law_draw (spDraw K)) : FnG P w K mg base CX0 2 f fd P_law_text (spText K) := by
  refine okG0 F sc_law_text (fun vs H Q E h => ?_) fun cdv A outer s H vs Q E hr hg h => ?_
  · obtain ⟨p, dl, up, rfl, _⟩ := h
    rfl
  · obtain ⟨p, dl, up, rfl, B, hup, k⟩ := h
    refine ⟨_, (pss_cons (ps_set (i := 2) sc_law_text.nd rfl (Or.inr rfl) (pe_use0 U_law_signs (hr.mono (by decide)) hg rfl))
  (pss_cons (ps_set (i := 3) sc_law_text.nd rfl (Or.inl rfl) (pe_use U_law_draw (hr.mono (by decide)) hg rfl (pa_cons (pv 0) (pa_cons (pe_op op_add (pv 1) pe_int) pa_nil))))
  (pss_one (ps_ret (pe_bm PySem.F.plainAttrs_str PySem.F.slot_str_join PySem.F.type_str_join mt_join pe_str (pa_cons (pe_lc (own := [("k", 4)]) (g := (gName 4)) rfl sc_law_text.nd (pi_range1 (by rfl) T.b_range (pa_cons (pv 3) pa_nil)) (blkOk_by (N := N_law_text) (sc := defScope s_law_text) (by decide +kernel)) (fun _ _ _ _ _ => (pg_name (i := 4) sc_law_text.nd rfl (Or.inl rfl))) (fun _ _ _ _ _ => pts_nil) (fun _ _ _ _ _ => (pe_ix ix_str (pv 2) (pe_use U_law_draw (hr.mono (by decide)) hg rfl (pa_cons (pv 0) (pa_cons pe_int pa_nil))) (fun _ _ => rfl)))) pa_nil)))))), ?_⟩
    refine ⟨rfl, ?_⟩
    refine ⟨_, rfl, _, rfl, _, _, rfl, rfl, p, dl, (up : Int) + 1, rfl, B, by omega, fun r H1 r0 r1 B1 K1 => ?_⟩
    obtain ⟨n, rfl⟩ := Int.eq_ofNat_of_zero_le r0
    refine ⟨rfl, _, rfl, n, rfl, by omega, by omega, fun D hD => ?_⟩
    rw [Int.toNat_natCast]
    obtain ⟨hDp, hDd⟩ := B1.ne_new hD
    refine lc_it (walk_range (lo := 0) (n := n)) (fun i H' => ∃ cs : List Nat, H' D = some (.lst (chV cs)) ∧ cs.length = i ∧ (∀ c ∈ cs, ∃ j < 95, ch j = c) ∧ BoxAt H' p dl ∧ Keep p H1 H') ⟨[], upd_same, rfl, by simp, B1.same (Same.new hD), Same.keep (Same.new hD)⟩ (fun _ _ _ _ => trivial) ?_ ?_
    · rintro i x H5 H6 hi ⟨cs, e5, hl5, hc5, B5, K5⟩ ⟨rfl, rfl⟩
      refine ⟨rfl, tYes_of ?_⟩
      refine ⟨_, rfl, _, rfl, p, dl, 95, rfl, B5, by decide, fun r H7 q0 q1 B7 K7 => ?_⟩
      obtain ⟨j, rfl⟩ := Int.eq_ofNat_of_zero_le q0
      have e7 := K7 _ _ e5 hDp
      refine ⟨chStr, (j : Int), ch j, rfl, rfl, by decide +kernel, atI_nat (ch_at (by omega)), chV cs, e7, ?_, cs ++ [ch j], ?_, by simp [hl5], fun c hc => ?_, B7.upd hDp hDd, fun b o e hb => ?_⟩
      · rw [chV_len]; exact Nat.lt_of_le_of_lt (show cs.length ≤ 1000 by omega) (by decide)
      · rw [upd_same, chV_app]; rfl
      · rcases List.mem_append.mp hc with hc | hc
        · exact hc5 c hc
        · exact ⟨j, by omega, (List.mem_singleton.mp hc).symm⟩
      · rw [upd_ne (ne_of_none e hD)]; exact K7 _ _ (K5 _ _ e hb) hb
    · rintro H5 ⟨cs, e5, hl5, hc5, B5, K5⟩
      obtain ⟨js, rfl, h1, h2⟩ := chars_of hc5
      rw [List.length_map] at hl5
      refine ⟨_, D, _, rfl, rfl, .inl (SqL.of e5), ?_, ?_⟩
      · rw [one_len, List.length_map, List.length_map, show ("" : Str).length = 0 by decide +kernel]; omega
      · rw [join_chars]
        exact k js H5 (by omega) h2 B5 (K1.trans K5)
def nmC : List Nat := ("abcdefghijklmnopqrstuvwxyz_" : Str).cps.toList
def spName (K : PySem.W.Frag) : Sp := fun vs H Q _ => ∃ (p dl : Addr), vs = [.ref p] ∧ BoxAt H p dl ∧ ∀ (js : List Nat) H', js.length ≤ 5 → (∀ j ∈ js, j < 95) → BoxAt H' p dl → Keep p H H' → Q (.str (tx js)) H'
theorem ok_name {f : Addr} {fd : FuncData} (F : Fun K "_law_name" "_law_name" s_law_name f fd) (T : Txt K mg) (U_law_draw : Use P w K mg base CX0 "_law_draw" 1 P_law_draw (spDraw K)) : FnG P w K mg base CX0 2 f fd P_law_name (spName K) := by
  refine okG0 F sc_law_name (fun vs H Q E h => ?_) fun cdv A outer s H vs Q E hr hg h => ?_
  · obtain ⟨p, dl, rfl, _⟩ := h
    rfl
  · obtain ⟨p, dl, rfl, B, k⟩ := h
    refine ⟨_, (pss_cons (ps_set (i := 1) sc_law_name.nd rfl (Or.inr rfl) pe_str)
  (pss_cons (ps_set (i := 2) sc_law_name.nd rfl (Or.inl rfl) (pe_op op_add pe_int (pe_use U_law_draw (hr.mono (by decide)) hg rfl (pa_cons (pv 0) (pa_cons pe_int pa_nil)))))
  (pss_one (ps_ret (pe_bm PySem.F.plainAttrs_str PySem.F.slot_str_join PySem.F.type_str_join mt_join pe_str (pa_cons (pe_lc (own := [("k", 3)]) (g := (gName 3)) rfl sc_law_name.nd (pi_range1 (by rfl) T.b_range (pa_cons (pv 2) pa_nil)) (blkOk_by (N := N_law_name) (sc := defScope s_law_name) (by decide +kernel)) (fun _ _ _ _ _ => (pg_name (i := 3) sc_law_name.nd rfl (Or.inl rfl))) (fun _ _ _ _ _ => pts_nil) (fun _ _ _ _ _ => (pe_ix ix_str (pv 1) (pe_use U_law_draw (hr.mono (by decide)) hg rfl (pa_cons (pv 0) (pa_cons pe_int pa_nil))) (fun _ _ => rfl)))) pa_nil)))))), ?_⟩
    have hS : ("abcdefghijklmnopqrstuvwxyz_" : Str) = S nmC := by decide +kernel
    have hL : nmC.length = 27 := by decide +kernel
    have hl0 : ("abcdefghijklmnopqrstuvwxyz_" : Str).length ≤ sizeLine := by decide +kernel
    have hin : ∀ c ∈ nmC, ∃ j < 95, ch j = c := by decide +kernel
    refine ⟨_, rfl, p, dl, 5, rfl, B, by decide, fun r H1 r0 r1 B1 K1 => ⟨_, _, rfl, rfl, ?_⟩⟩
    obtain ⟨n, hn⟩ : ∃ n : Nat, 1 + r = (n : Int) := ⟨(1 + r).toNat, by omega⟩
    refine ⟨rfl, _, rfl, n, congrArg (fun z => [V.int z]) hn, by omega, by omega, fun D hD => ?_⟩
    rw [Int.toNat_natCast]
    obtain ⟨hDp, hDd⟩ := B1.ne_new hD
    refine lc_it (walk_range (lo := 0) (n := n)) (fun i H' => ∃ cs : List Nat, H' D = some (.lst (chV cs)) ∧ cs.length = i ∧ (∀ c ∈ cs, ∃ j < 95, ch j = c) ∧ BoxAt H' p dl ∧ Keep p H1 H') ⟨[], upd_same, rfl, by simp, B1.same (Same.new hD), Same.keep (Same.new hD)⟩ (fun _ _ _ _ => trivial) ?_ ?_
    · rintro i x H5 H6 hi ⟨cs, e5, hl5, hc5, B5, K5⟩ ⟨rfl, rfl⟩
      refine ⟨rfl, tYes_of ?_⟩
      refine ⟨_, rfl, _, rfl, p, dl, 27, rfl, B5, by decide, fun r H7 q0 q1 B7 K7 => ?_⟩
      obtain ⟨j, rfl⟩ := Int.eq_ofNat_of_zero_le q0
      have e7 := K7 _ _ e5 hDp
      have hc : nmC[j]? = some nmC[j] := List.getElem?_eq_getElem (by omega)
      have hcm := hin _ (List.getElem_mem (show j < nmC.length by omega))
      generalize nmC[j]'(by omega) = c at hc hcm
      refine ⟨S nmC, (j : Int), c, by rw [hS], rfl, by rw [← hS]; exact hl0, at_S hc, chV cs, e7, ?_, cs ++ [c], ?_, by simp [hl5], fun d hd => ?_, B7.upd hDp hDd, fun b o e hb => ?_⟩
      · rw [chV_len]; exact Nat.lt_of_le_of_lt (show cs.length ≤ 1000 by omega) (by decide)
      · rw [upd_same, chV_app]; rfl
      · rcases List.mem_append.mp hd with hd | hd
        · exact hc5 d hd
        · rw [List.mem_singleton.mp hd]; exact hcm
      · rw [upd_ne (ne_of_none e hD)]; exact K7 _ _ (K5 _ _ e hb) hb
    · rintro H5 ⟨cs, e5, hl5, hc5, B5, K5⟩
      obtain ⟨js, rfl, h1, h2⟩ := chars_of hc5
      rw [List.length_map] at hl5
      refine ⟨_, D, _, rfl, rfl, .inl (SqL.of e5), ?_, ?_⟩
      · rw [one_len, List.length_map, List.length_map, show ("" : Str).length = 0 by decide +kernel]; omega
      · rw [join_chars]
        exact k js H5 (by omega) h2 B5 (K1.trans K5)
def bd : Int := (2 ^ (64 : Int).toNat) ^ (4 : Int).toNat
theorem bd_eq : bd = 2 ^ 256 := by decide +kernel
def spNumb (K : PySem.W.Frag) : Sp := fun vs H Q _ => ∃ (p dl : Addr), vs = [.ref p] ∧ BoxAt H p dl ∧ ∀ (n : Int) H', n.natAbs < 2 ^ 256 → BoxAt H' p dl → Keep p H H' → Q (.int n) H'
theorem ok_number {f : Addr} {fd : FuncData} (F : Fun K "_law_number" "_law_number" s_law_number f fd) (T : Txt K mg) (U_law_draw : Use P w K mg base CX0 "_law_draw" 1 P_law_draw (spDraw K)) : FnG P w K mg base CX0 2 f fd P_law_number (spNumb K) := by
  refine okG0 F sc_law_number (fun vs H Q E h => ?_) fun cdv A outer s H vs Q E hr hg h => ?_
  · obtain ⟨p, dl, rfl, _⟩ := h
    rfl
  · obtain ⟨p, dl, rfl, B, k⟩ := h
    refine ⟨_, (pss_cons (ps_set (i := 1) sc_law_number.nd rfl (Or.inl rfl) (pe_op op_powW (pe_op op_pow pe_int pe_int) pe_int))
  (pss_cons (ps_set (i := 2) sc_law_number.nd rfl (Or.inl rfl) (pe_use U_law_draw (hr.mono (by decide)) hg rfl (pa_cons (pv 0) (pa_cons pe_int pa_nil))))
  (pss_cons (ps_set (i := 3) sc_law_number.nd rfl (Or.inl rfl) (pe_use U_law_draw (hr.mono (by decide)) hg rfl (pa_cons (pv 0) (pa_cons pe_int pa_nil))))
  (C8.pss_cut (ps_if (pt_cmpR op_eq (pv 2) pe_int (nomark _))
   (pss_one (ps_set (i := 3) sc_law_number.nd rfl (Or.inl rfl) (pe_op op_sub (pe_op op_sub (pv 1) pe_int) (pv 3))))
   (pss_one (ps_if (pt_cmpR op_eq (pv 2) pe_int (nomark _))
   (pss_one (ps_for PassesOwn.never rfl (pi_range1 (by rfl) T.b_range (pa_cons (pe_use U_law_draw (hr.mono (by decide)) hg rfl (pa_cons (pv 0) (pa_cons pe_int pa_nil))) pa_nil)) (pg_name (i := 4) sc_law_number.nd rfl (Or.inl rfl))
   (pss_one (ps_set (i := 3) sc_law_number.nd rfl (Or.inl rfl) (pe_op op_mod (pe_callTy call_int1 (by rfl) T.b_int (by decide +kernel) (pa_cons (pe_op op_add (pe_op op_mulW (pv 3) pe_int) (pe_use U_law_draw (hr.mono (by decide)) hg rfl (pa_cons (pv 0) (pa_cons pe_int pa_nil)))) pa_nil)) (pv 1))))))
   (pss_one (ps_if (pt_cmpR op_eq (pv 2) pe_int (nomark _))
   (pss_one (ps_set (i := 3) sc_law_number.nd rfl (Or.inl rfl) (pe_ix ix_list (pe_lst (pa_cons pe_int (pa_cons pe_int (pa_cons pe_int (pa_cons pe_int (pa_cons pe_int (pa_cons pe_int (pa_cons pe_int (pa_cons pe_int pa_nil))))))))) (pe_use U_law_draw (hr.mono (by decide)) hg rfl (pa_cons (pv 0) (pa_cons pe_int pa_nil))) (fun _ _ => rfl))))
   pss_nil)))))
  (pss_cons (ps_if (pt_cmpR op_eq (pe_use U_law_draw (hr.mono (by decide)) hg rfl (pa_cons (pv 0) (pa_cons pe_int pa_nil))) pe_int (nomark _))
   (pss_one (ps_ret (pe_un un_neg (pv 3))))
   pss_nil)
  (pss_one (ps_ret (pv 3)))))))), ?_⟩
    refine ⟨_, _, rfl, rfl, ⟨by decide, by decide⟩, _, _, rfl, rfl, ⟨by decide, by decide +kernel⟩, ?_⟩
    refine ⟨_, rfl, p, dl, 8, rfl, B, by decide, fun kind H1 k0 k1 B1 K1 => ?_⟩
    refine ⟨_, rfl, p, dl, 300, rfl, B1, by decide, fun n0 H2 n00 n01 B2 K2 => ?_⟩
    have K12 := K1.trans K2
    refine ⟨fun σ H' => ∃ (n : Int) (x4 : Option V), σ = [some (.ref p), some (.int bd), some (.int kind), some (.int n), x4] ∧ n.natAbs < 2 ^ 256 ∧ BoxAt H' p dl ∧ Keep p H H', ?_, ?_⟩
    · refine ⟨_, rfl, rfl, _, rfl, ?_⟩
      refine ite3 (fun _ => ?_) fun _ => ?_
      · refine ⟨_, rfl, _, _, rfl, rfl, _, rfl, _, _, rfl, rfl, bd - 1 - n0, none, rfl, ?_, B2, K12⟩
        rw [bd_eq]; omega
      refine ⟨_, rfl, rfl, _, rfl, ?_⟩
      refine ite3 (fun _ => ?_) fun _ => ?_
      · refine ⟨_, rfl, p, dl, 24, rfl, B2, by decide, fun m H3 m0 m1 B3 K3 => ?_⟩
        obtain ⟨m, rfl⟩ := Int.eq_ofNat_of_zero_le m0
        refine ⟨_, rfl, by omega, by omega, ?_⟩
        rw [Int.toNat_natCast]
        refine for_range (lo := 0) (n := m) (fun i σ H4 => ∃ (n : Int) (x4 : Option V), σ = [some (.ref p), some (.int bd), some (.int kind), some (.int n), x4] ∧ n.natAbs < 2 ^ 256 ∧ BoxAt H4 p dl ∧ Keep p H H4) ⟨n0, none, rfl, Nat.lt_of_lt_of_le (show n0.natAbs < 2 ^ 9 by omega) (Nat.pow_le_pow_right (by decide) (by decide)), B3, K12.trans K3⟩ ?_ ?_
        · rintro i σ H4 hi ⟨n, x4, rfl, hn, B4, K4⟩
          refine ⟨_, rfl, _, _, rfl, rfl, wide_mul (a := 256) (b := 10) hn (by decide) (by decide) (by decide) (by decide), _, rfl, p, dl, 1000, rfl, B4, by decide, fun r H5 r0 r1 B5 K5 => ⟨_, _, rfl, rfl, .inl ⟨_, rfl, _, rfl, _, _, rfl, rfl, ?_, (n * 1000 + r) % bd, some (.int (0 + (i : Int))), rfl, ?_, B5, K4.trans K5⟩⟩⟩
          · show 0 < bd; rw [bd_eq]; decide
          · have h0 := Int.emod_nonneg (n * 1000 + r) (show bd ≠ 0 by rw [bd_eq]; decide)
            have h1 := Int.emod_lt_of_pos (n * 1000 + r) (show 0 < bd by rw [bd_eq]; decide)
            generalize (n * 1000 + r) % bd = z at h0 h1
            rw [bd_eq] at h1; omega
        · rintro σ H4 h
          exact h
      refine ⟨_, rfl, rfl, _, rfl, ?_⟩
      refine ite3 (fun _ => ?_) fun _ => ?_
      · refine ⟨by decide, fun l hl => ?_⟩
        have S3 := Same.new (o := .lst ([(0 : Int), 1, 63, 64, 127, 128, 8191, 8192].map V.int)) hl
        have lp := (B2.ne_new hl).1
        have e3 := upd_same (H := H2) (a := l) (o := HO.lst ([(0 : Int), 1, 63, 64, 127, 128, 8191, 8192].map V.int))
        refine ⟨_, rfl, p, dl, 8, rfl, B2.same S3, by decide, fun r H4 r0 r1 B4 K4 => ?_⟩
        obtain ⟨j, rfl⟩ := Int.eq_ofNat_of_zero_le r0
        have hj : j < [(0 : Int), 1, 63, 64, 127, 128, 8191, 8192].length := by simp; omega
        have hz : [(0 : Int), 1, 63, 64, 127, 128, 8191, 8192][j]? = some [(0 : Int), 1, 63, 64, 127, 128, 8191, 8192][j] := List.getElem?_eq_getElem hj
        have hzb := (show ∀ z ∈ [(0 : Int), 1, 63, 64, 127, 128, 8191, 8192], z.natAbs < 2 ^ 14 by decide) _ (List.getElem_mem hj)
        generalize [(0 : Int), 1, 63, 64, 127, 128, 8191, 8192][j] = z at hz hzb
        refine ⟨l, _, _, .int z, rfl, rfl, SqL.of (K4 _ _ e3 lp), atI_nat (by rw [List.getElem?_map, hz]; rfl), z, none, rfl, Nat.lt_of_lt_of_le hzb (Nat.pow_le_pow_right (by decide) (by decide)), B4, (K12.trans (Same.keep S3)).trans K4⟩
      · exact ⟨n0, none, rfl, Nat.lt_of_lt_of_le (show n0.natAbs < 2 ^ 9 by omega) (Nat.pow_le_pow_right (by decide) (by decide)), B2, K12⟩
    · rintro _ H3 ⟨n, x4, rfl, hn, B3, K3⟩
      refine ⟨_, rfl, p, dl, 2, rfl, B3, by decide, fun r H4 r0 r1 B4 K4 => ⟨rfl, _, rfl, ?_⟩⟩
      refine ite3 (fun _ => ?_) fun _ => ?_
      · exact ⟨_, rfl, _, rfl, k _ _ (by rw [Int.natAbs_neg]; exact hn) B4 (K3.trans K4)⟩
      · exact ⟨_, rfl, k _ _ hn B4 (K3.trans K4)⟩
/-- a drawn value: within the bounds of the document -/
structure TxSm (js : List Nat) : Prop where
  len : js.length ≤ 12
  lt : ∀ j ∈ js, j < 95
def ValSm (m : Nat) : Val → Prop
  | .int i => i.natAbs < 2 ^ 256
  | .text js => TxSm js
  | .span a b => a.natAbs < 2 ^ 256 ∧ b.natAbs < 2 ^ 256
  | .built js => TxSm js
  | .host js => TxSm js
  | .ref n => n < m
  | _ => True
theorem ValSm.ok {m : Nat} (hm : m ≤ 10 ^ 20) : ∀ {x : Val}, ValSm m x → ValOk x
  | .none, _ => trivial
  | .bool _, _ => trivial
  | .int _, h => Nat.le_trans (Nat.le_of_lt h) (Nat.pow_le_pow_right (by decide) (by decide))
  | .text _, h => ⟨Nat.le_trans h.len (by decide), h.lt⟩
  | .span _ _, h => ⟨Nat.le_trans (Nat.le_of_lt h.1) (Nat.pow_le_pow_right (by decide) (by decide)), Nat.le_trans (Nat.le_of_lt h.2) (Nat.pow_le_pow_right (by decide) (by decide))⟩
  | .built _, h => ⟨Nat.le_trans h.len (by decide), h.lt⟩
  | .host _, h => ⟨Nat.le_trans h.len (by decide), h.lt⟩
  | .ref _, h => Nat.le_trans (Nat.le_of_lt h) (Nat.le_trans hm (by decide))
def spLVal (K : PySem.W.Frag) : Sp := fun vs H Q _ => ∃ (p dl : Addr) (m : Nat), vs = [.ref p, .int (m : Int)] ∧ BoxAt H p dl ∧ 0 < m ∧ m ≤ 10 ^ 20 ∧ ∀ (v : V) (x : Val) H', Dt K H' v (valD x) → ValSm m x → BoxAt H' p dl → Keep p H H' → Q v H'
theorem ok_value {f : Addr} {fd : FuncData} (F : Fun K "_law_value" "_law_value" s_law_value f fd) (T : Txt K mg) (U_law_draw : Use P w K mg base CX0 "_law_draw" 1 P_law_draw (spDraw K)) (U_law_number : Use P w K mg base CX0 "_law_number" 2 P_law_number (spNumb K)) (U_law_text : Use P w K mg base CX0 "_law_text" 2 P_law_text (spText K)) (U_law_name : Use P w K mg base CX0 "_law_name" 2 P_law_name (spName K)) :
    FnG P w K mg base CX0 3 f fd P_law_value (spLVal K) := by
  refine okG0 F sc_law_value (fun vs H Q E h => ?_) fun cdv A outer s H vs Q E hr hg h => ?_
  · obtain ⟨p, dl, m, rfl, _⟩ := h
    rfl
  · obtain ⟨p, dl, m, rfl, B, hm, hm2, k⟩ := h
    refine ⟨_, (pss_cons (ps_set (i := 2) sc_law_value.nd rfl (Or.inl rfl) (pe_use U_law_draw (hr.mono (by decide)) hg rfl (pa_cons (pv 0) (pa_cons pe_int pa_nil))))
  (pss_cons (ps_if (pt_cmpR op_eq (pv 2) pe_int (nomark _))
   (pss_one (ps_ret (pe_tup (pa_cons pe_str pa_nil))))
   pss_nil)
  (pss_cons (ps_if (pt_cmpR op_eq (pv 2) pe_int (nomark _))
   (pss_one (ps_ret (pe_tup (pa_cons pe_str (pa_cons (pe_cmpR op_eq (pe_use U_law_draw (hr.mono (by decide)) hg rfl (pa_cons (pv 0) (pa_cons pe_int pa_nil))) pe_int (nomark _)) pa_nil)))))
   pss_nil)
  (pss_cons (ps_if (pt_cmpR op_eq (pv 2) pe_int (nomark _))
   (pss_one (ps_ret (pe_tup (pa_cons pe_str (pa_cons (pe_use U_law_number (hr.mono (by decide)) hg rfl (pa_cons (pv 0) pa_nil)) pa_nil)))))
   pss_nil)
  (pss_cons (ps_if (pt_cmpR op_eq (pv 2) pe_int (nomark _))
   (pss_one (ps_ret (pe_tup (pa_cons pe_str (pa_cons (pe_use U_law_text (hr.mono (by decide)) hg rfl (pa_cons (pv 0) (pa_cons pe_int pa_nil))) pa_nil)))))
   pss_nil)
  (pss_cons (ps_if (pt_cmpR op_eq (pv 2) pe_int (nomark _))
   (pss_cons (ps_set (i := 3) sc_law_value.nd rfl (Or.inl rfl) (pe_use U_law_number (hr.mono (by decide)) hg rfl (pa_cons (pv 0) pa_nil)))
  (pss_one (ps_ret (pe_tup (pa_cons pe_str (pa_cons (pv 3) (pa_cons (pe_op op_add (pv 3) (pe_op op_mul (pe_use U_law_draw (hr.mono (by decide)) hg rfl (pa_cons (pv 0) (pa_cons pe_int pa_nil))) (pe_callTy call_int1 (by rfl) T.b_int (by decide +kernel) (pa_cons (pe_cmpR op_lt (pv 3) (pe_op op_pow pe_int pe_int) (nomark _)) pa_nil)))) pa_nil)))))))
   pss_nil)
  (pss_cons (ps_if (pt_cmpR op_eq (pv 2) pe_int (nomark _))
   (pss_one (ps_ret (pe_tup (pa_cons pe_str (pa_cons (pe_use U_law_name (hr.mono (by decide)) hg rfl (pa_cons (pv 0) pa_nil)) pa_nil)))))
   pss_nil)
  (pss_cons (ps_if (pt_cmpR op_eq (pv 2) pe_int (nomark _))
   (pss_one (ps_ret (pe_tup (pa_cons pe_str (pa_cons (pe_use U_law_name (hr.mono (by decide)) hg rfl (pa_cons (pv 0) pa_nil)) pa_nil)))))
   pss_nil)
  (pss_one (ps_ret (pe_tup (pa_cons pe_str (pa_cons (pe_op op_mod (pe_callTy call_int1 (by rfl) T.b_int (by decide +kernel) (pa_cons (pe_op op_add (pe_op op_mul (pe_use U_law_draw (hr.mono (by decide)) hg rfl (pa_cons (pv 0) (pa_cons pe_int pa_nil))) pe_int) (pe_use U_law_draw (hr.mono (by decide)) hg rfl (pa_cons (pv 0) (pa_cons pe_int pa_nil)))) pa_nil)) (pv 1)) pa_nil))))))))))))), ?_⟩
    refine ⟨_, rfl, p, dl, 10, rfl, B, by decide, fun kind H1 k0 k1 B1 K1 => ?_⟩
    -- a pair as it is made
    have mk1 : ∀ {H2 : Hp} {z : Str} {y : V} {d : PyData} {x : Val}, BoxAt H2 p dl → Keep p H H2 → Dt K H2 y d → valD x = .tuple [.str z, d] → ValSm m x → ∀ t, H2 t = none → Q (.ref t) (upd H2 t (.tup [.str z, y])) := fun B2 K2 dy e sm t ht =>
      k _ _ _ (by rw [e]; exact Dt.made ht (.cons (.str _) (.cons dy .nil))) sm (B2.same (Same.new ht)) (K2.trans (Same.keep (Same.new ht)))
    refine ⟨_, rfl, rfl, _, rfl, ?_⟩
    refine ite3 (fun _ => ?_) fun _ => ?_
    · exact ⟨sz_1, fun t ht => k _ .none _ (Dt.made ht (.cons (.str _) .nil)) trivial (B1.same (Same.new ht)) (K1.trans (Same.keep (Same.new ht)))⟩
    refine ⟨_, rfl, rfl, _, rfl, ?_⟩
    refine ite3 (fun _ => ?_) fun _ => ?_
    · exact ⟨_, rfl, p, dl, 2, rfl, B1, by decide, fun r H2 _ _ B2 K2 => ⟨rfl, sz_2, mk1 (x := .bool _) B2 (K1.trans K2) (.bl _) rfl trivial⟩⟩
    refine ⟨_, rfl, rfl, _, rfl, ?_⟩
    refine ite3 (fun _ => ?_) fun _ => ?_
    · exact ⟨_, rfl, p, dl, rfl, B1, fun n H2 hn B2 K2 => ⟨sz_2, mk1 (x := .int n) B2 (K1.trans K2) (.int _) rfl hn⟩⟩
    refine ⟨_, rfl, rfl, _, rfl, ?_⟩
    refine ite3 (fun _ => ?_) fun _ => ?_
    · exact ⟨_, rfl, p, dl, 12, rfl, B1, by decide, fun js H2 hl hj B2 K2 => ⟨sz_2, mk1 (x := .text js) B2 (K1.trans K2) (.str _) rfl ⟨hl, hj⟩⟩⟩
    refine ⟨_, rfl, rfl, _, rfl, ?_⟩
    refine ite3 (fun _ => ?_) fun _ => ?_
    · refine ⟨_, rfl, p, dl, rfl, B1, fun lo H2 hlo B2 K2 => ?_⟩
      refine ⟨_, rfl, _, rfl, _, rfl, p, dl, 3, rfl, B2, by decide, fun r H3 r0 r1 B3 K3 => ?_⟩
      refine ⟨_, rfl, _, _, rfl, rfl, ⟨by decide, by decide, by decide⟩, _, _, rfl, rfl, .inr ⟨_, rfl, _, _, rfl, rfl, .inl ⟨by omega, by omega⟩, _, _, rfl, rfl, sz_3, fun t ht => ?_⟩⟩
      refine k _ (.span lo _) _ (Dt.made ht (.cons (.str _) (.cons (.int _) (.cons (.int _) .nil)))) ⟨hlo, ?_⟩ (B3.same (Same.new ht)) (((K1.trans K2).trans K3).trans (Same.keep (Same.new ht)))
      have e10 : (10 : Int) ^ (20 : Int).toNat = 100000000000000000000 := by decide +kernel
      have e256 : (100000000000000000003 : Nat) < 2 ^ 256 := by decide +kernel
      show (lo + r * (if decide (lo < 10 ^ (20 : Int).toNat) = true then 1 else 0)).natAbs < 2 ^ 256
      rw [e10]
      by_cases c : lo < 100000000000000000000
      · rw [if_pos (decide_eq_true c), Int.mul_one]; omega
      · rw [if_neg (by rw [decide_eq_false c]; decide), Int.mul_zero, Int.add_zero]; exact hlo
    refine ⟨_, rfl, rfl, _, rfl, ?_⟩
    refine ite3 (fun _ => ?_) fun _ => ?_
    · exact ⟨_, rfl, p, dl, rfl, B1, fun js H2 hl hj B2 K2 => ⟨sz_2, mk1 (x := .built js) B2 (K1.trans K2) (.str _) rfl ⟨by omega, hj⟩⟩⟩
    refine ⟨_, rfl, rfl, _, rfl, ?_⟩
    refine ite3 (fun _ => ?_) fun _ => ?_
    · exact ⟨_, rfl, p, dl, rfl, B1, fun js H2 hl hj B2 K2 => ⟨sz_2, mk1 (x := .host js) B2 (K1.trans K2) (.str _) rfl ⟨by omega, hj⟩⟩⟩
    refine ⟨_, rfl, p, dl, 1000, rfl, B1, by decide, fun r H2 r0 r1 B2 K2 => ?_⟩
    refine ⟨_, _, rfl, rfl, .inl ⟨by omega, by omega⟩, _, rfl, p, dl, 1000, rfl, B2, by decide, fun r' H3 _ _ B3 K3 => ?_⟩
    have hm' : (0 : Int) < (m : Int) := by omega
    have h0 := Int.emod_nonneg (r * 1000 + r') (show (m : Int) ≠ 0 by omega)
    have h1 := Int.emod_lt_of_pos (r * 1000 + r') hm'
    obtain ⟨n, hn⟩ := Int.eq_ofNat_of_zero_le h0
    refine ⟨_, _, rfl, rfl, .inl ⟨_, rfl, _, rfl, _, _, rfl, rfl, hm', sz_2, mk1 (x := .ref n) B3 ((K1.trans K2).trans K3) (.int _) (by rw [hn]; rfl) (show n < m by omega)⟩⟩
end

abbrev s_law_tree : Stmt := top 34
abbrev N_law_tree : List Str := ["box", "depth", "kind", "number", "size", "k"]
abbrev P_law_tree : List Str := ["box", "depth"]
theorem sc_law_tree : FnScope N_law_tree P_law_tree (defScope s_law_tree) := ⟨rfl, rfl, rfl, by decide +kernel, rfl, by decide +kernel, by decide +kernel⟩
abbrev s_law_field : Stmt := top 35
abbrev N_law_field : List Str := ["box", "letter", "many", "size", "k", "kind"]
abbrev P_law_field : List Str := ["box", "letter", "many"]
theorem sc_law_field : FnScope N_law_field P_law_field (defScope s_law_field) := ⟨rfl, rfl, rfl, by decide +kernel, rfl, by decide +kernel, by decide +kernel⟩
abbrev s_law_shape : Stmt := top 36
abbrev N_law_shape : List Str := ["box", "table", "many", "row"]
abbrev P_law_shape : List Str := ["box", "table", "many"]
theorem sc_law_shape : FnScope N_law_shape P_law_shape (defScope s_law_shape) := ⟨rfl, rfl, rfl, by decide +kernel, rfl, by decide +kernel, by decide +kernel⟩
abbrev s_law_shape_of : Stmt := top 37
abbrev N_law_shape_of : List Str := ["box", "row", "many", "item", "letter"]
abbrev P_law_shape_of : List Str := ["box", "row", "many"]
theorem sc_law_shape_of : FnScope N_law_shape_of P_law_shape_of (defScope s_law_shape_of) := ⟨rfl, rfl, rfl, by decide +kernel, rfl, by decide +kernel, by decide +kernel⟩
abbrev s_law_frames : Stmt := top 40
abbrev N_law_frames : List Str := ["words", "rows", "word", "parts"]
abbrev P_law_frames : List Str := []
theorem sc_law_frames : FnScope N_law_frames P_law_frames (defScope s_law_frames) := ⟨rfl, rfl, rfl, by decide +kernel, rfl, by decide +kernel, by decide +kernel⟩
abbrev s_law_objects : Stmt := top 38
abbrev N_law_objects : List Str := []
abbrev P_law_objects : List Str := []
theorem sc_law_objects : FnScope N_law_objects P_law_objects (defScope s_law_objects) := ⟨rfl, rfl, rfl, by decide +kernel, rfl, by decide +kernel, by decide +kernel⟩
abbrev s_law_controls : Stmt := top 39
abbrev N_law_controls : List Str := []
abbrev P_law_controls : List Str := []
theorem sc_law_controls : FnScope N_law_controls P_law_controls (defScope s_law_controls) := ⟨rfl, rfl, rfl, by decide +kernel, rfl, by decide +kernel, by decide +kernel⟩
section
variable {P : Program} {w : World} {K : PySem.W.Frag} {mg : Str → Option Value} {base : Heap}
/-! a list that a comprehension fills by draws -/
def Acc (K : PySem.W.Frag) (H1 : Hp) (D p dl : Addr) (Pd : PyData → Prop) (i : Nat) (H : Hp) : Prop := ∃ acc ds, H D = some (.lst acc) ∧ DtAll K H acc ds ∧ ds.length = i ∧ (∀ d ∈ ds, Pd d) ∧ BoxAt H p dl ∧ Keep p H1 H
theorem Acc.start {H1 : Hp} {D p dl : Addr} {Pd : PyData → Prop} (hD : H1 D = none) (B : BoxAt H1 p dl) : Acc K H1 D p dl Pd 0 (upd H1 D (.lst [])) :=
  ⟨[], [], upd_same, .nil, rfl, by simp, B.same (Same.new hD), Same.keep (Same.new hD)⟩
theorem Acc.put {H1 H5 H7 : Hp} {D p dl : Addr} {Pd : PyData → Prop} {i : Nat} {v : V} {d : PyData} (A : Acc K H1 D p dl Pd i H5) (hi : i < 10000) (hD : H1 D = none) (B1 : BoxAt H1 p dl) (B : BoxAt H7 p dl) (k : Keep p H5 H7) (dv : Dt K H7 v d) (hd : Pd d) :
    ∃ acc, H7 D = some (.lst acc) ∧ acc.length < sizeLine ∧ Acc K H1 D p dl Pd (i + 1) (upd H7 D (.lst (acc ++ [v]))) := by
  obtain ⟨acc, ds, e, a, hl, hp, B5, k5⟩ := A
  obtain ⟨hDp, hDd⟩ := B1.ne_new hD
  have e7 := k _ _ e hDp
  have kT : KeepT K H7 (upd H7 D (.lst (acc ++ [v]))) := KeepT.upd e7
  have hal := a.length
  refine ⟨acc, e7, Nat.lt_of_le_of_lt (show acc.length ≤ 10000 by omega) (by decide), acc ++ [v], ds ++ [d], upd_same, DtAll.app ((a.keepT (k.keepT B5.at_)).keepT kT) (.cons (dv.keepT kT) .nil), by simp [hl], fun x hx => ?_, B.upd hDp hDd, fun b o e hb => ?_⟩
  · rcases List.mem_append.mp hx with hx | hx
    · exact hp x hx
    · rw [List.mem_singleton.mp hx]; exact hd
  · rw [upd_ne (ne_of_none e hD)]; exact k _ _ (k5 _ _ e hb) hb
/-! trees -/
inductive TreeD : Nat → PyData → Prop
  | str {n : Nat} (js : List Nat) : js.length ≤ 12 → (∀ j ∈ js, j < 95) → TreeD n (.str (tx js))
  | int {n : Nat} (i : Int) : i.natAbs ≤ 2 ^ 257 → TreeD n (.int i)
  | bool {n : Nat} (b : Bool) : TreeD n (.bool b)
  | tup {n : Nat} (ds : List PyData) : ds.length ≤ 3 → (∀ d ∈ ds, TreeD n d) → TreeD (n + 1) (.tuple ds)
theorem TreeD.up {n : Nat} {d : PyData} (h : TreeD n d) : TreeD (n + 1) d := by
  induction h with
  | str js h1 h2 => exact .str js h1 h2
  | int i h => exact .int i h
  | bool b => exact .bool b
  | tup ds h1 _ ih => exact .tup ds h1 ih
def spTree (K : PySem.W.Frag) (n : Nat) : Sp := fun vs H Q _ => ∃ (p dl : Addr) (d : Nat), vs = [.ref p, .int (d : Int)] ∧ d = n ∧ BoxAt H p dl ∧ ∀ v x H', Dt K H' v x → TreeD n x → BoxAt H' p dl → Keep p H H' → Q v H'
theorem ok_tree0 {f : Addr} {fd : FuncData} (F : Fun K "_law_tree" "_law_tree" s_law_tree f fd) (T : Txt K mg) (U_law_draw : Use P w K mg base CX0 "_law_draw" 1 P_law_draw (spDraw K)) (U_law_text : Use P w K mg base CX0 "_law_text" 2 P_law_text (spText K)) (U_law_number : Use P w K mg base CX0 "_law_number" 2 P_law_number (spNumb K)) (U_law_name : Use P w K mg base CX0 "_law_name" 2 P_law_name (spName K)) :
    FnG P w K mg base CX0 3 f fd P_law_tree (spTree K 0) := by
  refine okG0 F sc_law_tree (fun vs H Q E h => ?_) fun cdv A outer s H vs Q E hr hg h => ?_
  · obtain ⟨p, dl, d, rfl, _⟩ := h
    rfl
  · obtain ⟨p, dl, d, rfl, rfl, B, k⟩ := h
    refine ⟨_, (pss_cons (ps_set (i := 2) sc_law_tree.nd rfl (Or.inl rfl) (pe_use U_law_draw (hr.mono (by decide)) hg rfl (pa_cons (pv 0) (pa_cons pe_int pa_nil))))
  (pss_cons (ps_if (pt_cmpR op_eq (pv 2) pe_int (nomark _))
   (pss_one (ps_ret (pe_use U_law_text (hr.mono (by decide)) hg rfl (pa_cons (pv 0) (pa_cons pe_int pa_nil)))))
   pss_nil)
  (pss_cons (ps_if (pt_cmpR op_eq (pv 2) pe_int (nomark _))
   (pss_cons (ps_set (i := 3) sc_law_tree.nd rfl (Or.inl rfl) (pe_use U_law_number (hr.mono (by decide)) hg rfl (pa_cons (pv 0) pa_nil)))
  (pss_one (ps_ret (pe_op op_add (pv 3) (pe_op op_mul pe_int (pe_callTy call_int1 (by rfl) T.b_int (by decide +kernel) (pa_cons (pe_or (pe_cmpR op_eq (pv 3) pe_int (nomark _)) (pe_one (pe_cmpR op_eq (pv 3) pe_int (nomark _)))) pa_nil)))))))
   pss_nil)
  (pss_cons (ps_if (pt_cmpR op_eq (pv 2) pe_int (nomark _))
   (pss_one (ps_ret (pe_cmpR op_eq (pe_use U_law_draw (hr.mono (by decide)) hg rfl (pa_cons (pv 0) (pa_cons pe_int pa_nil))) pe_int (nomark _))))
   pss_nil)
  (pss_cons (ps_if (PW.pt (pw_or (pt_cmpR op_eq (pv 2) pe_int (nomark _)) (pw_or1 (pt_cmpR op_eq (pv 1) pe_int (nomark _)))))
   (pss_one (ps_ret (pe_use U_law_name (hr.mono (by decide)) hg rfl (pa_cons (pv 0) pa_nil))))
   pss_nil)
  pss_never))))), ?_⟩
    refine ⟨_, rfl, p, dl, 8, rfl, B, by decide, fun kind H1 k0 k1 B1 K1 => ?_⟩
    refine ⟨_, rfl, rfl, _, rfl, ?_⟩
    refine ite3 (fun _ => ?_) fun _ => ?_
    · exact ⟨_, rfl, p, dl, 6, rfl, B1, by decide, fun js H2 hl hj B2 K2 => k _ _ _ (.str _) (.str js (by omega) hj) B2 (K1.trans K2)⟩
    refine ⟨_, rfl, rfl, _, rfl, ?_⟩
    refine ite3 (fun _ => ?_) fun _ => ?_
    · refine ⟨_, rfl, p, dl, rfl, B1, fun i H2 hi B2 K2 => ?_⟩
      have fin : ∀ b : Int, 0 ≤ b → b ≤ 1 → Q (.int (i + 2 * b)) H2 := fun b b0 b1 => k _ _ _ (.int _) (.int _ (by
        have h2 : (2 : Nat) ^ 256 + 2 ≤ 2 ^ 257 := by decide +kernel
        omega)) B2 (K1.trans K2)
      refine ⟨_, rfl, _, rfl, rfl, ?_⟩
      refine ⟨_, rfl, ?_⟩
      refine ite3 (fun _ => ?_) fun _ => ?_
      · refine .inr ⟨_, rfl, ?_⟩
        exact ⟨_, _, rfl, rfl, .inl ⟨by decide, by decide⟩, _, _, rfl, rfl, fin 1 (by decide) (by decide)⟩
      · refine ⟨_, rfl, rfl, .inr ⟨_, rfl, ?_⟩⟩
        obtain ⟨e, he, e0, e1⟩ : ∃ e : Int, (if decide (V.int i = V.int 1) = true then (1 : Int) else 0) = e ∧ 0 ≤ e ∧ e ≤ 1 := by split <;> exact ⟨_, rfl, by decide, by decide⟩
        rw [he]
        exact ⟨_, _, rfl, rfl, .inl ⟨by decide, by omega⟩, _, _, rfl, rfl, fin e e0 e1⟩
    refine ⟨_, rfl, rfl, _, rfl, ?_⟩
    refine ite3 (fun _ => ?_) fun _ => ?_
    · exact ⟨_, rfl, p, dl, 2, rfl, B1, by decide, fun r H2 _ _ B2 K2 => ⟨rfl, k _ _ _ (.bl _) (.bool _) B2 (K1.trans K2)⟩⟩
    refine ⟨_, rfl, rfl, _, rfl, ?_⟩
    refine ite3 (fun _ => ?_) fun _ => ?_
    · exact ⟨_, rfl, p, dl, rfl, B1, fun js H2 hl hj B2 K2 => k _ _ _ (.str _) (.str js (by omega) hj) B2 (K1.trans K2)⟩
    refine ⟨_, rfl, rfl, _, rfl, iteTb (by decide) ?_⟩
    exact ⟨_, rfl, p, dl, rfl, B1, fun js H2 hl hj B2 K2 => k _ _ _ (.str _) (.str js (by omega) hj) B2 (K1.trans K2)⟩
theorem ok_treeN {n kk : Nat} (hk : 2 ≤ kk) {f : Addr} {fd : FuncData} (F : Fun K "_law_tree" "_law_tree" s_law_tree f fd) (T : Txt K mg) (U_law_draw : Use P w K mg base CX0 "_law_draw" 1 P_law_draw (spDraw K)) (U_law_text : Use P w K mg base CX0 "_law_text" 2 P_law_text (spText K)) (U_law_number : Use P w K mg base CX0 "_law_number" 2 P_law_number (spNumb K)) (U_law_name : Use P w K mg base CX0 "_law_name" 2 P_law_name (spName K)) (U_law_tree : Use P w K mg base CX0 "_law_tree" kk P_law_tree (spTree K n)) :
    FnG P w K mg base CX0 (kk + 1) f fd P_law_tree (spTree K (n + 1)) := by
  refine okG0 F sc_law_tree (fun vs H Q E h => ?_) fun cdv A outer s H vs Q E hr hg h => ?_
  · obtain ⟨p, dl, d, rfl, _⟩ := h
    rfl
  · obtain ⟨p, dl, d, rfl, rfl, B, k⟩ := h
    refine ⟨_, (pss_cons (ps_set (i := 2) sc_law_tree.nd rfl (Or.inl rfl) (pe_use U_law_draw (hr.mono (by omega)) hg rfl (pa_cons (pv 0) (pa_cons pe_int pa_nil))))
  (pss_cons (ps_if (pt_cmpR op_eq (pv 2) pe_int (nomark _))
   (pss_one (ps_ret (pe_use U_law_text (hr.mono (by omega)) hg rfl (pa_cons (pv 0) (pa_cons pe_int pa_nil)))))
   pss_nil)
  (pss_cons (ps_if (pt_cmpR op_eq (pv 2) pe_int (nomark _))
   (pss_cons (ps_set (i := 3) sc_law_tree.nd rfl (Or.inl rfl) (pe_use U_law_number (hr.mono (by omega)) hg rfl (pa_cons (pv 0) pa_nil)))
  (pss_one (ps_ret (pe_op op_add (pv 3) (pe_op op_mul pe_int (pe_callTy call_int1 (by rfl) T.b_int (by decide +kernel) (pa_cons (pe_or (pe_cmpR op_eq (pv 3) pe_int (nomark _)) (pe_one (pe_cmpR op_eq (pv 3) pe_int (nomark _)))) pa_nil)))))))
   pss_nil)
  (pss_cons (ps_if (pt_cmpR op_eq (pv 2) pe_int (nomark _))
   (pss_one (ps_ret (pe_cmpR op_eq (pe_use U_law_draw (hr.mono (by omega)) hg rfl (pa_cons (pv 0) (pa_cons pe_int pa_nil))) pe_int (nomark _))))
   pss_nil)
  (pss_cons (ps_if (PW.pt (pw_or (pt_cmpR op_eq (pv 2) pe_int (nomark _)) (pw_or1 (pt_cmpR op_eq (pv 1) pe_int (nomark _)))))
   (pss_one (ps_ret (pe_use U_law_name (hr.mono (by omega)) hg rfl (pa_cons (pv 0) pa_nil))))
   pss_nil)
  (pss_cons (ps_set (i := 4) sc_law_tree.nd rfl (Or.inl rfl) (pe_use U_law_draw (hr.mono (by omega)) hg rfl (pa_cons (pv 0) (pa_cons pe_int pa_nil))))
  (pss_one (ps_ret (pe_callTy call_tuple_of (by rfl) T.b_tuple (by decide +kernel) (pa_cons (pe_lc (own := [("k", 5)]) (g := (gName 5)) rfl sc_law_tree.nd (pi_range1 (by rfl) T.b_range (pa_cons (pv 4) pa_nil)) (blkOk_by (N := N_law_tree) (sc := defScope s_law_tree) (by decide +kernel)) (fun _ _ _ _ _ => (pg_name (i := 5) sc_law_tree.nd rfl (Or.inl rfl))) (fun _ _ _ _ _ => pts_nil) (fun _ _ _ _ _ => (pe_use U_law_tree (hr.mono (by omega)) hg rfl (pa_cons (pv 0) (pa_cons (pe_op op_sub (pv 1) pe_int) pa_nil))))) pa_nil)))))))))), ?_⟩
    refine ⟨_, rfl, p, dl, 8, rfl, B, by decide, fun kind H1 k0 k1 B1 K1 => ?_⟩
    refine ⟨_, rfl, rfl, _, rfl, ?_⟩
    refine ite3 (fun _ => ?_) fun _ => ?_
    · exact ⟨_, rfl, p, dl, 6, rfl, B1, by decide, fun js H2 hl hj B2 K2 => k _ _ _ (.str _) (.str js (by omega) hj) B2 (K1.trans K2)⟩
    refine ⟨_, rfl, rfl, _, rfl, ?_⟩
    refine ite3 (fun _ => ?_) fun _ => ?_
    · refine ⟨_, rfl, p, dl, rfl, B1, fun i H2 hi B2 K2 => ?_⟩
      have fin : ∀ b : Int, 0 ≤ b → b ≤ 1 → Q (.int (i + 2 * b)) H2 := fun b b0 b1 => k _ _ _ (.int _) (.int _ (by
        have h2 : (2 : Nat) ^ 256 + 2 ≤ 2 ^ 257 := by decide +kernel
        omega)) B2 (K1.trans K2)
      refine ⟨_, rfl, _, rfl, rfl, ?_⟩
      refine ⟨_, rfl, ?_⟩
      refine ite3 (fun _ => ?_) fun _ => ?_
      · refine .inr ⟨_, rfl, ?_⟩
        exact ⟨_, _, rfl, rfl, .inl ⟨by decide, by decide⟩, _, _, rfl, rfl, fin 1 (by decide) (by decide)⟩
      · refine ⟨_, rfl, rfl, .inr ⟨_, rfl, ?_⟩⟩
        obtain ⟨e, he, e0, e1⟩ : ∃ e : Int, (if decide (V.int i = V.int 1) = true then (1 : Int) else 0) = e ∧ 0 ≤ e ∧ e ≤ 1 := by split <;> exact ⟨_, rfl, by decide, by decide⟩
        rw [he]
        exact ⟨_, _, rfl, rfl, .inl ⟨by decide, by omega⟩, _, _, rfl, rfl, fin e e0 e1⟩
    refine ⟨_, rfl, rfl, _, rfl, ?_⟩
    refine ite3 (fun _ => ?_) fun _ => ?_
    · exact ⟨_, rfl, p, dl, 2, rfl, B1, by decide, fun r H2 _ _ B2 K2 => ⟨rfl, k _ _ _ (.bl _) (.bool _) B2 (K1.trans K2)⟩⟩
    refine ⟨_, rfl, rfl, _, rfl, ?_⟩
    refine ite3 (fun _ => ?_) fun _ => ?_
    · exact ⟨_, rfl, p, dl, rfl, B1, fun js H2 hl hj B2 K2 => k _ _ _ (.str _) (.str js (by omega) hj) B2 (K1.trans K2)⟩
    refine ⟨_, rfl, rfl, _, rfl, iteFb (decide_eq_false fun e => by have := V.int.inj e; omega) ?_⟩
    refine ⟨_, rfl, p, dl, 4, rfl, B1, by decide, fun m H2 m0 m1 B2 K2 => ?_⟩
    obtain ⟨m, rfl⟩ := Int.eq_ofNat_of_zero_le m0
    refine ⟨_, rfl, m, rfl, by omega, by omega, fun D hD => ?_⟩
    rw [Int.toNat_natCast]
    refine lc_it (walk_range (lo := 0) (n := m)) (fun i H' => Acc K H2 D p dl (TreeD n) i H') (Acc.start hD B2) (fun _ _ _ _ => trivial) ?_ ?_
    · rintro i x H5 H6 hi A ⟨rfl, rfl⟩
      refine ⟨rfl, tYes_of ?_⟩
      obtain ⟨_, _, _, _, _, _, B5, _⟩ := id A
      refine ⟨_, rfl, _, rfl, _, _, rfl, rfl, p, dl, n, by dsimp only; rw [show (((n + 1 : Nat) : Int) - 1) = (n : Int) by omega], rfl, B5, fun v x H7 dv hx B7 K7 => ?_⟩
      exact A.put (by omega) hD B2 B7 K7 dv hx
    · rintro H5 ⟨acc, ds, e5, a5, hl5, hp5, B5, K5⟩
      refine ⟨D, _, rfl, .inl ⟨SqL.of e5, fun t ht => ?_⟩⟩
      exact k _ _ _ (Dt.made ht a5) (.tup ds (by omega) hp5) (B5.same (Same.new ht)) (((K1.trans K2).trans K5).trans (Same.keep (Same.new ht)))
theorem ok_tree1 {f : Addr} {fd : FuncData} (F : Fun K "_law_tree" "_law_tree" s_law_tree f fd) (T : Txt K mg) (U_law_draw : Use P w K mg base CX0 "_law_draw" 1 P_law_draw (spDraw K)) (U_law_text : Use P w K mg base CX0 "_law_text" 2 P_law_text (spText K)) (U_law_number : Use P w K mg base CX0 "_law_number" 2 P_law_number (spNumb K)) (U_law_name : Use P w K mg base CX0 "_law_name" 2 P_law_name (spName K))
    (U_law_tree : Use P w K mg base CX0 "_law_tree" 3 P_law_tree (spTree K 0)) : FnG P w K mg base CX0 4 f fd P_law_tree (spTree K 1) := ok_treeN (kk := 3) (by decide) F T U_law_draw U_law_text U_law_number U_law_name U_law_tree
theorem ok_tree2 {f : Addr} {fd : FuncData} (F : Fun K "_law_tree" "_law_tree" s_law_tree f fd) (T : Txt K mg) (U_law_draw : Use P w K mg base CX0 "_law_draw" 1 P_law_draw (spDraw K)) (U_law_text : Use P w K mg base CX0 "_law_text" 2 P_law_text (spText K)) (U_law_number : Use P w K mg base CX0 "_law_number" 2 P_law_number (spNumb K)) (U_law_name : Use P w K mg base CX0 "_law_name" 2 P_law_name (spName K))
    (U_law_tree : Use P w K mg base CX0 "_law_tree" 4 P_law_tree (spTree K 1)) : FnG P w K mg base CX0 5 f fd P_law_tree (spTree K 2) := ok_treeN (kk := 4) (by decide) F T U_law_draw U_law_text U_law_number U_law_name U_law_tree
theorem ok_tree3 {f : Addr} {fd : FuncData} (F : Fun K "_law_tree" "_law_tree" s_law_tree f fd) (T : Txt K mg) (U_law_draw : Use P w K mg base CX0 "_law_draw" 1 P_law_draw (spDraw K)) (U_law_text : Use P w K mg base CX0 "_law_text" 2 P_law_text (spText K)) (U_law_number : Use P w K mg base CX0 "_law_number" 2 P_law_number (spNumb K)) (U_law_name : Use P w K mg base CX0 "_law_name" 2 P_law_name (spName K))
    (U_law_tree : Use P w K mg base CX0 "_law_tree" 5 P_law_tree (spTree K 2)) : FnG P w K mg base CX0 6 f fd P_law_tree (spTree K 3) := ok_treeN (kk := 5) (by decide) F T U_law_draw U_law_text U_law_number U_law_name U_law_tree
theorem ex_map {α : Type} {g : α → PyData} {q : α → Prop} : ∀ {ds : List PyData}, (∀ d ∈ ds, ∃ x, d = g x ∧ q x) → ∃ xs : List α, ds = xs.map g ∧ ∀ x ∈ xs, q x
  | [], _ => ⟨[], rfl, by simp⟩
  | d :: ds, h => by
    obtain ⟨x, rfl, hx⟩ := h d (by simp)
    obtain ⟨xs, rfl, hxs⟩ := ex_map (g := g) (q := q) (ds := ds) fun e he => h e (List.mem_cons_of_mem _ he)
    exact ⟨x :: xs, rfl, fun y hy => by
      rcases List.mem_cons.mp hy with rfl | hy
      · exact hx
      · exact hxs y hy⟩
/-! fields -/
inductive Fld
  | v (x : Val) | V (xs : List Val) | W (ps : List (Val × Val)) | X (ps : List (List Nat × Val)) | t (d : PyData) | a (k : Nat) | b (k : Int) | n (i : Int) | x (js : List Nat) | s0 | s1 (z : Str) | s2 (z : Str) (x : Val)
def fldD : Fld → PyData
  | .v x => valD x
  | .V xs => .tuple (xs.map valD)
  | .W ps => .tuple (ps.map fun p => .tuple [valD p.1, valD p.2])
  | .X ps => .tuple (ps.map fun p => .tuple [.str (tx p.1), valD p.2])
  | .t d => d
  | .a k => .int (k : Int)
  | .b k => .int k
  | .n i => .int i
  | .x js => .str (tx js)
  | .s0 => .tuple []
  | .s1 z => .tuple [.str z]
  | .s2 z x => .tuple [.str z, valD x]
/-- the letter of a field -/
def ltr : Fld → Nat
  | .v _ => 118
  | .V _ => 86
  | .W _ => 87
  | .X _ => 88
  | .t _ => 116
  | .a _ => 97
  | .b _ => 98
  | .n _ => 110
  | .x _ => 120
  | .s0 => 115
  | .s1 _ => 115
  | .s2 _ _ => 115
def FldSm (m : Nat) : Fld → Prop
  | .v x => ValSm m x
  | .V xs => xs.length ≤ 4 ∧ ∀ x ∈ xs, ValSm m x
  | .W ps => ps.length ≤ 3 ∧ ∀ p ∈ ps, ValSm m p.1 ∧ ValSm m p.2
  | .X ps => ps.length ≤ 3 ∧ ∀ p ∈ ps, TxSm p.1 ∧ ValSm m p.2
  | .t d => TreeD 3 d
  | .a k => k < m
  | .b k => -1 ≤ k ∧ k < m
  | .n i => i.natAbs < 2 ^ 256
  | .x js => TxSm js
  | .s0 => True
  | .s1 z => z = "break" ∨ z = "continue"
  | .s2 z x => (z = "return" ∨ z = "raise") ∧ ValSm m x
theorem sig_S {c : Nat} {z : Str} (h : z = S [c]) : V.str z = .str (S [c]) := by rw [h]
def flds : List Nat := [118, 86, 87, 88, 116, 97, 98, 110, 120, 115]
def spField0 (K : PySem.W.Frag) : Sp := fun vs H Q _ => ∃ (p dl : Addr) (c m : Nat), vs = [.ref p, .str (S [c]), .int (m : Int)] ∧ c ∈ flds ∧ 0 < m ∧ m ≤ 10 ^ 6 ∧ BoxAt H p dl ∧ ∀ v (x : Fld) H', Dt K H' v (fldD x) → ltr x = c → FldSm m x → BoxAt H' p dl → Keep p H H' → Q v H'
theorem ok_field0 {f : Addr} {fd : FuncData} (F : Fun K "_law_field" "_law_field" s_law_field f fd) (T : Txt K mg) (U_law_draw : Use P w K mg base CX0 "_law_draw" 1 P_law_draw (spDraw K)) (U_law_value : Use P w K mg base CX0 "_law_value" 3 P_law_value (spLVal K)) (U_law_name : Use P w K mg base CX0 "_law_name" 2 P_law_name (spName K))
    (U_law_number : Use P w K mg base CX0 "_law_number" 2 P_law_number (spNumb K)) (U_law_tree : Use P w K mg base CX0 "_law_tree" 6 P_law_tree (spTree K 3)) : FnG P w K mg base CX0 7 f fd P_law_field (spField0 K) := by
  refine okG0 F sc_law_field (fun vs H Q E h => ?_) fun cdv A outer s H vs Q E hr hg h => ?_
  · obtain ⟨p, dl, c, m, rfl, _⟩ := h
    rfl
  · obtain ⟨p, dl, c, m, rfl, hc, hm0, hm, B, k⟩ := h
    refine ⟨_, (pss_cons (ps_if (pt_cmpR op_eq (pv 1) pe_str (nomark _))
   (pss_one (ps_ret (pe_use U_law_value (hr.mono (by decide)) hg rfl (pa_cons (pv 0) (pa_cons (pv 2) pa_nil)))))
   pss_nil)
  (pss_cons (ps_if (pt_cmpR op_eq (pv 1) pe_str (nomark _))
   (pss_cons (ps_set (i := 3) sc_law_field.nd rfl (Or.inl rfl) (pe_use U_law_draw (hr.mono (by decide)) hg rfl (pa_cons (pv 0) (pa_cons pe_int pa_nil))))
  (pss_one (ps_ret (pe_callTy call_tuple_of (by rfl) T.b_tuple (by decide +kernel) (pa_cons (pe_lc (own := [("k", 4)]) (g := (gName 4)) rfl sc_law_field.nd (pi_range1 (by rfl) T.b_range (pa_cons (pv 3) pa_nil)) (blkOk_by (N := N_law_field) (sc := defScope s_law_field) (by decide +kernel)) (fun _ _ _ _ _ => (pg_name (i := 4) sc_law_field.nd rfl (Or.inl rfl))) (fun _ _ _ _ _ => pts_nil) (fun _ _ _ _ _ => (pe_use U_law_value (hr.mono (by decide)) hg rfl (pa_cons (pv 0) (pa_cons (pv 2) pa_nil))))) pa_nil)))))
   pss_nil)
  (pss_cons (ps_if (pt_cmpR op_eq (pv 1) pe_str (nomark _))
   (pss_cons (ps_set (i := 3) sc_law_field.nd rfl (Or.inl rfl) (pe_use U_law_draw (hr.mono (by decide)) hg rfl (pa_cons (pv 0) (pa_cons pe_int pa_nil))))
  (pss_one (ps_ret (pe_callTy call_tuple_of (by rfl) T.b_tuple (by decide +kernel) (pa_cons (pe_lc (own := [("k", 4)]) (g := (gName 4)) rfl sc_law_field.nd (pi_range1 (by rfl) T.b_range (pa_cons (pv 3) pa_nil)) (blkOk_by (N := N_law_field) (sc := defScope s_law_field) (by decide +kernel)) (fun _ _ _ _ _ => (pg_name (i := 4) sc_law_field.nd rfl (Or.inl rfl))) (fun _ _ _ _ _ => pts_nil) (fun _ _ _ _ _ => (pe_tup (pa_cons (pe_use U_law_value (hr.mono (by decide)) hg rfl (pa_cons (pv 0) (pa_cons (pv 2) pa_nil))) (pa_cons (pe_use U_law_value (hr.mono (by decide)) hg rfl (pa_cons (pv 0) (pa_cons (pv 2) pa_nil))) pa_nil))))) pa_nil)))))
   pss_nil)
  (pss_cons (ps_if (pt_cmpR op_eq (pv 1) pe_str (nomark _))
   (pss_cons (ps_set (i := 3) sc_law_field.nd rfl (Or.inl rfl) (pe_use U_law_draw (hr.mono (by decide)) hg rfl (pa_cons (pv 0) (pa_cons pe_int pa_nil))))
  (pss_one (ps_ret (pe_callTy call_tuple_of (by rfl) T.b_tuple (by decide +kernel) (pa_cons (pe_lc (own := [("k", 4)]) (g := (gName 4)) rfl sc_law_field.nd (pi_range1 (by rfl) T.b_range (pa_cons (pv 3) pa_nil)) (blkOk_by (N := N_law_field) (sc := defScope s_law_field) (by decide +kernel)) (fun _ _ _ _ _ => (pg_name (i := 4) sc_law_field.nd rfl (Or.inl rfl))) (fun _ _ _ _ _ => pts_nil) (fun _ _ _ _ _ => (pe_tup (pa_cons (pe_use U_law_name (hr.mono (by decide)) hg rfl (pa_cons (pv 0) pa_nil)) (pa_cons (pe_use U_law_value (hr.mono (by decide)) hg rfl (pa_cons (pv 0) (pa_cons (pv 2) pa_nil))) pa_nil))))) pa_nil)))))
   pss_nil)
  (pss_cons (ps_if (pt_cmpR op_eq (pv 1) pe_str (nomark _))
   (pss_one (ps_ret (pe_use U_law_tree (hr.mono (by decide)) hg rfl (pa_cons (pv 0) (pa_cons pe_int pa_nil)))))
   pss_nil)
  (pss_cons (ps_if (pt_cmpR op_eq (pv 1) pe_str (nomark _))
   (pss_one (ps_ret (pe_op op_mod (pe_callTy call_int1 (by rfl) T.b_int (by decide +kernel) (pa_cons (pe_op op_add (pe_op op_mul (pe_use U_law_draw (hr.mono (by decide)) hg rfl (pa_cons (pv 0) (pa_cons pe_int pa_nil))) pe_int) (pe_use U_law_draw (hr.mono (by decide)) hg rfl (pa_cons (pv 0) (pa_cons pe_int pa_nil)))) pa_nil)) (pv 2))))
   pss_nil)
  (pss_cons (ps_if (pt_cmpR op_eq (pv 1) pe_str (nomark _))
   (pss_one (ps_ret (pe_op op_sub (pe_op op_mod (pe_callTy call_int1 (by rfl) T.b_int (by decide +kernel) (pa_cons (pe_op op_add (pe_op op_mul (pe_use U_law_draw (hr.mono (by decide)) hg rfl (pa_cons (pv 0) (pa_cons pe_int pa_nil))) pe_int) (pe_use U_law_draw (hr.mono (by decide)) hg rfl (pa_cons (pv 0) (pa_cons pe_int pa_nil)))) pa_nil)) (pe_op op_add (pv 2) pe_int)) pe_int)))
   pss_nil)
  (pss_cons (ps_if (pt_cmpR op_eq (pv 1) pe_str (nomark _))
   (pss_one (ps_ret (pe_use U_law_number (hr.mono (by decide)) hg rfl (pa_cons (pv 0) pa_nil))))
   pss_nil)
  (pss_cons (ps_if (pt_cmpR op_eq (pv 1) pe_str (nomark _))
   (pss_one (ps_ret (pe_use U_law_name (hr.mono (by decide)) hg rfl (pa_cons (pv 0) pa_nil))))
   pss_nil)
  (pss_cons (ps_if (pt_cmpR op_eq (pv 1) pe_str (nomark _))
   (pss_cons (ps_set (i := 5) sc_law_field.nd rfl (Or.inl rfl) (pe_use U_law_draw (hr.mono (by decide)) hg rfl (pa_cons (pv 0) (pa_cons pe_int pa_nil))))
  (pss_cons (ps_if (pt_cmpR op_lt (pv 5) pe_int (nomark _))
   (pss_one (ps_ret (pe_ix ix_list (pe_lst (pa_cons (pe_tup pa_nil) (pa_cons (pe_tup (pa_cons pe_str pa_nil)) (pa_cons (pe_tup (pa_cons pe_str pa_nil)) pa_nil)))) (pv 5) (fun _ _ => rfl))))
   pss_nil)
  (pss_one (ps_ret (pe_tup (pa_cons (pe_ix ix_list (pe_lst (pa_cons pe_str (pa_cons pe_str pa_nil))) (pe_op op_sub (pv 5) pe_int) (fun _ _ => rfl)) (pa_cons (pe_use U_law_value (hr.mono (by decide)) hg rfl (pa_cons (pv 0) (pa_cons (pv 2) pa_nil))) pa_nil)))))))
   pss_nil)
  pss_never)))))))))), ?_⟩
    have hm20 : (10 : Nat) ^ 6 ≤ 10 ^ 20 := by decide
    simp only [flds, List.mem_cons, List.not_mem_nil, or_false] at hc
    rcases hc with rfl | rfl | rfl | rfl | rfl | rfl | rfl | rfl | rfl | rfl
    · refine ⟨_, rfl, rfl, _, rfl, iteTb (by decide +kernel) ?_⟩
      exact ⟨_, rfl, _, rfl, p, dl, m, rfl, B, hm0, by omega, fun v x H1 dv hx B1 K1 => k v (.v x) H1 dv rfl hx B1 K1⟩
    · refine ⟨_, rfl, rfl, _, rfl, iteFb (by decide +kernel) ?_⟩
      refine ⟨_, rfl, rfl, _, rfl, iteTb (by decide +kernel) ?_⟩
      refine ⟨_, rfl, p, dl, 5, rfl, B, by decide, fun n H1 n0 n1 B1 K1 => ?_⟩
      obtain ⟨n, rfl⟩ := Int.eq_ofNat_of_zero_le n0
      refine ⟨_, rfl, n, rfl, by omega, by omega, fun D hD => ?_⟩
      rw [Int.toNat_natCast]
      refine lc_it (walk_range (lo := 0) (n := n)) (fun i H' => Acc K H1 D p dl (fun d => ∃ x, d = valD x ∧ ValSm m x) i H') (Acc.start hD B1) (fun _ _ _ _ => trivial) ?_ ?_
      · rintro i x H5 H6 hi A ⟨rfl, rfl⟩
        refine ⟨rfl, tYes_of ?_⟩
        obtain ⟨_, _, _, _, _, _, B5, _⟩ := id A
        exact ⟨_, rfl, _, rfl, p, dl, m, rfl, B5, hm0, by omega, fun v x H7 dv hx B7 K7 => A.put (by omega) hD B1 B7 K7 dv ⟨x, rfl, hx⟩⟩
      · rintro H5 ⟨acc, ds, e5, a5, hl5, hp5, B5, K5⟩
        obtain ⟨xs, rfl, hxs⟩ := ex_map hp5
        rw [List.length_map] at hl5
        refine ⟨D, _, rfl, .inl ⟨SqL.of e5, fun t ht => ?_⟩⟩
        exact k _ (.V xs) _ (Dt.made ht a5) rfl ⟨by omega, hxs⟩ (B5.same (Same.new ht)) ((K1.trans K5).trans (Same.keep (Same.new ht)))
    · refine ⟨_, rfl, rfl, _, rfl, iteFb (by decide +kernel) ?_⟩
      refine ⟨_, rfl, rfl, _, rfl, iteFb (by decide +kernel) ?_⟩
      refine ⟨_, rfl, rfl, _, rfl, iteTb (by decide +kernel) ?_⟩
      refine ⟨_, rfl, p, dl, 4, rfl, B, by decide, fun n H1 n0 n1 B1 K1 => ?_⟩
      obtain ⟨n, rfl⟩ := Int.eq_ofNat_of_zero_le n0
      refine ⟨_, rfl, n, rfl, by omega, by omega, fun D hD => ?_⟩
      rw [Int.toNat_natCast]
      refine lc_it (walk_range (lo := 0) (n := n)) (fun i H' => Acc K H1 D p dl (fun d => ∃ x, d = .tuple [valD (x : Val × Val).1, valD x.2] ∧ (ValSm m x.1 ∧ ValSm m x.2)) i H') (Acc.start hD B1) (fun _ _ _ _ => trivial) ?_ ?_
      · rintro i x H5 H6 hi A ⟨rfl, rfl⟩
        refine ⟨rfl, tYes_of ?_⟩
        obtain ⟨_, _, _, _, _, _, B5, _⟩ := id A
        refine ⟨_, rfl, _, rfl, p, dl, m, rfl, B5, hm0, by omega, fun v x H7 dv hx B7 K7 => ?_⟩
        refine ⟨_, rfl, _, rfl, p, dl, m, rfl, B7, hm0, by omega, fun u y H8 du hy B8 K8 => ⟨sz_2, fun t ht => ?_⟩⟩
        have S9 := Same.new (o := .tup [v, u]) ht
        exact A.put (by omega) hD B1 (B8.same S9) ((K7.trans K8).trans (Same.keep S9)) (Dt.made ht (.cons (dv.keepT (K8.keepT B7.at_)) (.cons du .nil))) ⟨(x, y), rfl, hx, hy⟩
      · rintro H5 ⟨acc, ds, e5, a5, hl5, hp5, B5, K5⟩
        obtain ⟨xs, rfl, hxs⟩ := ex_map hp5
        rw [List.length_map] at hl5
        refine ⟨D, _, rfl, .inl ⟨SqL.of e5, fun t ht => ?_⟩⟩
        exact k _ (.W xs) _ (Dt.made ht a5) rfl ⟨by omega, hxs⟩ (B5.same (Same.new ht)) ((K1.trans K5).trans (Same.keep (Same.new ht)))
    · refine ⟨_, rfl, rfl, _, rfl, iteFb (by decide +kernel) ?_⟩
      refine ⟨_, rfl, rfl, _, rfl, iteFb (by decide +kernel) ?_⟩
      refine ⟨_, rfl, rfl, _, rfl, iteFb (by decide +kernel) ?_⟩
      refine ⟨_, rfl, rfl, _, rfl, iteTb (by decide +kernel) ?_⟩
      refine ⟨_, rfl, p, dl, 4, rfl, B, by decide, fun n H1 n0 n1 B1 K1 => ?_⟩
      obtain ⟨n, rfl⟩ := Int.eq_ofNat_of_zero_le n0
      refine ⟨_, rfl, n, rfl, by omega, by omega, fun D hD => ?_⟩
      rw [Int.toNat_natCast]
      refine lc_it (walk_range (lo := 0) (n := n)) (fun i H' => Acc K H1 D p dl (fun d => ∃ x, d = .tuple [.str (tx (x : List Nat × Val).1), valD x.2] ∧ (TxSm x.1 ∧ ValSm m x.2)) i H') (Acc.start hD B1) (fun _ _ _ _ => trivial) ?_ ?_
      · rintro i x H5 H6 hi A ⟨rfl, rfl⟩
        refine ⟨rfl, tYes_of ?_⟩
        obtain ⟨_, _, _, _, _, _, B5, _⟩ := id A
        refine ⟨_, rfl, p, dl, rfl, B5, fun js H7 hjl hj B7 K7 => ?_⟩
        refine ⟨_, rfl, _, rfl, p, dl, m, rfl, B7, hm0, by omega, fun u y H8 du hy B8 K8 => ⟨sz_2, fun t ht => ?_⟩⟩
        have S9 := Same.new (o := .tup [.str (tx js), u]) ht
        exact A.put (by omega) hD B1 (B8.same S9) ((K7.trans K8).trans (Same.keep S9)) (Dt.made ht (.cons (.str _) (.cons du .nil))) ⟨(js, y), rfl, ⟨Nat.le_trans hjl (by decide), hj⟩, hy⟩
      · rintro H5 ⟨acc, ds, e5, a5, hl5, hp5, B5, K5⟩
        obtain ⟨xs, rfl, hxs⟩ := ex_map hp5
        rw [List.length_map] at hl5
        refine ⟨D, _, rfl, .inl ⟨SqL.of e5, fun t ht => ?_⟩⟩
        exact k _ (.X xs) _ (Dt.made ht a5) rfl ⟨by omega, hxs⟩ (B5.same (Same.new ht)) ((K1.trans K5).trans (Same.keep (Same.new ht)))
    · refine ⟨_, rfl, rfl, _, rfl, iteFb (by decide +kernel) ?_⟩
      refine ⟨_, rfl, rfl, _, rfl, iteFb (by decide +kernel) ?_⟩
      refine ⟨_, rfl, rfl, _, rfl, iteFb (by decide +kernel) ?_⟩
      refine ⟨_, rfl, rfl, _, rfl, iteFb (by decide +kernel) ?_⟩
      refine ⟨_, rfl, rfl, _, rfl, iteTb (by decide +kernel) ?_⟩
      exact ⟨_, rfl, p, dl, 3, rfl, rfl, B, fun v x H1 dv hx B1 K1 => k v (.t x) H1 dv rfl hx B1 K1⟩
    · refine ⟨_, rfl, rfl, _, rfl, iteFb (by decide +kernel) ?_⟩
      refine ⟨_, rfl, rfl, _, rfl, iteFb (by decide +kernel) ?_⟩
      refine ⟨_, rfl, rfl, _, rfl, iteFb (by decide +kernel) ?_⟩
      refine ⟨_, rfl, rfl, _, rfl, iteFb (by decide +kernel) ?_⟩
      refine ⟨_, rfl, rfl, _, rfl, iteFb (by decide +kernel) ?_⟩
      refine ⟨_, rfl, rfl, _, rfl, iteTb (by decide +kernel) ?_⟩
      refine ⟨_, rfl, p, dl, 1000, rfl, B, by decide, fun r1 H1 q0 q1 B1 K1 => ?_⟩
      refine ⟨_, _, rfl, rfl, .inr ⟨by decide, by decide⟩, _, rfl, p, dl, 1000, rfl, B1, by decide, fun r2 H2 q2 q3 B2 K2 => ?_⟩
      refine ⟨_, _, rfl, rfl, .inl ⟨_, rfl, _, rfl, _, _, rfl, rfl, by omega, ?_⟩⟩
      obtain ⟨j, hj⟩ : ∃ j : Nat, (r1 * 1000 + r2) % (m : Int) = (j : Int) := ⟨_, (Int.toNat_of_nonneg (Int.emod_nonneg _ (by omega))).symm⟩
      have hjm := Int.emod_lt_of_pos (r1 * 1000 + r2) (show (0 : Int) < m by omega)
      dsimp only
      rw [hj] at hjm ⊢
      exact k _ (.a j) _ (.int _) rfl (show j < m by omega) B2 (K1.trans K2)
    · refine ⟨_, rfl, rfl, _, rfl, iteFb (by decide +kernel) ?_⟩
      refine ⟨_, rfl, rfl, _, rfl, iteFb (by decide +kernel) ?_⟩
      refine ⟨_, rfl, rfl, _, rfl, iteFb (by decide +kernel) ?_⟩
      refine ⟨_, rfl, rfl, _, rfl, iteFb (by decide +kernel) ?_⟩
      refine ⟨_, rfl, rfl, _, rfl, iteFb (by decide +kernel) ?_⟩
      refine ⟨_, rfl, rfl, _, rfl, iteFb (by decide +kernel) ?_⟩
      refine ⟨_, rfl, rfl, _, rfl, iteTb (by decide +kernel) ?_⟩
      refine ⟨_, rfl, p, dl, 1000, rfl, B, by decide, fun r1 H1 q0 q1 B1 K1 => ?_⟩
      refine ⟨_, _, rfl, rfl, .inr ⟨by decide, by decide⟩, _, rfl, p, dl, 1000, rfl, B1, by decide, fun r2 H2 q2 q3 B2 K2 => ?_⟩
      refine ⟨_, _, rfl, rfl, .inl ⟨_, rfl, _, rfl, _, _, rfl, rfl, _, _, rfl, rfl, by omega, _, _, rfl, rfl, ?_⟩⟩
      have hj0 := Int.emod_nonneg (r1 * 1000 + r2) (show (m : Int) + 1 ≠ 0 by omega)
      have hjm := Int.emod_lt_of_pos (r1 * 1000 + r2) (show (0 : Int) < (m : Int) + 1 by omega)
      exact k _ (.b _) _ (.int _) rfl (show -1 ≤ (r1 * 1000 + r2) % ((m : Int) + 1) - 1 ∧ (r1 * 1000 + r2) % ((m : Int) + 1) - 1 < m by omega) B2 (K1.trans K2)
    · refine ⟨_, rfl, rfl, _, rfl, iteFb (by decide +kernel) ?_⟩
      refine ⟨_, rfl, rfl, _, rfl, iteFb (by decide +kernel) ?_⟩
      refine ⟨_, rfl, rfl, _, rfl, iteFb (by decide +kernel) ?_⟩
      refine ⟨_, rfl, rfl, _, rfl, iteFb (by decide +kernel) ?_⟩
      refine ⟨_, rfl, rfl, _, rfl, iteFb (by decide +kernel) ?_⟩
      refine ⟨_, rfl, rfl, _, rfl, iteFb (by decide +kernel) ?_⟩
      refine ⟨_, rfl, rfl, _, rfl, iteFb (by decide +kernel) ?_⟩
      refine ⟨_, rfl, rfl, _, rfl, iteTb (by decide +kernel) ?_⟩
      exact ⟨_, rfl, p, dl, rfl, B, fun i H1 hi B1 K1 => k _ (.n i) H1 (.int _) rfl hi B1 K1⟩
    · refine ⟨_, rfl, rfl, _, rfl, iteFb (by decide +kernel) ?_⟩
      refine ⟨_, rfl, rfl, _, rfl, iteFb (by decide +kernel) ?_⟩
      refine ⟨_, rfl, rfl, _, rfl, iteFb (by decide +kernel) ?_⟩
      refine ⟨_, rfl, rfl, _, rfl, iteFb (by decide +kernel) ?_⟩
      refine ⟨_, rfl, rfl, _, rfl, iteFb (by decide +kernel) ?_⟩
      refine ⟨_, rfl, rfl, _, rfl, iteFb (by decide +kernel) ?_⟩
      refine ⟨_, rfl, rfl, _, rfl, iteFb (by decide +kernel) ?_⟩
      refine ⟨_, rfl, rfl, _, rfl, iteFb (by decide +kernel) ?_⟩
      refine ⟨_, rfl, rfl, _, rfl, iteTb (by decide +kernel) ?_⟩
      exact ⟨_, rfl, p, dl, rfl, B, fun js H1 hl hj B1 K1 => k _ (.x js) H1 (.str _) rfl ⟨by omega, hj⟩ B1 K1⟩
    · refine ⟨_, rfl, rfl, _, rfl, iteFb (by decide +kernel) ?_⟩
      refine ⟨_, rfl, rfl, _, rfl, iteFb (by decide +kernel) ?_⟩
      refine ⟨_, rfl, rfl, _, rfl, iteFb (by decide +kernel) ?_⟩
      refine ⟨_, rfl, rfl, _, rfl, iteFb (by decide +kernel) ?_⟩
      refine ⟨_, rfl, rfl, _, rfl, iteFb (by decide +kernel) ?_⟩
      refine ⟨_, rfl, rfl, _, rfl, iteFb (by decide +kernel) ?_⟩
      refine ⟨_, rfl, rfl, _, rfl, iteFb (by decide +kernel) ?_⟩
      refine ⟨_, rfl, rfl, _, rfl, iteFb (by decide +kernel) ?_⟩
      refine ⟨_, rfl, rfl, _, rfl, iteFb (by decide +kernel) ?_⟩
      refine ⟨_, rfl, rfl, _, rfl, iteTb (by decide +kernel) ?_⟩
      refine ⟨_, rfl, p, dl, 5, rfl, B, by decide, fun kd H1 k0 k1 B1 K1 => ?_⟩
      refine ⟨_, rfl, _, _, rfl, rfl, _, rfl, ?_⟩
      refine ite3 (fun c => ?_) fun c => ?_
      · have c := of_decide_eq_true c
        refine ⟨sz_0, fun u1 h1 => ⟨sz_1, fun u2 h2 => ⟨sz_1, fun u3 h3 => ⟨sz_3, fun u4 h4 => ?_⟩⟩⟩⟩
        have s1 := Same.new (o := .tup []) h1
        have s2 := Same.new (o := .tup [.str "break"]) h2
        have s3 := Same.new (o := .tup [.str "continue"]) h3
        have s4 := Same.new (o := .lst [.ref u1, .ref u2, .ref u3]) h4
        have sA := ((s1.trans s2).trans s3).trans s4
        have d1 := Dt.made (K := K) h1 .nil
        have d2 := Dt.made (K := K) h2 (.cons (.str "break") .nil)
        have d3 := Dt.made (K := K) h3 (.cons (.str "continue") .nil)
        obtain rfl | rfl | rfl : kd = 0 ∨ kd = 1 ∨ kd = 2 := by omega
        · exact ⟨_, rfl, u4, _, _, _, rfl, rfl, SqL.of upd_same, at0, k _ .s0 _ (d1.mono ((s2.trans s3).trans s4)) rfl trivial (B1.same sA) (K1.trans (Same.keep sA))⟩
        · exact ⟨_, rfl, u4, _, _, _, rfl, rfl, SqL.of upd_same, at1, k _ (.s1 "break") _ (d2.mono (s3.trans s4)) rfl (.inl rfl) (B1.same sA) (K1.trans (Same.keep sA))⟩
        · exact ⟨_, rfl, u4, _, _, _, rfl, rfl, SqL.of upd_same, at2, k _ (.s1 "continue") _ (d3.mono s4) rfl (.inr rfl) (B1.same sA) (K1.trans (Same.keep sA))⟩
      · have c := of_decide_eq_false c
        refine ⟨sz_2, fun u1 h1 => ?_⟩
        have s1 := Same.new (o := .lst [.str "return", .str "raise"]) h1
        have fin : ∀ z : Str, (z = "return" ∨ z = "raise") → ∀ (v : V) (x : Val) H2, Dt K H2 v (valD x) → ValSm m x → BoxAt H2 p dl → Keep p (upd H1 u1 (.lst [.str "return", .str "raise"])) H2 → ∀ t, H2 t = none → Q (.ref t) (upd H2 t (.tup [.str z, v])) := fun z hz v x H2 dv hx B2 K2 t ht =>
          k _ (.s2 z x) _ (Dt.made ht (.cons (.str z) (.cons dv .nil))) rfl ⟨hz, hx⟩ (B2.same (Same.new ht)) (((K1.trans (Same.keep s1)).trans K2).trans (Same.keep (Same.new ht)))
        obtain rfl | rfl : kd = 3 ∨ kd = 4 := by omega
        · exact ⟨_, rfl, _, _, rfl, rfl, u1, _, _, _, rfl, rfl, SqL.of upd_same, at0, _, rfl, _, rfl, p, dl, m, rfl, B1.same s1, hm0, by omega, fun v x H2 dv hx B2 K2 => ⟨sz_2, fin _ (.inl rfl) v x H2 dv hx B2 K2⟩⟩
        · exact ⟨_, rfl, _, _, rfl, rfl, u1, _, _, _, rfl, rfl, SqL.of upd_same, at1, _, rfl, _, rfl, p, dl, m, rfl, B1.same s1, hm0, by omega, fun v x H2 dv hx B2 K2 => ⟨sz_2, fin _ (.inr rfl) v x H2 dv hx B2 K2⟩⟩
--SPLIT
/-! a row of fields -/
def spShapeOf0 (K : PySem.W.Frag) : Sp := fun vs H Q _ => ∃ (p dl r : Addr) (kd : Str) (ls : List Nat) (m : Nat), vs = [.ref p, .ref r, .int (m : Int)] ∧ H r = some (.lst [.str kd, .str (S ls)]) ∧ (∀ c ∈ ls, c ∈ flds) ∧ ls.length ≤ 10 ∧ 0 < m ∧ m ≤ 10 ^ 6 ∧ BoxAt H p dl ∧
  ∀ v (fs : List Fld) H', Dt K H' v (.tuple (.str kd :: fs.map fldD)) → fs.map ltr = ls → (∀ f ∈ fs, FldSm m f) → BoxAt H' p dl → Keep p H H' → Q v H'
theorem row_ne {H : Hp} {p dl r : Addr} {kd ls : Str} (B : BoxAt H p dl) (e : H r = some (.lst [.str kd, .str ls])) : r ≠ p := fun h => by
  subst h
  obtain ⟨_, _, e2, _⟩ := B
  rw [e] at e2
  cases HO.lst.inj (Option.some.inj e2)
theorem ok_shapeof0 {f : Addr} {fd : FuncData} (F : Fun K "_law_shape_of" "_law_shape_of" s_law_shape_of f fd) (T : Txt K mg) (U_law_field : Use P w K mg base CX0 "_law_field" 7 P_law_field (spField0 K)) : FnG P w K mg base CX0 8 f fd P_law_shape_of (spShapeOf0 K) := by
  refine okG0 F sc_law_shape_of (fun vs H Q E h => ?_) fun cdv A outer s H vs Q E hr hg h => ?_
  · obtain ⟨p, dl, r, kd, ls, m, rfl, _⟩ := h
    rfl
  · obtain ⟨p, dl, r, kd, ls, m, rfl, er, hls, hll, hm0, hm, B, k⟩ := h
    refine ⟨_, (pss_cons (ps_set (i := 3) sc_law_shape_of.nd rfl (Or.inl rfl) (pe_tup (pa_cons (pe_ix ix_list (pv 1) pe_int (fun _ _ => rfl)) pa_nil)))
  (pss_cons (ps_for PassesOwn.never rfl (pi_str (pe_ix ix_list (pv 1) pe_int (fun _ _ => rfl))) (pg_name (i := 4) sc_law_shape_of.nd rfl (Or.inl rfl))
   (pss_one (ps_set (i := 3) sc_law_shape_of.nd rfl (Or.inl rfl) (pe_op op_catA (pv 3) (pe_tup (pa_cons (pe_use U_law_field (hr.mono (by decide)) hg rfl (pa_cons (pv 0) (pa_cons (pv 4) (pa_cons (pv 2) pa_nil)))) pa_nil))))))
  (pss_one (ps_ret (pv 3))))), ?_⟩
    have hrp := row_ne B er
    refine ⟨_, rfl, r, _, _, _, rfl, rfl, SqL.of er, at0, sz_1, fun u0 hu0 => ?_⟩
    have S0 := Same.new (o := .tup [.str kd]) hu0
    refine ⟨_, rfl, r, _, _, _, rfl, rfl, SqL.of (S0 _ _ er), at1, _, rfl, ?_⟩
    refine for_it walk_str (fun i σ H5 => ∃ (u : Addr) (fs : List Fld) (x4 : Option V), σ = [some (.ref p), some (.ref r), some (.int m), some (.ref u), x4] ∧ Dt K H5 (.ref u) (.tuple (.str kd :: fs.map fldD)) ∧ fs.map ltr = ls.take i ∧ (∀ f ∈ fs, FldSm m f) ∧ BoxAt H5 p dl ∧ Keep p H H5) ⟨u0, [], none, rfl, Dt.made hu0 (.cons (.str _) .nil), rfl, by simp, B.same S0, Same.keep S0⟩ (fun _ _ _ _ _ => trivial) ?_ ?_
    · rintro i x σ H5 H6 hi ⟨u, fs, x4, rfl, du, hf, hfs, B5, K5⟩ ⟨rfl, c, hc, rfl⟩
      have hc' : ls[i]? = some c := by simpa [S] using hc
      refine ⟨_, rfl, _, rfl, _, rfl, _, rfl, p, dl, c, m, rfl, hls c (List.mem_of_getElem? hc'), hm0, hm, B5, fun v x H7 dv hl hx B7 K7 => ⟨sz_1, fun t ht => ?_⟩⟩
      obtain ⟨_, xs, eu, hs, ha⟩ := du.tuple_inv
      cases eu
      have hxn : xs ≠ [] := by
        obtain ⟨_, _, rfl, _, _⟩ := ha.cons_inv
        simp
      have hxl := ha.length
      have hfl : fs.length ≤ 10 := by
        have := congrArg List.length hf
        rw [List.length_map, List.length_take] at this
        omega
      have kT := K7.keepT (K := K) B5.at_
      have S8 := Same.new (o := .tup [v]) ht
      refine ⟨u, t, xs, [v], rfl, rfl, Same.tupl S8 (kT _ _ hs), SqT.of upd_same, Nat.le_trans (show _ ≤ 100 by simp at hxl ⊢; omega) (by decide), fun h => absurd h hxn, (fun _ h => by cases h), fun _ _ q hq => ?_⟩
      have S9 := Same.new (o := .tup (xs ++ [v])) hq
      have dq := Dt.made hq (DtAll.app ((ha.keepT kT).mono S8) (.cons (dv.mono S8) .nil))
      refine ⟨q, fs ++ [x], _, rfl, by rw [List.map_append]; exact dq, ?_, fun f hf' => ?_, (B7.same S8).same S9, (K5.trans K7).trans (Same.keep (S8.trans S9))⟩
      · rw [List.map_append, hf, List.take_succ, hc', List.map_cons, hl]; rfl
      · rcases List.mem_append.mp hf' with h | h
        · exact hfs f h
        · rw [List.mem_singleton.mp h]; exact hx
    · rintro σ H5 ⟨u, fs, x4, rfl, du, hf, hfs, B5, K5⟩
      have hz : (S ls).cps.size = ls.length := by simp [S]
      rw [hz, List.take_length] at hf
      exact ⟨_, rfl, k _ fs _ du hf hfs B5 K5⟩
/-! tables -/
abbrev Tab := List (Str × List Nat)
/-- a list of rows: a kind, its letters -/
def TabAt (H : Hp) (tl : Addr) (tab : Tab) : Prop := ∃ rs : List Addr, H tl = some (.lst (rs.map V.ref)) ∧ rs.length = tab.length ∧ ∀ (i : Nat) (r : Addr), rs[i]? = some r → ∃ kd ls, tab[i]? = some (kd, ls) ∧ H r = some (.lst [.str kd, .str (S ls)])
theorem TabAt.mono {H H' : Hp} {tl : Addr} {tab : Tab} (h : TabAt H tl tab) (e : Same H H') : TabAt H' tl tab := by
  obtain ⟨rs, e1, e2, e3⟩ := h
  exact ⟨rs, e _ _ e1, e2, fun i r hr => let ⟨kd, ls, a, b⟩ := e3 i r hr; ⟨kd, ls, a, e _ _ b⟩⟩
theorem TabAt.keep {H H' : Hp} {tl p dl : Addr} {tab : Tab} (h : TabAt H tl tab) (B : BoxAt H p dl) (k : Keep p H H') : TabAt H' tl tab := by
  obtain ⟨rs, e1, e2, e3⟩ := h
  have hne : tl ≠ p := fun e => by
    subst e
    obtain ⟨ds, n, e4, _⟩ := B
    rw [e1] at e4
    match rs, HO.lst.inj (Option.some.inj e4) with
    | [_, _], e => cases (List.cons.inj (List.cons.inj e).2).1
  exact ⟨rs, k _ _ e1 hne, e2, fun i r hr => let ⟨kd, ls, a, b⟩ := e3 i r hr; ⟨kd, ls, a, k _ _ b (row_ne B b)⟩⟩
def TabOk (al : List Nat) (tab : Tab) : Prop := ∀ t ∈ tab, (∀ c ∈ t.2, c ∈ al) ∧ t.2.length ≤ 10
def spShape (K : PySem.W.Frag) : Sp := fun vs H Q _ => ∃ (p dl tl : Addr) (tab : Tab) (m : Nat), vs = [.ref p, .ref tl, .int (m : Int)] ∧ TabAt H tl tab ∧ tab ≠ [] ∧ tab.length ≤ 100 ∧ TabOk flds tab ∧ 0 < m ∧ m ≤ 10 ^ 6 ∧ BoxAt H p dl ∧
  ∀ v (kd : Str) (fs : List Fld) H', (kd, fs.map ltr) ∈ tab → Dt K H' v (.tuple (.str kd :: fs.map fldD)) → (∀ f ∈ fs, FldSm m f) → BoxAt H' p dl → Keep p H H' → Q v H'
theorem ok_shape {f : Addr} {fd : FuncData} (F : Fun K "_law_shape" "_law_shape" s_law_shape f fd) (T : Txt K mg) (U_law_draw : Use P w K mg base CX0 "_law_draw" 1 P_law_draw (spDraw K)) (U_law_shape_of : Use P w K mg base CX0 "_law_shape_of" 8 P_law_shape_of (spShapeOf0 K)) : FnG P w K mg base CX0 9 f fd P_law_shape (spShape K) := by
  refine okG0 F sc_law_shape (fun vs H Q E h => ?_) fun cdv A outer s H vs Q E hr hg h => ?_
  · obtain ⟨p, dl, tl, tab, m, rfl, _⟩ := h
    rfl
  · obtain ⟨p, dl, tl, tab, m, rfl, hT, hne, htl, hok, hm0, hm, B, k⟩ := h
    refine ⟨_, (pss_cons (ps_set (i := 3) sc_law_shape.nd rfl (Or.inl rfl) (pe_ix ix_list (pv 1) (pe_op op_mod (pe_callTy call_int1 (by rfl) T.b_int (by decide +kernel) (pa_cons (pe_op op_add (pe_op op_mul (pe_use U_law_draw (hr.mono (by decide)) hg rfl (pa_cons (pv 0) (pa_cons pe_int pa_nil))) pe_int) (pe_use U_law_draw (hr.mono (by decide)) hg rfl (pa_cons (pv 0) (pa_cons pe_int pa_nil)))) pa_nil)) (pe_callB call_len (by rfl) T.b_len PySem.boot_len (pa_cons (pv 1) pa_nil))) (fun _ _ => rfl)))
  (pss_one (ps_ret (pe_use U_law_shape_of (hr.mono (by decide)) hg rfl (pa_cons (pv 0) (pa_cons (pv 3) (pa_cons (pv 2) pa_nil))))))), ?_⟩
    refine ⟨_, rfl, _, rfl, p, dl, 1000, rfl, B, by decide, fun r1 H1 q0 q1 B1 K1 => ?_⟩
    refine ⟨_, _, rfl, rfl, .inr ⟨by decide, by decide⟩, _, rfl, p, dl, 1000, rfl, B1, by decide, fun r2 H2 q2 q3 B2 K2 => ?_⟩
    have hT2 := (hT.keep B K1).keep B1 K2
    obtain ⟨rs, e1, e2, e3⟩ := id hT2
    have hrl : 0 < rs.length := by rw [e2]; exact List.length_pos_iff.mpr hne
    refine ⟨_, _, rfl, rfl, .inl ⟨_, rfl, _, rfl, _, _, rfl, .inl ⟨_, SqL.of e1, rfl⟩, _, _, rfl, rfl, by rw [List.length_map]; omega, ?_⟩⟩
    obtain ⟨j, hj⟩ : ∃ j : Nat, (r1 * 1000 + r2) % (((rs.map V.ref).length : Nat) : Int) = (j : Int) := ⟨_, (Int.toNat_of_nonneg (Int.emod_nonneg _ (by rw [List.length_map]; omega))).symm⟩
    have hjm := Int.emod_lt_of_pos (r1 * 1000 + r2) (show (0 : Int) < (((rs.map V.ref).length : Nat) : Int) by rw [List.length_map]; omega)
    rw [hj, List.length_map] at hjm
    have hr2 : rs[j]? = some rs[j] := List.getElem?_eq_getElem (by omega)
    obtain ⟨kd, ls, et, er⟩ := e3 j _ hr2
    have hmem := List.mem_of_getElem? et
    obtain ⟨o1, o2⟩ := hok _ hmem
    dsimp only
    rw [hj]
    refine ⟨tl, _, _, _, rfl, rfl, SqL.of e1, atI_nat (by rw [List.getElem?_map, hr2]; rfl), ?_⟩
    refine ⟨_, rfl, _, rfl, _, rfl, p, dl, _, kd, ls, m, rfl, er, o1, o2, hm0, hm, B2, fun v fs H3 dv hf hfs B3 K3 => ?_⟩
    exact k v kd fs H3 (by rw [hf]; exact hmem) dv hfs B3 ((K1.trans K2).trans K3)
--SPLIT
/-! the tables themselves -/
def frTab : Tab := ([("neg", []), ("not", []), ("bin1", [120, 116, 97]), ("bin2", [120, 118]), ("and", [116, 97]), ("or", [116, 97]), ("choice", [116, 116, 97]), ("cmp1", [116, 97]), ("cmp2", [118, 120, 116, 97]), ("cmp3", [118, 116, 97]), ("attr", [120]), ("item1", [116, 97])] : Tab) ++ ([("item2", [118]), ("part1", [116, 116, 97]), ("part2", [118, 116, 97]), ("part3", [118, 118]), ("items", [120, 86, 116, 97]), ("dict1", [87, 116, 116, 97]), ("dict2", [87, 118, 116, 97]), ("call1", [116, 116, 97]), ("args", [118, 86, 116, 88, 116, 97]), ("rest", [116, 97]), ("drop", []), ("put", [116, 97])] : Tab) ++ ([("del1", [116, 97]), ("del2", [118]), ("ret", []), ("throw", []), ("if", [116, 116, 97]), ("while1", [116, 116, 97, 110]), ("while2", [116, 116, 97, 110]), ("for1", [116, 116, 97, 110]), ("for2", [116, 116, 97, 110]), ("for3", [118, 116, 116, 97, 110]), ("for4", [118, 116, 116, 97, 110]), ("for5", [118, 116, 116, 97, 110])] : Tab) ++ ([("def", [120, 116, 116, 116, 88, 116, 97]), ("class1", [120, 116, 116, 97]), ("class2", [120, 98, 97, 97]), ("catch", [116, 97]), ("match", [118, 116, 97]), ("handling", [118]), ("final", [116, 97]), ("after", [115]), ("giving", [116, 97]), ("sent", [116, 97]), ("setattr", [120, 118]), ("seti1", [116, 118, 97])] : Tab) ++ ([("seti2", [118, 118]), ("unpack", [116, 86, 97]), ("forget", []), ("body", [120, 110]), ("init", [118]), ("genbody", [97, 120, 110, 120]), ("begin", [116, 97]), ("want", [120]), ("print", [118, 86]), ("gather1", [120]), ("gather", [120, 118, 86]), ("default", [118])] : Tab)
def obTab : Tab := [("list", [86]), ("tuple", [86]), ("dict", [87]), ("scope", [88, 116, 116, 98, 116]), ("func", [120, 116, 88, 116, 116, 97]), ("class", [120, 98, 88]), ("inst", [97, 88]), ("bound", [118, 118]), ("iter", [118, 110, 110]), ("gen", [120, 120, 70])]
def coTab : Tab := [("eval", [116, 97]), ("exec", [116, 97]), ("store", [116, 118, 97]), ("call", [118, 86, 88]), ("resume", [97, 120, 118]), ("value", [118]), ("done", []), ("leave", [115]), ("give", [118]), ("ask", [120, 86])]
def frWlN : List (List Nat) := ([[110, 101, 103], [110, 111, 116], [98, 105, 110, 49, 32, 120, 116, 97], [98, 105, 110, 50, 32, 120, 118], [97, 110, 100, 32, 116, 97], [111, 114, 32, 116, 97], [99, 104, 111, 105, 99, 101, 32, 116, 116, 97], [99, 109, 112, 49, 32, 116, 97], [99, 109, 112, 50, 32, 118, 120, 116, 97], [99, 109, 112, 51, 32, 118, 116, 97], [97, 116, 116, 114, 32, 120], [105, 116, 101, 109, 49, 32, 116, 97]] : List (List Nat)) ++ ([[105, 116, 101, 109, 50, 32, 118], [112, 97, 114, 116, 49, 32, 116, 116, 97], [112, 97, 114, 116, 50, 32, 118, 116, 97], [112, 97, 114, 116, 51, 32, 118, 118], [105, 116, 101, 109, 115, 32, 120, 86, 116, 97], [100, 105, 99, 116, 49, 32, 87, 116, 116, 97], [100, 105, 99, 116, 50, 32, 87, 118, 116, 97], [99, 97, 108, 108, 49, 32, 116, 116, 97], [97, 114, 103, 115, 32, 118, 86, 116, 88, 116, 97], [114, 101, 115, 116, 32, 116, 97], [100, 114, 111, 112], [112, 117, 116, 32, 116, 97]] : List (List Nat)) ++ ([[100, 101, 108, 49, 32, 116, 97], [100, 101, 108, 50, 32, 118], [114, 101, 116], [116, 104, 114, 111, 119], [105, 102, 32, 116, 116, 97], [119, 104, 105, 108, 101, 49, 32, 116, 116, 97, 110], [119, 104, 105, 108, 101, 50, 32, 116, 116, 97, 110], [102, 111, 114, 49, 32, 116, 116, 97, 110], [102, 111, 114, 50, 32, 116, 116, 97, 110], [102, 111, 114, 51, 32, 118, 116, 116, 97, 110], [102, 111, 114, 52, 32, 118, 116, 116, 97, 110], [102, 111, 114, 53, 32, 118, 116, 116, 97, 110]] : List (List Nat)) ++ ([[100, 101, 102, 32, 120, 116, 116, 116, 88, 116, 97], [99, 108, 97, 115, 115, 49, 32, 120, 116, 116, 97], [99, 108, 97, 115, 115, 50, 32, 120, 98, 97, 97], [99, 97, 116, 99, 104, 32, 116, 97], [109, 97, 116, 99, 104, 32, 118, 116, 97], [104, 97, 110, 100, 108, 105, 110, 103, 32, 118], [102, 105, 110, 97, 108, 32, 116, 97], [97, 102, 116, 101, 114, 32, 115], [103, 105, 118, 105, 110, 103, 32, 116, 97], [115, 101, 110, 116, 32, 116, 97], [115, 101, 116, 97, 116, 116, 114, 32, 120, 118], [115, 101, 116, 105, 49, 32, 116, 118, 97]] : List (List Nat)) ++ ([[115, 101, 116, 105, 50, 32, 118, 118], [117, 110, 112, 97, 99, 107, 32, 116, 86, 97], [102, 111, 114, 103, 101, 116], [98, 111, 100, 121, 32, 120, 110], [105, 110, 105, 116, 32, 118], [103, 101, 110, 98, 111, 100, 121, 32, 97, 120, 110, 120], [98, 101, 103, 105, 110, 32, 116, 97], [119, 97, 110, 116, 32, 120], [112, 114, 105, 110, 116, 32, 118, 86], [103, 97, 116, 104, 101, 114, 49, 32, 120], [103, 97, 116, 104, 101, 114, 32, 120, 118, 86], [100, 101, 102, 97, 117, 108, 116, 32, 118]] : List (List Nat))
def frWd : Str := ("neg|not|bin1 xta|bin2 xv|and ta|or ta|choice tta|cmp1 ta|cmp2 vxta|cmp3 vta|attr x|item1 ta|item2 v|" : Str) ++ ("part1 tta|part2 vta|part3 vv|items xVta|dict1 Wtta|dict2 Wvta|call1 tta|args vVtXta|rest ta|drop|" : Str) ++ ("put ta|del1 ta|del2 v|ret|throw|if tta|while1 ttan|while2 ttan|for1 ttan|for2 ttan|for3 vttan|" : Str) ++ ("for4 vttan|for5 vttan|def xtttXta|class1 xtta|class2 xbaa|catch ta|match vta|handling v|final ta|" : Str) ++ ("after s|giving ta|sent ta|setattr xv|seti1 tva|seti2 vv|unpack tVa|forget|body xn|init v|" : Str) ++ ("genbody axnx|begin ta|want x|print vV|gather1 x|gather xvV|default v" : Str)
/-- rows made so far -/
def RowsAt (H : Hp) (rs : List Addr) (tab : Tab) : Prop := rs.length = tab.length ∧ ∀ (i : Nat) (r : Addr), rs[i]? = some r → ∃ kd ls, tab[i]? = some (kd, ls) ∧ H r = some (.lst [.str kd, .str (S ls)])
theorem RowsAt.nil {H : Hp} : RowsAt H [] [] := ⟨rfl, fun i r h => by simp at h⟩
theorem RowsAt.app {H : Hp} {rs : List Addr} {tab : Tab} {r : Addr} {kd z : Str} {ls : List Nat} (h : RowsAt H rs tab) (hr : H r = none) (hz : z = S ls) : RowsAt (upd H r (.lst [.str kd, .str z])) (rs ++ [r]) (tab ++ [(kd, ls)]) := by
  subst hz
  refine ⟨by simp [h.1], fun i q hq => ?_⟩
  rcases Nat.lt_trichotomy i rs.length with hi | hi | hi
  · rw [List.getElem?_append_left hi] at hq
    obtain ⟨kd', ls', a, b⟩ := h.2 i q hq
    exact ⟨kd', ls', by rw [List.getElem?_append_left (by rw [← h.1]; exact hi)]; exact a, by rw [upd_ne (ne_of_none b hr)]; exact b⟩
  · subst hi
    rw [List.getElem?_append_right (Nat.le_refl _), Nat.sub_self] at hq
    cases hq
    exact ⟨kd, ls, by rw [h.1, List.getElem?_append_right (Nat.le_refl _), Nat.sub_self]; rfl, upd_same⟩
  · have := (List.getElem?_eq_some_iff.mp hq).1
    simp at this
    omega
theorem RowsAt.mono {H H' : Hp} {rs : List Addr} {tab : Tab} (h : RowsAt H rs tab) (e : Same H H') : RowsAt H' rs tab := ⟨h.1, fun i r hr => let ⟨kd, ls, a, b⟩ := h.2 i r hr; ⟨kd, ls, a, e _ _ b⟩⟩
theorem RowsAt.tab {H : Hp} {rs : List Addr} {tab : Tab} {tl : Addr} (h : RowsAt H rs tab) (ht : H tl = none) : TabAt (upd H tl (.lst (rs.map V.ref))) tl tab := ⟨rs, upd_same, h.1, (h.mono (Same.new ht)).2⟩
def spTab (tab : Tab) : Sp := fun vs H Q _ => vs = [] ∧ ∀ tl H', Same H H' → TabAt H' tl tab → Q (.ref tl) H'
theorem ok_objects {f : Addr} {fd : FuncData} (F : Fun K "_law_objects" "_law_objects" s_law_objects f fd) (T : Txt K mg) : FnG P w K mg base CX0 1 f fd P_law_objects (spTab obTab) := by
  refine okG0 F sc_law_objects (fun vs H Q E h => ?_) fun cdv A outer s H vs Q E hr hg h => ?_
  · obtain ⟨rfl, _⟩ := h
    rfl
  · obtain ⟨rfl, k⟩ := h
    refine ⟨_, (pss_one (ps_ret (pe_lst (pa_cons (pe_lst (pa_cons pe_str (pa_cons pe_str pa_nil))) (pa_cons (pe_lst (pa_cons pe_str (pa_cons pe_str pa_nil))) (pa_cons (pe_lst (pa_cons pe_str (pa_cons pe_str pa_nil))) (pa_cons (pe_lst (pa_cons pe_str (pa_cons pe_str pa_nil))) (pa_cons (pe_lst (pa_cons pe_str (pa_cons pe_str pa_nil))) (pa_cons (pe_lst (pa_cons pe_str (pa_cons pe_str pa_nil))) (pa_cons (pe_lst (pa_cons pe_str (pa_cons pe_str pa_nil))) (pa_cons (pe_lst (pa_cons pe_str (pa_cons pe_str pa_nil))) (pa_cons (pe_lst (pa_cons pe_str (pa_cons pe_str pa_nil))) (pa_cons (pe_lst (pa_cons pe_str (pa_cons pe_str pa_nil))) pa_nil))))))))))))), ?_⟩
    refine ⟨sz_2, fun r0 h0 => ⟨sz_2, fun r1 h1 => ⟨sz_2, fun r2 h2 => ⟨sz_2, fun r3 h3 => ⟨sz_2, fun r4 h4 => ⟨sz_2, fun r5 h5 => ⟨sz_2, fun r6 h6 => ⟨sz_2, fun r7 h7 => ⟨sz_2, fun r8 h8 => ⟨sz_2, fun r9 h9 => ⟨(show 10 ≤ sizeLine by decide), fun tl htl => ?_⟩⟩⟩⟩⟩⟩⟩⟩⟩⟩⟩
    have R0 := (RowsAt.nil (H := H)).app (kd := "list") (ls := [86]) (z := "V") h0 (by decide +kernel)
    have R1 := R0.app (kd := "tuple") (ls := [86]) (z := "V") h1 (by decide +kernel)
    have R2 := R1.app (kd := "dict") (ls := [87]) (z := "W") h2 (by decide +kernel)
    have R3 := R2.app (kd := "scope") (ls := [88, 116, 116, 98, 116]) (z := "Xttbt") h3 (by decide +kernel)
    have R4 := R3.app (kd := "func") (ls := [120, 116, 88, 116, 116, 97]) (z := "xtXtta") h4 (by decide +kernel)
    have R5 := R4.app (kd := "class") (ls := [120, 98, 88]) (z := "xbX") h5 (by decide +kernel)
    have R6 := R5.app (kd := "inst") (ls := [97, 88]) (z := "aX") h6 (by decide +kernel)
    have R7 := R6.app (kd := "bound") (ls := [118, 118]) (z := "vv") h7 (by decide +kernel)
    have R8 := R7.app (kd := "iter") (ls := [118, 110, 110]) (z := "vnn") h8 (by decide +kernel)
    have R9 := R8.app (kd := "gen") (ls := [120, 120, 70]) (z := "xxF") h9 (by decide +kernel)
    exact k tl _ (((((((((((Same.new (o := .lst [.str "list", .str "V"]) h0).trans (Same.new (o := .lst [.str "tuple", .str "V"]) h1)).trans (Same.new (o := .lst [.str "dict", .str "W"]) h2)).trans (Same.new (o := .lst [.str "scope", .str "Xttbt"]) h3)).trans (Same.new (o := .lst [.str "func", .str "xtXtta"]) h4)).trans (Same.new (o := .lst [.str "class", .str "xbX"]) h5)).trans (Same.new (o := .lst [.str "inst", .str "aX"]) h6)).trans (Same.new (o := .lst [.str "bound", .str "vv"]) h7)).trans (Same.new (o := .lst [.str "iter", .str "vnn"]) h8)).trans (Same.new (o := .lst [.str "gen", .str "xxF"]) h9)).trans (Same.new htl)) (R9.tab htl)
theorem ok_controls {f : Addr} {fd : FuncData} (F : Fun K "_law_controls" "_law_controls" s_law_controls f fd) (T : Txt K mg) : FnG P w K mg base CX0 1 f fd P_law_controls (spTab coTab) := by
  refine okG0 F sc_law_controls (fun vs H Q E h => ?_) fun cdv A outer s H vs Q E hr hg h => ?_
  · obtain ⟨rfl, _⟩ := h
    rfl
  · obtain ⟨rfl, k⟩ := h
    refine ⟨_, (pss_one (ps_ret (pe_lst (pa_cons (pe_lst (pa_cons pe_str (pa_cons pe_str pa_nil))) (pa_cons (pe_lst (pa_cons pe_str (pa_cons pe_str pa_nil))) (pa_cons (pe_lst (pa_cons pe_str (pa_cons pe_str pa_nil))) (pa_cons (pe_lst (pa_cons pe_str (pa_cons pe_str pa_nil))) (pa_cons (pe_lst (pa_cons pe_str (pa_cons pe_str pa_nil))) (pa_cons (pe_lst (pa_cons pe_str (pa_cons pe_str pa_nil))) (pa_cons (pe_lst (pa_cons pe_str (pa_cons pe_str pa_nil))) (pa_cons (pe_lst (pa_cons pe_str (pa_cons pe_str pa_nil))) (pa_cons (pe_lst (pa_cons pe_str (pa_cons pe_str pa_nil))) (pa_cons (pe_lst (pa_cons pe_str (pa_cons pe_str pa_nil))) pa_nil))))))))))))), ?_⟩
    refine ⟨sz_2, fun r0 h0 => ⟨sz_2, fun r1 h1 => ⟨sz_2, fun r2 h2 => ⟨sz_2, fun r3 h3 => ⟨sz_2, fun r4 h4 => ⟨sz_2, fun r5 h5 => ⟨sz_2, fun r6 h6 => ⟨sz_2, fun r7 h7 => ⟨sz_2, fun r8 h8 => ⟨sz_2, fun r9 h9 => ⟨(show 10 ≤ sizeLine by decide), fun tl htl => ?_⟩⟩⟩⟩⟩⟩⟩⟩⟩⟩⟩
    have R0 := (RowsAt.nil (H := H)).app (kd := "eval") (ls := [116, 97]) (z := "ta") h0 (by decide +kernel)
    have R1 := R0.app (kd := "exec") (ls := [116, 97]) (z := "ta") h1 (by decide +kernel)
    have R2 := R1.app (kd := "store") (ls := [116, 118, 97]) (z := "tva") h2 (by decide +kernel)
    have R3 := R2.app (kd := "call") (ls := [118, 86, 88]) (z := "vVX") h3 (by decide +kernel)
    have R4 := R3.app (kd := "resume") (ls := [97, 120, 118]) (z := "axv") h4 (by decide +kernel)
    have R5 := R4.app (kd := "value") (ls := [118]) (z := "v") h5 (by decide +kernel)
    have R6 := R5.app (kd := "done") (ls := []) (z := "") h6 (by decide +kernel)
    have R7 := R6.app (kd := "leave") (ls := [115]) (z := "s") h7 (by decide +kernel)
    have R8 := R7.app (kd := "give") (ls := [118]) (z := "v") h8 (by decide +kernel)
    have R9 := R8.app (kd := "ask") (ls := [120, 86]) (z := "xV") h9 (by decide +kernel)
    exact k tl _ (((((((((((Same.new (o := .lst [.str "eval", .str "ta"]) h0).trans (Same.new (o := .lst [.str "exec", .str "ta"]) h1)).trans (Same.new (o := .lst [.str "store", .str "tva"]) h2)).trans (Same.new (o := .lst [.str "call", .str "vVX"]) h3)).trans (Same.new (o := .lst [.str "resume", .str "axv"]) h4)).trans (Same.new (o := .lst [.str "value", .str "v"]) h5)).trans (Same.new (o := .lst [.str "done", .str ""]) h6)).trans (Same.new (o := .lst [.str "leave", .str "s"]) h7)).trans (Same.new (o := .lst [.str "give", .str "v"]) h8)).trans (Same.new (o := .lst [.str "ask", .str "xV"]) h9)).trans (Same.new htl)) (R9.tab htl)
def frWl : List Str := frWlN.map S
theorem frWd_S : frWd = S (TL.joinL [124] frWlN) := by decide +kernel
theorem fr_split : Txt.split frWd "|" = frWl := by
  rw [frWd_S, show ("|" : Str) = S [124] by decide +kernel, split_S (by simp) (by decide), SX.spl_join (c := 124) (sep := []) (by decide) (by decide)]
  rfl
theorem fr_words : (List.zip frWl frTab).all (fun t => KWd.fin (KWd.scan t.1) == (if t.2.2 = [] then [t.2.1] else [t.2.1, S t.2.2])) = true := by decide +kernel
theorem fr_len : frWl.length = 60 ∧ frTab.length = 60 := by decide +kernel
theorem fr_word {i : Nat} {w : Str} (h : frWl[i]? = some w) : ∃ kd ls, frTab[i]? = some (kd, ls) ∧ Txt.words w = (if ls = [] then [kd] else [kd, S ls]) := by
  have hi := (List.getElem?_eq_some_iff.mp h).1
  rw [fr_len.1] at hi
  have hj : frTab[i]? = some (frTab[i]'(by rw [fr_len.2]; exact hi)) := List.getElem?_eq_getElem _
  generalize frTab[i]'_ = t at hj
  refine ⟨t.1, t.2, hj, ?_⟩
  have hz : (w, t) ∈ List.zip frWl frTab := by
    refine List.mem_of_getElem? (i := i) ?_
    rw [List.getElem?_zip_eq_some]
    exact ⟨h, hj⟩
  rw [KWd.words_scan]
  exact eq_of_beq (List.all_eq_true.mp fr_words _ hz)
theorem fr_wlN : ∀ l ∈ frWlN, l.length ≤ 1000 := by decide
theorem fr_wlen : ∀ z ∈ frWl, z.length ≤ 1000 := fun z hz => by
  obtain ⟨l, hl, rfl⟩ := List.mem_map.mp hz
  rw [S_len]; exact fr_wlN l hl
theorem frWd_len : frWd.length ≤ 1000 := by decide +kernel
--SPLIT
theorem ok_frames {f : Addr} {fd : FuncData} (F : Fun K "_law_frames" "_law_frames" s_law_frames f fd) (T : Txt K mg) : FnG P w K mg base CX0 1 f fd P_law_frames (spTab frTab) := by
  refine okG0 F sc_law_frames (fun vs H Q E h => ?_) fun cdv A outer s H vs Q E hr hg h => ?_
  · obtain ⟨rfl, _⟩ := h
    rfl
  · obtain ⟨rfl, k⟩ := h
    refine ⟨_, (pss_cons (ps_set (i := 0) sc_law_frames.nd rfl (Or.inl rfl) pe_str)
  (pss_cons (ps_set (i := 0) sc_law_frames.nd rfl (Or.inl rfl) (pe_op op_add_str (pv 0) pe_str))
  (pss_cons (ps_set (i := 0) sc_law_frames.nd rfl (Or.inl rfl) (pe_op op_add_str (pv 0) pe_str))
  (pss_cons (ps_set (i := 0) sc_law_frames.nd rfl (Or.inl rfl) (pe_op op_add_str (pv 0) pe_str))
  (pss_cons (ps_set (i := 0) sc_law_frames.nd rfl (Or.inl rfl) (pe_op op_add_str (pv 0) pe_str))
  (pss_cons (ps_set (i := 0) sc_law_frames.nd rfl (Or.inl rfl) (pe_op op_add_str (pv 0) pe_str))
  (pss_cons (ps_set (i := 1) sc_law_frames.nd rfl (Or.inl rfl) (pe_lst pa_nil))
  (pss_cons (ps_for PassesOwn.never rfl (pi_list (pe_bm PySem.F.plainAttrs_str PySem.F.slot_str_split PySem.F.type_str_split mt_split (pv 0) (pa_cons pe_str pa_nil))) (pg_name (i := 2) sc_law_frames.nd rfl (Or.inl rfl))
   (pss_cons (ps_set (i := 3) sc_law_frames.nd rfl (Or.inl rfl) (pe_bm0 PySem.F.plainAttrs_str PySem.F.slot_str_split PySem.F.type_str_split mt_split0 (pv 2)))
  (pss_one (ps_if (pt_cmpR op_eq (pe_callB call_len (by rfl) T.b_len PySem.boot_len (pa_cons (pv 3) pa_nil)) pe_int (nomark _))
   (pss_one (ps_expr (pe_bm PySem.F.plainAttrs_list PySem.F.slot_list_append PySem.F.type_list_append mt_append (pv 1) (pa_cons (pe_lst (pa_cons (pe_ix ix_list (pv 3) pe_int (fun _ _ => rfl)) (pa_cons pe_str pa_nil))) pa_nil))))
   (pss_one (ps_expr (pe_bm PySem.F.plainAttrs_list PySem.F.slot_list_append PySem.F.type_list_append mt_append (pv 1) (pa_cons (pe_lst (pa_cons (pe_ix ix_list (pv 3) pe_int (fun _ _ => rfl)) (pa_cons (pe_ix ix_list (pv 3) pe_int (fun _ _ => rfl)) pa_nil))) pa_nil))))))))
  (pss_one (ps_ret (pv 1))))))))))), ?_⟩
    refine ⟨_, rfl, _, _, rfl, rfl, by decide +kernel, _, rfl, _, _, rfl, rfl, by decide +kernel, _, rfl, _, _, rfl, rfl, by decide +kernel, _, rfl, _, _, rfl, rfl, by decide +kernel, _, rfl, _, _, rfl, rfl, by decide +kernel, ?_⟩
    refine ⟨sz_0, fun rl hrl => ?_⟩
    have S0 := Same.new (o := .lst []) hrl
    refine ⟨_, rfl, rfl, _, _, rfl, rfl, by decide +kernel, Nat.le_trans (Nat.add_le_add_right frWd_len 2) (by decide), fun lp hlp => ?_⟩
    rw [show (("neg|not|bin1 xta|bin2 xv|and ta|or ta|choice tta|cmp1 ta|cmp2 vxta|cmp3 vta|attr x|item1 ta|item2 v|" : Str) ++ ("part1 tta|part2 vta|part3 vv|items xVta|dict1 Wtta|dict2 Wvta|call1 tta|args vVtXta|rest ta|drop|" : Str) ++ ("put ta|del1 ta|del2 v|ret|throw|if tta|while1 ttan|while2 ttan|for1 ttan|for2 ttan|for3 vttan|" : Str) ++ ("for4 vttan|for5 vttan|def xtttXta|class1 xtta|class2 xbaa|catch ta|match vta|handling v|final ta|" : Str) ++ ("after s|giving ta|sent ta|setattr xv|seti1 tva|seti2 vv|unpack tVa|forget|body xn|init v|" : Str) ++ ("genbody axnx|begin ta|want x|print vV|gather1 x|gather xvV|default v" : Str) : Str) = frWd from rfl, fr_split]
    have S1 := Same.new (o := .lst (frWl.map V.str)) hlp
    have nrl : lp ≠ rl := fun e => by subst e; rw [upd_same] at hlp; cases hlp
    refine ⟨lp, rfl, ⟨_, SqL.of upd_same⟩, ?_⟩
    refine for_list (xs := frWl.map V.str) (fun i σ H5 => ∃ (rs : List Addr) (x2 x3 : Option V), σ = [some (.str frWd), some (.ref rl), x2, x3] ∧ H5 rl = some (.lst (rs.map V.ref)) ∧ RowsAt H5 rs (frTab.take i) ∧ H5 lp = some (.lst (frWl.map V.str)) ∧ Same H H5) ⟨[], none, none, rfl, S1 _ _ upd_same, RowsAt.nil, upd_same, S0.trans S1⟩ ?_ ?_ ?_
    · rintro i σ H5 hi ⟨rs, x2, x3, rfl, e5, R5, l5, S5⟩
      exact SqL.of l5
    · rintro i y σ H5 hy ⟨rs, x2, x3, rfl, e5, R5, l5, S5⟩
      rw [List.getElem?_map] at hy
      obtain ⟨w', hw, rfl⟩ := Option.map_eq_some_iff.mp hy
      obtain ⟨kd, ls, ht, hws⟩ := fr_word hw
      have hi : i < 60 := by rw [← fr_len.1]; exact (List.getElem?_eq_some_iff.mp hw).1
      have hrs : rs.length ≤ 60 := by rw [R5.1, List.length_take]; omega
      have hwl : w'.length ≤ 1000 := fr_wlen _ (List.mem_of_getElem? hw)
      have htk : frTab.take (i + 1) = frTab.take i ++ [(kd, ls)] := by rw [List.take_succ, ht]; rfl
      refine ⟨_, rfl, rfl, _, rfl, rfl, Nat.le_trans (Nat.add_le_add_right hwl 2) (by decide), fun q hq => ?_⟩
      rw [hws]
      have nqr : rl ≠ q := ne_of_none e5 hq
      have fin : ∀ (H6 : Hp) (r : Addr), Same H5 H6 → H6 r = none → ∃ (rs' : List Addr) (x2 x3 : Option V), ([some (.str frWd), some (.ref rl), some (.str w'), some (.ref q)] : L2.St) = [some (.str frWd), some (.ref rl), x2, x3] ∧ upd (upd H6 r (.lst [.str kd, .str (S ls)])) rl (.lst (rs.map V.ref ++ [.ref r])) rl = some (.lst (rs'.map V.ref)) ∧ RowsAt (upd (upd H6 r (.lst [.str kd, .str (S ls)])) rl (.lst (rs.map V.ref ++ [.ref r]))) rs' (frTab.take (i + 1)) ∧
          upd (upd H6 r (.lst [.str kd, .str (S ls)])) rl (.lst (rs.map V.ref ++ [.ref r])) lp = some (.lst (frWl.map V.str)) ∧ Same H (upd (upd H6 r (.lst [.str kd, .str (S ls)])) rl (.lst (rs.map V.ref ++ [.ref r]))) := fun H6 r S6 hr => by
        have R7 := (R5.mono S6).app (kd := kd) (ls := ls) (z := S ls) hr rfl
        have S7 := Same.new (o := .lst [.str kd, .str (S ls)]) hr
        rw [← htk] at R7
        refine ⟨rs ++ [r], _, _, rfl, by rw [upd_same, List.map_append]; rfl, ⟨R7.1, fun j z hz => ?_⟩, by rw [upd_ne nrl]; exact S7 _ _ (S6 _ _ l5), fun b o hb => ?_⟩
        · obtain ⟨kd', ls', a, b⟩ := R7.2 j z hz
          refine ⟨kd', ls', a, ?_⟩
          have hzr : z ≠ rl := fun e => by
            subst e
            rw [S7 _ _ (S6 _ _ e5)] at b
            have e := HO.lst.inj (Option.some.inj b)
            match rs, e with
            | [_, _], e => cases (List.cons.inj e).1
          rw [upd_ne hzr]; exact b
        · rw [upd_ne (ne_of_none hb hrl)]; exact S7 _ _ (S6 _ _ (S5 _ _ hb))
      by_cases h0 : ls = []
      · subst h0
        rw [if_pos rfl]
        have Sq := Same.new (o := .lst ([kd].map V.str)) hq
        refine ⟨_, rfl, _, _, rfl, .inl ⟨_, SqL.of upd_same, rfl⟩, rfl, _, rfl, iteTb (decide_eq_true rfl) ?_⟩
        refine ⟨_, rfl, .inl ⟨rfl, _, SqL.of (Sq _ _ e5)⟩, _, rfl, q, _, _, _, rfl, rfl, SqL.of upd_same, at0, sz_2, fun r hr => ⟨rl, _, _, rfl, rfl, Same.new hr _ _ (Sq _ _ e5), by rw [List.length_map]; exact Nat.lt_of_le_of_lt hrs (by decide), ?_⟩⟩
        exact fin _ r Sq hr
      · rw [if_neg h0]
        have Sq := Same.new (o := .lst ([kd, S ls].map V.str)) hq
        refine ⟨_, rfl, _, _, rfl, .inl ⟨_, SqL.of upd_same, rfl⟩, rfl, _, rfl, iteFb (decide_eq_false fun e => by cases e) ?_⟩
        refine ⟨_, rfl, .inl ⟨rfl, _, SqL.of (Sq _ _ e5)⟩, _, rfl, q, _, _, _, rfl, rfl, SqL.of upd_same, at0, _, rfl, q, _, _, _, rfl, rfl, SqL.of upd_same, at1, sz_2, fun r hr => ⟨rl, _, _, rfl, rfl, Same.new hr _ _ (Sq _ _ e5), by rw [List.length_map]; exact Nat.lt_of_le_of_lt hrs (by decide), ?_⟩⟩
        exact fin _ r Sq hr
    · rintro σ H5 ⟨rs, x2, x3, rfl, e5, R5, l5, S5⟩
      have e60 : frTab.take (frWl.map V.str).length = frTab := by rw [List.length_map, fr_len.1, ← fr_len.2, List.take_length]
      rw [e60] at R5
      exact ⟨_, rfl, k rl H5 S5 ⟨rs, e5, R5.1, R5.2⟩⟩
--SPLIT
/-! fields that hold frames -/
theorem FnG.up {CX : CXT} {j k : Nat} {f : Addr} {fd : FuncData} {ps : List Str} {sp : Sp} (F : FnG P w K mg base CX j f fd ps sp) (h : j ≤ k) : FnG P w K mg base CX k f fd ps sp where
  len := F.len
  run := fun A outer s H args us vs Q E hr hg he hb hv hs => F.run A outer s H args us vs Q E (hr.mono h) hg he hb hv hs
structure Fr where
  kd : Str
  fs : List Fld
inductive Fl2
  | one (x : Fld) | fr (l : List Fr)
def frD (f : Fr) : PyData := .tuple (.str f.kd :: f.fs.map fldD)
def fl2D : Fl2 → PyData
  | .one x => fldD x
  | .fr l => .tuple (l.map frD)
def ltr2 : Fl2 → Nat
  | .one x => ltr x
  | .fr _ => 70
def FrSm (m : Nat) (f : Fr) : Prop := (f.kd, f.fs.map ltr) ∈ frTab ∧ ∀ x ∈ f.fs, FldSm m x
def Fl2Sm (m : Nat) : Fl2 → Prop
  | .one x => FldSm m x
  | .fr l => l.length ≤ 2 ∧ ∀ f ∈ l, FrSm m f
def spField (K : PySem.W.Frag) : Sp := fun vs H Q _ => ∃ (p dl : Addr) (c m : Nat), vs = [.ref p, .str (S [c]), .int (m : Int)] ∧ c ∈ 70 :: flds ∧ 0 < m ∧ m ≤ 10 ^ 6 ∧ BoxAt H p dl ∧ ∀ v (x : Fl2) H', Dt K H' v (fl2D x) → ltr2 x = c → Fl2Sm m x → BoxAt H' p dl → Keep p H H' → Q v H'
def spFieldF (K : PySem.W.Frag) : Sp := fun vs H Q _ => ∃ (p dl : Addr) (m : Nat), vs = [.ref p, .str (S [70]), .int (m : Int)] ∧ 0 < m ∧ m ≤ 10 ^ 6 ∧ BoxAt H p dl ∧ ∀ v (l : List Fr) H', Dt K H' v (.tuple (l.map frD)) → Fl2Sm m (.fr l) → BoxAt H' p dl → Keep p H H' → Q v H'
theorem frTab_ok : TabOk flds frTab := by unfold TabOk; decide +kernel
theorem frTab_len : frTab.length ≤ 100 := by rw [fr_len.2]; decide
theorem frTab_ne : frTab ≠ [] := fun e => by have := fr_len.2; rw [e] at this; cases this
theorem ok_fieldF {f : Addr} {fd : FuncData} (F : Fun K "_law_field" "_law_field" s_law_field f fd) (T : Txt K mg) (U_law_draw : Use P w K mg base CX0 "_law_draw" 1 P_law_draw (spDraw K)) (U_law_value : Use P w K mg base CX0 "_law_value" 3 P_law_value (spLVal K)) (U_law_name : Use P w K mg base CX0 "_law_name" 2 P_law_name (spName K))
    (U_law_number : Use P w K mg base CX0 "_law_number" 2 P_law_number (spNumb K)) (U_law_tree : Use P w K mg base CX0 "_law_tree" 6 P_law_tree (spTree K 3)) (U_law_frames : Use P w K mg base CX0 "_law_frames" 1 P_law_frames (spTab frTab)) (U_law_shape : Use P w K mg base CX0 "_law_shape" 9 P_law_shape (spShape K)) : FnG P w K mg base CX0 10 f fd P_law_field (spFieldF K) := by
  refine okG0 F sc_law_field (fun vs H Q E h => ?_) fun cdv A outer s H vs Q E hr hg h => ?_
  · obtain ⟨p, dl, m, rfl, _⟩ := h
    rfl
  · obtain ⟨p, dl, m, rfl, hm0, hm, B, k⟩ := h
    refine ⟨_, (pss_cons (ps_if (pt_cmpR op_eq (pv 1) pe_str (nomark _))
   (pss_one (ps_ret (pe_use U_law_value (hr.mono (by decide)) hg rfl (pa_cons (pv 0) (pa_cons (pv 2) pa_nil)))))
   pss_nil)
  (pss_cons (ps_if (pt_cmpR op_eq (pv 1) pe_str (nomark _))
   (pss_cons (ps_set (i := 3) sc_law_field.nd rfl (Or.inl rfl) (pe_use U_law_draw (hr.mono (by decide)) hg rfl (pa_cons (pv 0) (pa_cons pe_int pa_nil))))
  (pss_one (ps_ret (pe_callTy call_tuple_of (by rfl) T.b_tuple (by decide +kernel) (pa_cons (pe_lc (own := [("k", 4)]) (g := (gName 4)) rfl sc_law_field.nd (pi_range1 (by rfl) T.b_range (pa_cons (pv 3) pa_nil)) (blkOk_by (N := N_law_field) (sc := defScope s_law_field) (by decide +kernel)) (fun _ _ _ _ _ => (pg_name (i := 4) sc_law_field.nd rfl (Or.inl rfl))) (fun _ _ _ _ _ => pts_nil) (fun _ _ _ _ _ => (pe_use U_law_value (hr.mono (by decide)) hg rfl (pa_cons (pv 0) (pa_cons (pv 2) pa_nil))))) pa_nil)))))
   pss_nil)
  (pss_cons (ps_if (pt_cmpR op_eq (pv 1) pe_str (nomark _))
   (pss_cons (ps_set (i := 3) sc_law_field.nd rfl (Or.inl rfl) (pe_use U_law_draw (hr.mono (by decide)) hg rfl (pa_cons (pv 0) (pa_cons pe_int pa_nil))))
  (pss_one (ps_ret (pe_callTy call_tuple_of (by rfl) T.b_tuple (by decide +kernel) (pa_cons (pe_lc (own := [("k", 4)]) (g := (gName 4)) rfl sc_law_field.nd (pi_range1 (by rfl) T.b_range (pa_cons (pv 3) pa_nil)) (blkOk_by (N := N_law_field) (sc := defScope s_law_field) (by decide +kernel)) (fun _ _ _ _ _ => (pg_name (i := 4) sc_law_field.nd rfl (Or.inl rfl))) (fun _ _ _ _ _ => pts_nil) (fun _ _ _ _ _ => (pe_tup (pa_cons (pe_use U_law_value (hr.mono (by decide)) hg rfl (pa_cons (pv 0) (pa_cons (pv 2) pa_nil))) (pa_cons (pe_use U_law_value (hr.mono (by decide)) hg rfl (pa_cons (pv 0) (pa_cons (pv 2) pa_nil))) pa_nil))))) pa_nil)))))
   pss_nil)
  (pss_cons (ps_if (pt_cmpR op_eq (pv 1) pe_str (nomark _))
   (pss_cons (ps_set (i := 3) sc_law_field.nd rfl (Or.inl rfl) (pe_use U_law_draw (hr.mono (by decide)) hg rfl (pa_cons (pv 0) (pa_cons pe_int pa_nil))))
  (pss_one (ps_ret (pe_callTy call_tuple_of (by rfl) T.b_tuple (by decide +kernel) (pa_cons (pe_lc (own := [("k", 4)]) (g := (gName 4)) rfl sc_law_field.nd (pi_range1 (by rfl) T.b_range (pa_cons (pv 3) pa_nil)) (blkOk_by (N := N_law_field) (sc := defScope s_law_field) (by decide +kernel)) (fun _ _ _ _ _ => (pg_name (i := 4) sc_law_field.nd rfl (Or.inl rfl))) (fun _ _ _ _ _ => pts_nil) (fun _ _ _ _ _ => (pe_tup (pa_cons (pe_use U_law_name (hr.mono (by decide)) hg rfl (pa_cons (pv 0) pa_nil)) (pa_cons (pe_use U_law_value (hr.mono (by decide)) hg rfl (pa_cons (pv 0) (pa_cons (pv 2) pa_nil))) pa_nil))))) pa_nil)))))
   pss_nil)
  (pss_cons (ps_if (pt_cmpR op_eq (pv 1) pe_str (nomark _))
   (pss_one (ps_ret (pe_use U_law_tree (hr.mono (by decide)) hg rfl (pa_cons (pv 0) (pa_cons pe_int pa_nil)))))
   pss_nil)
  (pss_cons (ps_if (pt_cmpR op_eq (pv 1) pe_str (nomark _))
   (pss_one (ps_ret (pe_op op_mod (pe_callTy call_int1 (by rfl) T.b_int (by decide +kernel) (pa_cons (pe_op op_add (pe_op op_mul (pe_use U_law_draw (hr.mono (by decide)) hg rfl (pa_cons (pv 0) (pa_cons pe_int pa_nil))) pe_int) (pe_use U_law_draw (hr.mono (by decide)) hg rfl (pa_cons (pv 0) (pa_cons pe_int pa_nil)))) pa_nil)) (pv 2))))
   pss_nil)
  (pss_cons (ps_if (pt_cmpR op_eq (pv 1) pe_str (nomark _))
   (pss_one (ps_ret (pe_op op_sub (pe_op op_mod (pe_callTy call_int1 (by rfl) T.b_int (by decide +kernel) (pa_cons (pe_op op_add (pe_op op_mul (pe_use U_law_draw (hr.mono (by decide)) hg rfl (pa_cons (pv 0) (pa_cons pe_int pa_nil))) pe_int) (pe_use U_law_draw (hr.mono (by decide)) hg rfl (pa_cons (pv 0) (pa_cons pe_int pa_nil)))) pa_nil)) (pe_op op_add (pv 2) pe_int)) pe_int)))
   pss_nil)
  (pss_cons (ps_if (pt_cmpR op_eq (pv 1) pe_str (nomark _))
   (pss_one (ps_ret (pe_use U_law_number (hr.mono (by decide)) hg rfl (pa_cons (pv 0) pa_nil))))
   pss_nil)
  (pss_cons (ps_if (pt_cmpR op_eq (pv 1) pe_str (nomark _))
   (pss_one (ps_ret (pe_use U_law_name (hr.mono (by decide)) hg rfl (pa_cons (pv 0) pa_nil))))
   pss_nil)
  (pss_cons (ps_if (pt_cmpR op_eq (pv 1) pe_str (nomark _))
   (pss_cons (ps_set (i := 5) sc_law_field.nd rfl (Or.inl rfl) (pe_use U_law_draw (hr.mono (by decide)) hg rfl (pa_cons (pv 0) (pa_cons pe_int pa_nil))))
  (pss_cons (ps_if (pt_cmpR op_lt (pv 5) pe_int (nomark _))
   (pss_one (ps_ret (pe_ix ix_list (pe_lst (pa_cons (pe_tup pa_nil) (pa_cons (pe_tup (pa_cons pe_str pa_nil)) (pa_cons (pe_tup (pa_cons pe_str pa_nil)) pa_nil)))) (pv 5) (fun _ _ => rfl))))
   pss_nil)
  (pss_one (ps_ret (pe_tup (pa_cons (pe_ix ix_list (pe_lst (pa_cons pe_str (pa_cons pe_str pa_nil))) (pe_op op_sub (pv 5) pe_int) (fun _ _ => rfl)) (pa_cons (pe_use U_law_value (hr.mono (by decide)) hg rfl (pa_cons (pv 0) (pa_cons (pv 2) pa_nil))) pa_nil)))))))
   pss_nil)
  (pss_cons (ps_set (i := 3) sc_law_field.nd rfl (Or.inl rfl) (pe_use U_law_draw (hr.mono (by decide)) hg rfl (pa_cons (pv 0) (pa_cons pe_int pa_nil))))
  (pss_one (ps_ret (pe_callTy call_tuple_of (by rfl) T.b_tuple (by decide +kernel) (pa_cons (pe_lc (own := [("k", 4)]) (g := (gName 4)) rfl sc_law_field.nd (pi_range1 (by rfl) T.b_range (pa_cons (pv 3) pa_nil)) (blkOk_by (N := N_law_field) (sc := defScope s_law_field) (by decide +kernel)) (fun _ _ _ _ _ => (pg_name (i := 4) sc_law_field.nd rfl (Or.inl rfl))) (fun _ _ _ _ _ => pts_nil) (fun _ _ _ _ _ => (pe_use U_law_shape (hr.mono (by decide)) hg rfl (pa_cons (pv 0) (pa_cons (pe_use0 U_law_frames (hr.mono (by decide)) hg rfl) (pa_cons (pv 2) pa_nil)))))) pa_nil))))))))))))))), ?_⟩
    refine ⟨_, rfl, rfl, _, rfl, iteFb (by decide +kernel) ?_⟩
    refine ⟨_, rfl, rfl, _, rfl, iteFb (by decide +kernel) ?_⟩
    refine ⟨_, rfl, rfl, _, rfl, iteFb (by decide +kernel) ?_⟩
    refine ⟨_, rfl, rfl, _, rfl, iteFb (by decide +kernel) ?_⟩
    refine ⟨_, rfl, rfl, _, rfl, iteFb (by decide +kernel) ?_⟩
    refine ⟨_, rfl, rfl, _, rfl, iteFb (by decide +kernel) ?_⟩
    refine ⟨_, rfl, rfl, _, rfl, iteFb (by decide +kernel) ?_⟩
    refine ⟨_, rfl, rfl, _, rfl, iteFb (by decide +kernel) ?_⟩
    refine ⟨_, rfl, rfl, _, rfl, iteFb (by decide +kernel) ?_⟩
    refine ⟨_, rfl, rfl, _, rfl, iteFb (by decide +kernel) ?_⟩
    refine ⟨_, rfl, p, dl, 3, rfl, B, by decide, fun n H1 n0 n1 B1 K1 => ?_⟩
    obtain ⟨n, rfl⟩ := Int.eq_ofNat_of_zero_le n0
    refine ⟨_, rfl, n, rfl, by omega, by omega, fun D hD => ?_⟩
    rw [Int.toNat_natCast]
    refine lc_it (walk_range (lo := 0) (n := n)) (fun i H' => Acc K H1 D p dl (fun d => ∃ x, d = frD x ∧ FrSm m x) i H') (Acc.start hD B1) (fun _ _ _ _ => trivial) ?_ ?_
    · rintro i x H5 H6 hi A ⟨rfl, rfl⟩
      refine ⟨rfl, tYes_of ?_⟩
      obtain ⟨_, _, _, _, _, _, B5, _⟩ := id A
      refine ⟨_, rfl, rfl, fun tl H7 S7 T7 => ⟨_, rfl, p, dl, tl, frTab, m, rfl, T7, frTab_ne, frTab_len, frTab_ok, hm0, hm, B5.same S7, fun v kd fs H8 hmem dv hfs B8 K8 => ?_⟩⟩
      exact A.put (by omega) hD B1 B8 ((Same.keep S7).trans K8) dv ⟨⟨kd, fs⟩, rfl, hmem, hfs⟩
    · rintro H5 ⟨acc, ds, e5, a5, hl5, hp5, B5, K5⟩
      obtain ⟨xs, rfl, hxs⟩ := ex_map hp5
      rw [List.length_map] at hl5
      refine ⟨D, _, rfl, .inl ⟨SqL.of e5, fun t ht => ?_⟩⟩
      exact k _ xs _ (Dt.made ht a5) ⟨by omega, hxs⟩ (B5.same (Same.new ht)) ((K1.trans K5).trans (Same.keep (Same.new ht)))
theorem ok_field {f : Addr} {fd : FuncData} (F : Fun K "_law_field" "_law_field" s_law_field f fd) (T : Txt K mg) (U_law_draw : Use P w K mg base CX0 "_law_draw" 1 P_law_draw (spDraw K)) (U_law_value : Use P w K mg base CX0 "_law_value" 3 P_law_value (spLVal K)) (U_law_name : Use P w K mg base CX0 "_law_name" 2 P_law_name (spName K))
    (U_law_number : Use P w K mg base CX0 "_law_number" 2 P_law_number (spNumb K)) (U_law_tree : Use P w K mg base CX0 "_law_tree" 6 P_law_tree (spTree K 3)) (U_law_frames : Use P w K mg base CX0 "_law_frames" 1 P_law_frames (spTab frTab)) (U_law_shape : Use P w K mg base CX0 "_law_shape" 9 P_law_shape (spShape K)) : FnG P w K mg base CX0 10 f fd P_law_field (spField K) :=
  ((FnG.up (ok_field0 F T U_law_draw U_law_value U_law_name U_law_number U_law_tree) (by decide)).or (ok_fieldF F T U_law_draw U_law_value U_law_name U_law_number U_law_tree U_law_frames U_law_shape)).imp fun vs H Q E h => by
    obtain ⟨p, dl, c, m, rfl, hc, hm0, hm, B, k⟩ := h
    rcases List.mem_cons.mp hc with rfl | hc
    · exact .inr ⟨p, dl, m, rfl, hm0, hm, B, fun v l H' dv hl B' K' => k v (.fr l) H' dv rfl hl B' K'⟩
    · exact .inl ⟨p, dl, c, m, rfl, hc, hm0, hm, B, fun v x H' dv hl hx B' K' => k v (.one x) H' dv hl hx B' K'⟩
def spShapeOf (K : PySem.W.Frag) : Sp := fun vs H Q _ => ∃ (p dl r : Addr) (kd : Str) (ls : List Nat) (m : Nat), vs = [.ref p, .ref r, .int (m : Int)] ∧ H r = some (.lst [.str kd, .str (S ls)]) ∧ (∀ c ∈ ls, c ∈ 70 :: flds) ∧ ls.length ≤ 10 ∧ 0 < m ∧ m ≤ 10 ^ 6 ∧ BoxAt H p dl ∧
  ∀ v (fs : List Fl2) H', Dt K H' v (.tuple (.str kd :: fs.map fl2D)) → fs.map ltr2 = ls → (∀ f ∈ fs, Fl2Sm m f) → BoxAt H' p dl → Keep p H H' → Q v H'
theorem ok_shapeof {f : Addr} {fd : FuncData} (F : Fun K "_law_shape_of" "_law_shape_of" s_law_shape_of f fd) (T : Txt K mg) (U_law_field : Use P w K mg base CX0 "_law_field" 10 P_law_field (spField K)) : FnG P w K mg base CX0 11 f fd P_law_shape_of (spShapeOf K) := by
  refine okG0 F sc_law_shape_of (fun vs H Q E h => ?_) fun cdv A outer s H vs Q E hr hg h => ?_
  · obtain ⟨p, dl, r, kd, ls, m, rfl, _⟩ := h
    rfl
  · obtain ⟨p, dl, r, kd, ls, m, rfl, er, hls, hll, hm0, hm, B, k⟩ := h
    refine ⟨_, (pss_cons (ps_set (i := 3) sc_law_shape_of.nd rfl (Or.inl rfl) (pe_tup (pa_cons (pe_ix ix_list (pv 1) pe_int (fun _ _ => rfl)) pa_nil)))
  (pss_cons (ps_for PassesOwn.never rfl (pi_str (pe_ix ix_list (pv 1) pe_int (fun _ _ => rfl))) (pg_name (i := 4) sc_law_shape_of.nd rfl (Or.inl rfl))
   (pss_one (ps_set (i := 3) sc_law_shape_of.nd rfl (Or.inl rfl) (pe_op op_catA (pv 3) (pe_tup (pa_cons (pe_use U_law_field (hr.mono (by decide)) hg rfl (pa_cons (pv 0) (pa_cons (pv 4) (pa_cons (pv 2) pa_nil)))) pa_nil))))))
  (pss_one (ps_ret (pv 3))))), ?_⟩
    have hrp := row_ne B er
    refine ⟨_, rfl, r, _, _, _, rfl, rfl, SqL.of er, at0, sz_1, fun u0 hu0 => ?_⟩
    have S0 := Same.new (o := .tup [.str kd]) hu0
    refine ⟨_, rfl, r, _, _, _, rfl, rfl, SqL.of (S0 _ _ er), at1, _, rfl, ?_⟩
    refine for_it walk_str (fun i σ H5 => ∃ (u : Addr) (fs : List Fl2) (x4 : Option V), σ = [some (.ref p), some (.ref r), some (.int m), some (.ref u), x4] ∧ Dt K H5 (.ref u) (.tuple (.str kd :: fs.map fl2D)) ∧ fs.map ltr2 = ls.take i ∧ (∀ f ∈ fs, Fl2Sm m f) ∧ BoxAt H5 p dl ∧ Keep p H H5) ⟨u0, [], none, rfl, Dt.made hu0 (.cons (.str _) .nil), rfl, by simp, B.same S0, Same.keep S0⟩ (fun _ _ _ _ _ => trivial) ?_ ?_
    · rintro i x σ H5 H6 hi ⟨u, fs, x4, rfl, du, hf, hfs, B5, K5⟩ ⟨rfl, c, hc, rfl⟩
      have hc' : ls[i]? = some c := by simpa [S] using hc
      refine ⟨_, rfl, _, rfl, _, rfl, _, rfl, p, dl, c, m, rfl, hls c (List.mem_of_getElem? hc'), hm0, hm, B5, fun v x H7 dv hl hx B7 K7 => ⟨sz_1, fun t ht => ?_⟩⟩
      obtain ⟨_, xs, eu, hs, ha⟩ := du.tuple_inv
      cases eu
      have hxn : xs ≠ [] := by
        obtain ⟨_, _, rfl, _, _⟩ := ha.cons_inv
        simp
      have hxl := ha.length
      have hfl : fs.length ≤ 10 := by
        have := congrArg List.length hf
        rw [List.length_map, List.length_take] at this
        omega
      have kT := K7.keepT (K := K) B5.at_
      have S8 := Same.new (o := .tup [v]) ht
      refine ⟨u, t, xs, [v], rfl, rfl, Same.tupl S8 (kT _ _ hs), SqT.of upd_same, Nat.le_trans (show _ ≤ 100 by simp at hxl ⊢; omega) (by decide), fun h => absurd h hxn, (fun _ h => by cases h), fun _ _ q hq => ?_⟩
      have S9 := Same.new (o := .tup (xs ++ [v])) hq
      have dq := Dt.made hq (DtAll.app ((ha.keepT kT).mono S8) (.cons (dv.mono S8) .nil))
      refine ⟨q, fs ++ [x], _, rfl, by rw [List.map_append]; exact dq, ?_, fun f hf' => ?_, (B7.same S8).same S9, (K5.trans K7).trans (Same.keep (S8.trans S9))⟩
      · rw [List.map_append, hf, List.take_succ, hc', List.map_cons, hl]; rfl
      · rcases List.mem_append.mp hf' with h | h
        · exact hfs f h
        · rw [List.mem_singleton.mp h]; exact hx
    · rintro σ H5 ⟨u, fs, x4, rfl, du, hf, hfs, B5, K5⟩
      have hz : (S ls).cps.size = ls.length := by simp [S]
      rw [hz, List.take_length] at hf
      exact ⟨_, rfl, k _ fs _ du hf hfs B5 K5⟩
--SPLIT
end

abbrev s_values : Stmt := top 14
abbrev N_values : List Str := ["letter", "field", "pair", "value", "_"]
abbrev P_values : List Str := ["letter", "field"]
theorem sc_values : FnScope N_values P_values (defScope s_values) := ⟨rfl, rfl, rfl, by decide +kernel, rfl, by decide +kernel, by decide +kernel⟩
abbrev s_references : Stmt := top 15
abbrev N_references : List Str := ["letters", "item", "found", "letter", "field", "frame", "value"]
abbrev P_references : List Str := ["letters", "item"]
theorem sc_references : FnScope N_references P_references (defScope s_references) := ⟨rfl, rfl, rfl, by decide +kernel, rfl, by decide +kernel, by decide +kernel⟩
abbrev s_object_references : Stmt := top 7
abbrev N_object_references : List Str := ["item"]
abbrev P_object_references : List Str := ["item"]
theorem sc_object_references : FnScope N_object_references P_object_references (defScope s_object_references) := ⟨rfl, rfl, rfl, by decide +kernel, rfl, by decide +kernel, by decide +kernel⟩
abbrev s_frame_references : Stmt := top 8
abbrev N_frame_references : List Str := ["frame"]
abbrev P_frame_references : List Str := ["frame"]
theorem sc_frame_references : FnScope N_frame_references P_frame_references (defScope s_frame_references) := ⟨rfl, rfl, rfl, by decide +kernel, rfl, by decide +kernel, by decide +kernel⟩
abbrev s_control_references : Stmt := top 9
abbrev N_control_references : List Str := ["control"]
abbrev P_control_references : List Str := ["control"]
theorem sc_control_references : FnScope N_control_references P_control_references (defScope s_control_references) := ⟨rfl, rfl, rfl, by decide +kernel, rfl, by decide +kernel, by decide +kernel⟩
section
variable {P : Program} {w : World} {K : PySem.W.Frag} {mg : Str → Option Value} {base : Heap}
/-! what a field refers to -/
def valR : Val → List Int
  | .ref n => [(n : Int)]
  | _ => []
def fldVs : Fld → List Val
  | .v x => [x]
  | .V xs => xs
  | .W ps => ps.flatMap fun p => [p.1, p.2]
  | .X ps => ps.map (·.2)
  | .s2 _ x => [x]
  | _ => []
def fldR : Fld → List Int
  | .a k => [(k : Int)]
  | .b k => if 0 ≤ k then [k] else []
  | x => (fldVs x).flatMap valR
theorem tail_no (x : V) (xs : List V) : ¬ HT.sIx (x :: xs).length 0 (some 1) = 0 := by
  show ¬ HT.sIx (x :: xs).length 0 (some ((1 : Nat) : Int)) = 0
  rw [HT.sIx_nat, List.length_cons]; omega
/-- x[1:] of a tuple that is not empty -/
theorem tail_rd {H : Hp} {a : Addr} {x : V} {xs : List V} {Q : VK} (h : SqT K H a (x :: xs)) (q : ∀ p, H p = none → Q (.ref p) (upd H p (.tup xs))) : rSlA K (.ref a) (some 1) none H Q :=
  ⟨a, x :: xs, rfl, h, fun ⟨e, _⟩ => absurd e (by show ¬ HT.sIx (x :: xs).length 0 (some ((1 : Nat) : Int)) = 0; rw [HT.sIx_nat, List.length_cons]; omega), fun _ p hp => by rw [cut_one]; exact q p hp⟩
def spValues (K : PySem.W.Frag) : Sp := fun vs H Q _ => ∃ (v : V) (x : Fld) (c : Nat), vs = [.str (S [c]), v] ∧ ltr x = c ∧ Dt K H v (fldD x) ∧ c ≠ 97 ∧ c ≠ 98 ∧ (fldVs x).length ≤ 100 ∧ ∀ v' H', Same H H' → Dt K H' v' (.tuple ((fldVs x).map valD)) → Q v' H'
/-- the list at D grows by data -/
theorem ld_app {H H2 : Hp} {D : Addr} {acc : List V} {ds : List PyData} {y : V} {d : PyData} (hD : H D = none) (eD : H2 D = some (.lst acc)) (aD : DtAll K H2 acc ds) (dy : Dt K H2 y d) (S1 : Same H H2) :
    upd H2 D (.lst (acc ++ [y])) D = some (.lst (acc ++ [y])) ∧ DtAll K (upd H2 D (.lst (acc ++ [y]))) (acc ++ [y]) (ds ++ [d]) ∧ Same H (upd H2 D (.lst (acc ++ [y]))) :=
  ⟨upd_same, DtAll.app (aD.keepT (KeepT.upd eD)) (.cons (dy.keepT (KeepT.upd eD)) .nil), fun b o hb => by rw [upd_ne (ne_of_none hb hD)]; exact S1 b o hb⟩
theorem Dt.pair0 {H : Hp} {v : V} {z : Str} {d : PyData} (h : Dt K H v (.tuple [.str z, d])) : ∃ a x, v = .ref a ∧ SqT K H a [.str z, x] ∧ Dt K H x d := h.pair
theorem fm_len (ps : List (Val × Val)) : (ps.flatMap fun p => [p.1, p.2]).length = 2 * ps.length := by
  induction ps with
  | nil => rfl
  | cons p r ih => rw [List.flatMap_cons, List.length_append, ih]; simp; omega
theorem ok_values {f : Addr} {fd : FuncData} (F : Fun K "_values" "_values" s_values f fd) (T : Txt K mg) : FnG P w K mg base CX0 1 f fd P_values (spValues K) := by
  refine okG0 F sc_values (fun vs H Q E h => ?_) fun cdv A outer s H vs Q E hr hg h => ?_
  · obtain ⟨v, x, c, rfl, _⟩ := h
    rfl
  · obtain ⟨v, x, c, rfl, hc, dv, n1, n2, hl, k⟩ := h
    refine ⟨_, (pss_cons (ps_if (pt_cmpR op_eq (pv 0) pe_str (nomark _))
   (pss_one (ps_ret (pe_tup (pa_cons (pv 1) pa_nil))))
   pss_nil)
  (pss_cons (ps_if (pt_cmpR op_eq (pv 0) pe_str (nomark _))
   (pss_one (ps_ret (pv 1)))
   pss_nil)
  (pss_cons (ps_if (pt_cmpR op_eq (pv 0) pe_str (nomark _))
   (pss_one (ps_ret (pe_callTy call_tuple_of (by rfl) T.b_tuple (by decide +kernel) (pa_cons (pe_lc2 (own := [("pair", 2), ("value", 3)]) (vs1 := [3]) (g := (gName 2)) (g1 := (gName 3)) rfl sc_values.nd (pi_tup (pv 1)) (blkOk_by (N := N_values) (sc := defScope s_values) (by decide +kernel)) (by decide) (fun _ _ _ _ _ => (pg_name (i := 2) sc_values.nd rfl (Or.inl rfl))) (fun _ _ _ _ _ => pts_nil) (fun _ _ _ _ _ => (pi_tup (pv 2) : PI _ _ _ (iTup K (tVar 2)))) (fun _ _ _ _ _ => (pg_name (i := 3) sc_values.nd rfl (Or.inl rfl))) (fun _ _ _ _ _ => pts_nil) (fun _ _ _ _ _ => (pv 3))) pa_nil))))
   pss_nil)
  (pss_cons (ps_if (pt_cmpR op_eq (pv 0) pe_str (nomark _))
   (pss_one (ps_ret (pe_callTy call_tuple_of (by rfl) T.b_tuple (by decide +kernel) (pa_cons (pe_lc (own := [("_", 4), ("value", 3)]) (g := (gTup K 2 (gCons (gName 4) (gCons (gName 3) gNil)))) rfl sc_values.nd (pi_tup (pv 1)) (blkOk_by (N := N_values) (sc := defScope s_values) (by decide +kernel)) (fun _ _ _ _ _ => (pg_tup (by rfl) (pgs_cons (pg_name (i := 4) sc_values.nd rfl (Or.inl rfl)) (pgs_cons (pg_name (i := 3) sc_values.nd rfl (Or.inl rfl)) pgs_nil)))) (fun _ _ _ _ _ => pts_nil) (fun _ _ _ _ _ => (pv 3))) pa_nil))))
   pss_nil)
  (pss_cons (ps_if (pt_cmpR op_eq (pv 0) pe_str (nomark _))
   (pss_one (ps_ret (pe_slice sl_tupA (pv 1) (po_some pe_int) po_none)))
   pss_nil)
  (pss_one (ps_ret (pe_tup pa_nil)))))))), ?_⟩
    cases x with
    | v x =>
      obtain rfl : 118 = c := hc
      refine ⟨_, rfl, rfl, _, rfl, iteTb (by decide +kernel) ?_⟩
      exact ⟨_, rfl, sz_1, fun u hu => k _ _ (Same.new hu) (Dt.made hu (.cons dv .nil))⟩
    | V xs =>
      obtain rfl : 86 = c := hc
      refine ⟨_, rfl, rfl, _, rfl, iteFb (by decide +kernel) ?_⟩
      refine ⟨_, rfl, rfl, _, rfl, iteTb (by decide +kernel) ?_⟩
      exact ⟨_, rfl, k _ _ (fun _ _ h => h) dv⟩
    | W ps =>
      obtain rfl : 87 = c := hc
      refine ⟨_, rfl, rfl, _, rfl, iteFb (by decide +kernel) ?_⟩
      refine ⟨_, rfl, rfl, _, rfl, iteFb (by decide +kernel) ?_⟩
      refine ⟨_, rfl, rfl, _, rfl, iteTb (by decide +kernel) ?_⟩
      obtain ⟨q, xs, rfl, hq, ha⟩ := dv.tuple_inv
      have hal := ha.length
      rw [List.length_map] at hal
      refine ⟨_, rfl, q, rfl, ⟨_, hq⟩, fun D hD => ?_⟩
      have hps : ps.length ≤ 50 := by
        have hl : (ps.flatMap fun p => [p.1, p.2]).length ≤ 100 := hl
        rw [fm_len] at hl
        omega
      refine walk_gen (walk_tup (xs := xs)) (fun i H' => ∃ acc, H' D = some (.lst acc) ∧ DtAll K H' acc (((ps.take i).flatMap fun p => [p.1, p.2]).map valD) ∧ Same H H') ⟨[], upd_same, .nil, Same.new hD⟩ (fun i H' _ h => let ⟨_, _, _, s⟩ := h; Same.tupl s hq) ?_ ?_
      · rintro i x H1 H2 hi ⟨acc, eD, aD, S1⟩ ⟨rfl, hy⟩
        obtain ⟨d, hd, dx⟩ := ha.getV hy
        rw [List.getElem?_map] at hd
        obtain ⟨p, hp, rfl⟩ := Option.map_eq_some_iff.mp hd
        obtain ⟨q2, ws, rfl, hq2, hw⟩ := dx.tuple_inv
        have hw : DtAll K H ws ([p.1, p.2].map valD) := hw
        have hwl := hw.length
        rw [List.length_map] at hwl
        have hwl : ws.length = 2 := hwl
        have hi2 : i < ps.length := by omega
        have hal2 : acc.length = 2 * i := by
          have := aD.length
          rw [List.length_map, fm_len, List.length_take] at this
          omega
        refine ⟨rfl, tYes_of ?_⟩
        refine ⟨_, rfl, q2, rfl, ⟨_, Same.tupl S1 hq2⟩, ?_⟩
        refine walk_gen (walk_tup (xs := ws)) (fun j H' => ∃ acc, H' D = some (.lst acc) ∧ DtAll K H' acc ((((ps.take i).flatMap fun p => [p.1, p.2]) ++ [p.1, p.2].take j).map valD) ∧ acc.length = 2 * i + j ∧ Same H H') ⟨acc, eD, by rw [List.take_zero, List.append_nil]; exact aD, hal2, S1⟩ (fun j H' _ h => let ⟨_, _, _, _, s⟩ := h; Same.tupl s hq2) ?_ ?_
        · rintro j y H3 H4 hj ⟨acc, eD, aD, hl3, S3⟩ ⟨rfl, hy2⟩
          obtain ⟨d, hd2, dy⟩ := hw.getV hy2
          rw [List.getElem?_map] at hd2
          obtain ⟨x, hx, rfl⟩ := Option.map_eq_some_iff.mp hd2
          obtain ⟨g1, g2, g3⟩ := ld_app hD eD aD (dy.mono S3) S3
          refine ⟨rfl, tYes_of ?_⟩
          refine ⟨_, rfl, acc, eD, Nat.lt_of_le_of_lt (show acc.length ≤ 200 by omega) (by decide), acc ++ [y], g1, ?_, by simp; omega, g3⟩
          rw [List.take_succ, hx, ← List.append_assoc, List.map_append (l₁ := _ ++ _)]
          exact g2
        · rintro H3 ⟨acc, eD, aD, hl3, S3⟩
          refine ⟨acc, eD, ?_, S3⟩
          rw [hwl] at aD
          rw [List.take_succ, hp, List.flatMap_append]
          exact aD
      · rintro H1 ⟨acc, eD, aD, S1⟩
        have hl' : ps.take xs.length = ps := by rw [hal]; exact List.take_length
        rw [hl'] at aD
        refine ⟨D, _, rfl, .inl ⟨SqL.of eD, fun t ht => ?_⟩⟩
        exact k _ _ (S1.trans (Same.new ht)) (Dt.made ht aD)
    | X ps =>
      obtain rfl : 88 = c := hc
      refine ⟨_, rfl, rfl, _, rfl, iteFb (by decide +kernel) ?_⟩
      refine ⟨_, rfl, rfl, _, rfl, iteFb (by decide +kernel) ?_⟩
      refine ⟨_, rfl, rfl, _, rfl, iteFb (by decide +kernel) ?_⟩
      refine ⟨_, rfl, rfl, _, rfl, iteTb (by decide +kernel) ?_⟩
      obtain ⟨q, xs, rfl, hq, ha⟩ := dv.tuple_inv
      have hal := ha.length
      rw [List.length_map] at hal
      have hps : ps.length ≤ 100 := by
        have hl : (ps.map (·.2)).length ≤ 100 := hl
        rwa [List.length_map] at hl
      refine ⟨_, rfl, q, rfl, ⟨_, hq⟩, fun D hD => ?_⟩
      refine lc_it (walk_tup (xs := xs)) (fun i H' => ∃ acc, H' D = some (.lst acc) ∧ DtAll K H' acc (((ps.take i).map (·.2)).map valD) ∧ acc.length = i ∧ Same H H') ⟨[], upd_same, .nil, rfl, Same.new hD⟩ (fun i H' _ h => let ⟨_, _, _, _, s⟩ := h; Same.tupl s hq) ?_ ?_
      · rintro i x H1 H2 hi ⟨acc, eD, aD, hl2, S1⟩ ⟨rfl, hy⟩
        obtain ⟨d, hd, dx⟩ := (DtAll.mono S1 ha).getV hy
        rw [List.getElem?_map] at hd
        obtain ⟨p, hp, rfl⟩ := Option.map_eq_some_iff.mp hd
        obtain ⟨q2, y, rfl, hq2, hyd⟩ := (show Dt K _ x (.tuple [.str (tx p.1), valD p.2]) from dx).pair
        obtain ⟨g1, g2, g3⟩ := ld_app hD eD aD hyd S1
        refine ⟨q2, _, rfl, hq2, rfl, _, _, rfl, _, _, rfl, rfl, rfl, tYes_of ?_⟩
        refine ⟨_, rfl, acc, eD, Nat.lt_of_le_of_lt (show acc.length ≤ 200 by omega) (by decide), acc ++ [y], g1, ?_, by simp [hl2], g3⟩
        rw [List.take_succ, hp, List.map_append, List.map_append]
        exact g2
      · rintro H1 ⟨acc, eD, aD, hl2, S1⟩
        have hl' : ps.take xs.length = ps := by rw [hal]; exact List.take_length
        rw [hl'] at aD
        refine ⟨D, _, rfl, .inl ⟨SqL.of eD, fun t ht => ?_⟩⟩
        exact k _ _ (S1.trans (Same.new ht)) (Dt.made ht aD)
    | s2 z x =>
      obtain rfl : 115 = c := hc
      refine ⟨_, rfl, rfl, _, rfl, iteFb (by decide +kernel) ?_⟩
      refine ⟨_, rfl, rfl, _, rfl, iteFb (by decide +kernel) ?_⟩
      refine ⟨_, rfl, rfl, _, rfl, iteFb (by decide +kernel) ?_⟩
      refine ⟨_, rfl, rfl, _, rfl, iteFb (by decide +kernel) ?_⟩
      refine ⟨_, rfl, rfl, _, rfl, iteTb (by decide +kernel) ?_⟩
      have dv : Dt K H v (.tuple [.str z, valD x]) := dv
      obtain ⟨q, y, rfl, hq, dy⟩ := dv.pair
      exact ⟨_, rfl, _, rfl, tail_rd hq fun p hp => k _ _ (Same.new hp) (Dt.made hp (.cons dy .nil))⟩
    | t d =>
      obtain rfl : 116 = c := hc
      refine ⟨_, rfl, rfl, _, rfl, iteFb (by decide +kernel) ?_⟩
      refine ⟨_, rfl, rfl, _, rfl, iteFb (by decide +kernel) ?_⟩
      refine ⟨_, rfl, rfl, _, rfl, iteFb (by decide +kernel) ?_⟩
      refine ⟨_, rfl, rfl, _, rfl, iteFb (by decide +kernel) ?_⟩
      refine ⟨_, rfl, rfl, _, rfl, iteFb (by decide +kernel) ?_⟩
      exact ⟨sz_0, fun u hu => k _ _ (Same.new hu) (Dt.made hu .nil)⟩
    | n i =>
      obtain rfl : 110 = c := hc
      refine ⟨_, rfl, rfl, _, rfl, iteFb (by decide +kernel) ?_⟩
      refine ⟨_, rfl, rfl, _, rfl, iteFb (by decide +kernel) ?_⟩
      refine ⟨_, rfl, rfl, _, rfl, iteFb (by decide +kernel) ?_⟩
      refine ⟨_, rfl, rfl, _, rfl, iteFb (by decide +kernel) ?_⟩
      refine ⟨_, rfl, rfl, _, rfl, iteFb (by decide +kernel) ?_⟩
      exact ⟨sz_0, fun u hu => k _ _ (Same.new hu) (Dt.made hu .nil)⟩
    | x js =>
      obtain rfl : 120 = c := hc
      refine ⟨_, rfl, rfl, _, rfl, iteFb (by decide +kernel) ?_⟩
      refine ⟨_, rfl, rfl, _, rfl, iteFb (by decide +kernel) ?_⟩
      refine ⟨_, rfl, rfl, _, rfl, iteFb (by decide +kernel) ?_⟩
      refine ⟨_, rfl, rfl, _, rfl, iteFb (by decide +kernel) ?_⟩
      refine ⟨_, rfl, rfl, _, rfl, iteFb (by decide +kernel) ?_⟩
      exact ⟨sz_0, fun u hu => k _ _ (Same.new hu) (Dt.made hu .nil)⟩
    | s0 =>
      obtain rfl : 115 = c := hc
      refine ⟨_, rfl, rfl, _, rfl, iteFb (by decide +kernel) ?_⟩
      refine ⟨_, rfl, rfl, _, rfl, iteFb (by decide +kernel) ?_⟩
      refine ⟨_, rfl, rfl, _, rfl, iteFb (by decide +kernel) ?_⟩
      refine ⟨_, rfl, rfl, _, rfl, iteFb (by decide +kernel) ?_⟩
      refine ⟨_, rfl, rfl, _, rfl, iteTb (by decide +kernel) ?_⟩
      obtain ⟨q, xs, rfl, hq, ha⟩ := (show Dt K H v (.tuple []) from dv).tuple_inv
      cases ha.nil_inv
      exact ⟨_, rfl, _, rfl, q, [], rfl, hq, fun _ => k _ _ (fun _ _ h => h) (.tup hq .nil), fun h => absurd ⟨rfl, rfl⟩ h⟩
    | s1 z =>
      obtain rfl : 115 = c := hc
      refine ⟨_, rfl, rfl, _, rfl, iteFb (by decide +kernel) ?_⟩
      refine ⟨_, rfl, rfl, _, rfl, iteFb (by decide +kernel) ?_⟩
      refine ⟨_, rfl, rfl, _, rfl, iteFb (by decide +kernel) ?_⟩
      refine ⟨_, rfl, rfl, _, rfl, iteFb (by decide +kernel) ?_⟩
      refine ⟨_, rfl, rfl, _, rfl, iteTb (by decide +kernel) ?_⟩
      obtain ⟨q, xs, rfl, hq, ha⟩ := (show Dt K H v (.tuple [.str z]) from dv).tuple_inv
      obtain ⟨_, _, rfl, _, hn⟩ := ha.cons_inv
      cases hn.nil_inv
      exact ⟨_, rfl, _, rfl, tail_rd hq fun p hp => k _ _ (Same.new hp) (Dt.made hp .nil)⟩
    | a k => exact absurd hc.symm n1
    | b k => exact absurd hc.symm n2
theorem fldR_vs {x : Fld} (h1 : ltr x ≠ 97) (h2 : ltr x ≠ 98) : fldR x = (fldVs x).flatMap valR := by
  cases x <;> first | rfl | (exact absurd rfl h1) | (exact absurd rfl h2)
/-- how many values a field holds -/
def FldN (x : Fld) : Prop := (fldVs x).length ≤ 10
theorem FldSm.n {m : Nat} : ∀ {x : Fld}, FldSm m x → FldN x
  | .v _, _ => by unfold FldN; simp [fldVs]
  | .V xs, h => by unfold FldN; have := h.1; simp only [fldVs]; omega
  | .W ps, h => by unfold FldN; have := h.1; simp only [fldVs]; rw [fm_len]; omega
  | .X ps, h => by unfold FldN; have := h.1; simp only [fldVs]; rw [List.length_map]; omega
  | .t _, _ => by unfold FldN; simp [fldVs]
  | .a _, _ => by unfold FldN; simp [fldVs]
  | .b _, _ => by unfold FldN; simp [fldVs]
  | .n _, _ => by unfold FldN; simp [fldVs]
  | .x _, _ => by unfold FldN; simp [fldVs]
  | .s0, _ => by unfold FldN; simp [fldVs]
  | .s1 _, _ => by unfold FldN; simp [fldVs]
  | .s2 _ _, _ => by unfold FldN; simp [fldVs]
theorem valR_len (xs : List Val) : (xs.flatMap valR).length ≤ xs.length := by
  induction xs with
  | nil => exact Nat.le_refl _
  | cons x r ih =>
    rw [List.flatMap_cons, List.length_append, List.length_cons]
    have : (valR x).length ≤ 1 := by cases x <;> simp [valR]
    omega
theorem FldN.len {x : Fld} (h : FldN x) : (fldR x).length ≤ 10 := by
  by_cases h1 : ltr x = 97
  · cases x <;> first | (cases h1; done) | (simp [fldR])
  · by_cases h2 : ltr x = 98
    · cases x <;> first | (cases h2; done) | (simp only [fldR]; split <;> simp)
    · rw [fldR_vs h1 h2]
      exact Nat.le_trans (valR_len _) h
theorem valD_hd (x : Val) : ∃ kd r, valD x = .tuple (.str kd :: r) ∧ ((kd ≠ "ref" ∧ valR x = []) ∨ (kd = "ref" ∧ ∃ n : Nat, x = .ref n ∧ r = [.int (n : Int)])) := by
  cases x with
  | ref n => exact ⟨_, _, rfl, .inr ⟨rfl, n, rfl, rfl⟩⟩
  | none => exact ⟨_, _, rfl, .inl ⟨by decide +kernel, rfl⟩⟩
  | bool b => exact ⟨_, _, rfl, .inl ⟨by decide +kernel, rfl⟩⟩
  | int i => exact ⟨_, _, rfl, .inl ⟨by decide +kernel, rfl⟩⟩
  | text js => exact ⟨_, _, rfl, .inl ⟨by decide +kernel, rfl⟩⟩
  | span a b => exact ⟨_, _, rfl, .inl ⟨by decide +kernel, rfl⟩⟩
  | built js => exact ⟨_, _, rfl, .inl ⟨by decide +kernel, rfl⟩⟩
  | host js => exact ⟨_, _, rfl, .inl ⟨by decide +kernel, rfl⟩⟩
theorem noF : ∀ c ∈ flds, decide (V.str (S [c]) = V.str "F") = false := by decide +kernel
theorem notAB : ∀ c ∈ flds, (if true = true then !inV (.str (S [c])) [.str "a", .str "b"] else inV (.str (S [c])) [.str "a", .str "b"]) = decide (c ≠ 97 ∧ c ≠ 98) := by decide +kernel
def spRefs0 (K : PySem.W.Frag) : Sp := fun vs H Q _ => ∃ (v : V) (kd : Str) (fs : List Fld) (ls : List Nat), vs = [.str (S ls), v] ∧ fs.map ltr = ls ∧ Dt K H v (.tuple (.str kd :: fs.map fldD)) ∧ (∀ x ∈ fs, FldN x) ∧ (∀ c ∈ ls, c ∈ flds) ∧ ls.length ≤ 10 ∧
  ∀ l H', H l = none → Same H H' → H' l = some (.lst ((fs.flatMap fldR).map V.int)) → Q (.ref l) H'
theorem ok_refs0 {f : Addr} {fd : FuncData} (F : Fun K "_references" "_references" s_references f fd) (T : Txt K mg) (U_values : Use P w K mg base CX0 "_values" 1 P_values (spValues K)) : FnG P w K mg base CX0 2 f fd P_references (spRefs0 K) := by
  refine okG0 F sc_references (fun vs H Q E h => ?_) fun cdv A outer s H vs Q E hr hg h => ?_
  · obtain ⟨v, kd, fs, ls, rfl, _⟩ := h
    rfl
  · obtain ⟨v, kd, fs, ls, rfl, hls, dv, hN, hfl, hll, k⟩ := h
    refine ⟨_, (pss_cons (ps_set (i := 2) sc_references.nd rfl (Or.inl rfl) (pe_lst pa_nil))
  (pss_cons (ps_for PassesOwn.never rfl (pi_zipST (by rfl) T.b_zip (pa_cons (pv 0) (pa_cons (pe_slice sl_tupA (pv 1) (po_some pe_int) po_none) pa_nil))) (pg_tup (by rfl) (pgs_cons (pg_name (i := 3) sc_references.nd rfl (Or.inl rfl)) (pgs_cons (pg_name (i := 4) sc_references.nd rfl (Or.inl rfl)) pgs_nil)))
   (pss_one (ps_if (pt_cmpR op_eq (pv 3) pe_str (nomark _))
   pss_never
   (pss_one (ps_if (pt_cmpR op_notIn_seq (pv 3) (pe_tup (pa_cons pe_str (pa_cons pe_str pa_nil))) (by rfl))
   (pss_one (ps_expr (pe_bm PySem.F.plainAttrs_list PySem.F.slot_list_extend PySem.F.type_list_extend mt_extend (pv 2) (pa_cons (pe_lc (own := [("value", 6)]) (g := (gName 6)) rfl sc_references.nd (pi_tup (pe_use U_values (hr.mono (by decide)) hg rfl (pa_cons (pv 3) (pa_cons (pv 4) pa_nil)))) (blkOk_by (N := N_references) (sc := defScope s_references) (by decide +kernel)) (fun _ _ _ _ _ => (pg_name (i := 6) sc_references.nd rfl (Or.inl rfl))) (fun _ _ _ _ _ => (pts_one (pt_cmpR op_eq (pe_ix (ix_tup : IxR _ (rIxT K)) (pv 6) pe_int (fun _ _ => rfl)) pe_str (nomark _)))) (fun _ _ _ _ _ => (pe_ix (ix_tup : IxR _ (rIxT K)) (pv 6) pe_int (fun _ _ => rfl)))) pa_nil))))
   (pss_one (ps_if (pt_cmpR op_ge (pv 4) pe_int (nomark _))
   (pss_one (ps_expr (pe_bm PySem.F.plainAttrs_list PySem.F.slot_list_append PySem.F.type_list_append mt_append (pv 2) (pa_cons (pv 4) pa_nil))))
   pss_nil)))))))
  (pss_one (ps_ret (pv 2))))), ?_⟩
    obtain ⟨q0, ws, rfl, hq0, ha⟩ := dv.head
    have hal := ha.length
    rw [List.length_map] at hal
    have hfsl : fs.length = ls.length := by rw [← hls, List.length_map]
    refine ⟨sz_0, fun l hl => ?_⟩
    have S0 := Same.new (o := .lst []) hl
    refine ⟨_, rfl, _, rfl, _, rfl, ?_⟩
    refine ⟨q0, _, rfl, Same.tupl S0 hq0, fun e => absurd e.1 (tail_no _ _), fun _ q hq => ?_⟩
    rw [cut_one]
    refine ⟨S ls, q, ws, rfl, SqT.of upd_same, ?_⟩
    refine for_it (walk_zipST (z := ls) (b := q) (ys := ws) (by omega)) (fun i σ H5 => ∃ (x3 x4 : Option V), σ = [some (.str (S ls)), some (.ref q0), some (.ref l), x3, x4, none, none] ∧ H5 l = some (.lst (((fs.take i).flatMap fldR).map V.int)) ∧ Same H H5 ∧ SqT K H5 q ws) ⟨none, none, rfl, Same.new hq _ _ upd_same, S0.trans (Same.new hq), SqT.of upd_same⟩ (fun _ _ _ _ h => let ⟨_, _, _, _, _, z⟩ := h; z) ?_ ?_
    · rintro i y σ H5 H6 hi ⟨x3, x4, rfl, e5, S5, q5⟩ ⟨T, a1, a2, rfl, hT, rfl, e1, e2⟩
      have hif : i < fs.length := by omega
      have hx : fs[i]? = some fs[i] := List.getElem?_eq_getElem hif
      have hNx := hN _ (List.getElem_mem hif)
      generalize fs[i] = x at hx hNx
      have hlc : ls[i]? = some (ltr x) := by rw [← hls, List.getElem?_map, hx]; rfl
      have hcm := hfl _ (List.mem_of_getElem? hlc)
      obtain rfl : V.str (S [ltr x]) = a1 := by
        have e1 : (ls[i]?).map (fun c => V.str (S [c])) = some a1 := e1
        rw [hlc] at e1
        exact Option.some.inj e1
      obtain ⟨d, hd, dx⟩ := ha.getV (show ws[i]? = some a2 from e2)
      rw [List.getElem?_map, hx] at hd
      cases hd
      have S6 := Same.new (o := .tup [.str (S [ltr x]), a2]) hT
      have S56 := S5.trans S6
      have dx6 := dx.mono S56
      have e6 := S6 _ _ e5
      have q6 := Same.tupl S6 q5
      have hlen : ((fs.take i).flatMap fldR).length ≤ 10 * i := by
        have : ∀ (n : Nat), n ≤ fs.length → ((fs.take n).flatMap fldR).length ≤ 10 * n := fun n => by
          induction n with
          | zero => intro _; simp
          | succ n ih =>
            intro h
            have hg : fs[n]? = some fs[n] := List.getElem?_eq_getElem (by omega)
            rw [List.take_succ, hg, List.flatMap_append, List.length_append, show (some fs[n]).toList.flatMap fldR = fldR fs[n] by simp]
            have h1 := (hN _ (List.getElem_mem (show n < fs.length by omega))).len
            have h2 := ih (by omega)
            omega
        exact this i (by omega)
      have htk : ((fs.take (i + 1)).flatMap fldR).map V.int = ((fs.take i).flatMap fldR).map V.int ++ (fldR x).map V.int := by
        rw [List.take_succ, hx, List.flatMap_append, List.map_append]
        simp
      have fin : ∀ (H7 : Hp) (zs : List V), Same H H7 → SqT K H7 q ws → H7 l = some (.lst (((fs.take i).flatMap fldR).map V.int)) → zs = (fldR x).map V.int → ∃ (x3 x4 : Option V), ([some (.str (S ls)), some (.ref q0), some (.ref l), some (.str (S [ltr x])), some a2, none, none] : L2.St) = [some (.str (S ls)), some (.ref q0), some (.ref l), x3, x4, none, none] ∧ upd H7 l (.lst (((fs.take i).flatMap fldR).map V.int ++ zs)) l = some (.lst (((fs.take (i + 1)).flatMap fldR).map V.int)) ∧ Same H (upd H7 l (.lst (((fs.take i).flatMap fldR).map V.int ++ zs))) ∧ SqT K (upd H7 l (.lst (((fs.take i).flatMap fldR).map V.int ++ zs))) q ws := fun H7 zs S7 q7 e7 ez =>
        ⟨_, _, rfl, by rw [upd_same, htk, ez], fun b o hb => by rw [upd_ne (ne_of_none hb hl)]; exact S7 b o hb, KeepT.upd e7 _ _ q7⟩
      refine ⟨T, _, rfl, SqT.of upd_same, rfl, _, _, rfl, _, _, rfl, rfl, ?_⟩
      refine ⟨_, rfl, rfl, _, rfl, iteFb (noF _ hcm) ?_⟩
      refine ⟨_, rfl, sz_2, fun u hu => ?_⟩
      have S7 := Same.new (o := .tup [.str "a", .str "b"]) hu
      refine ⟨u, _, rfl, .inr (SqT.of upd_same), rfl, rfl, _, rfl, ?_⟩
      have hin : (if true = true then !inV (.str (S [ltr x])) [.str "a", .str "b"] else inV (.str (S [ltr x])) [.str "a", .str "b"]) = decide (ltr x ≠ 97 ∧ ltr x ≠ 98) := notAB _ hcm
      by_cases hab : ltr x ≠ 97 ∧ ltr x ≠ 98
      · refine iteTb (hin.trans (decide_eq_true hab)) ?_
        refine ⟨_, rfl, .inl ⟨rfl, _, SqL.of (S7 _ _ e6)⟩, ?_⟩
        refine ⟨_, rfl, _, rfl, a2, x, ltr x, rfl, rfl, dx6.mono S7, hab.1, hab.2, Nat.le_trans hNx (by decide), fun v' H8 S8 d8 => ?_⟩
        obtain ⟨q8, xs, rfl, hq8, ha8⟩ := d8.tuple_inv
        have hxl := ha8.length
        rw [List.length_map] at hxl
        refine ⟨q8, rfl, ⟨_, hq8⟩, fun D hD => ?_⟩
        have hDl : l ≠ D := ne_of_none (S8 _ _ (S7 _ _ e6)) hD
        refine lc_it (walk_tup (xs := xs)) (fun j H' => H' D = some (.lst ((((fldVs x).take j).flatMap valR).map V.int)) ∧ Same H8 H') ⟨upd_same, Same.new hD⟩ (fun j H' _ h => Same.tupl h.2 hq8) ?_ ?_
        · rintro j y H9 H10 hj ⟨eD, S9⟩ ⟨rfl, hy⟩
          obtain ⟨d, hd, dy⟩ := (DtAll.mono S9 ha8).getV hy
          rw [List.getElem?_map] at hd
          obtain ⟨vx, hvx, rfl⟩ := Option.map_eq_some_iff.mp hd
          have hja : (((fldVs x).take j).flatMap valR).length ≤ 10 := Nat.le_trans (valR_len _) (by rw [List.length_take]; exact Nat.le_trans (Nat.min_le_right _ _) hNx)
          have htj : (((fldVs x).take (j + 1)).flatMap valR).map V.int = (((fldVs x).take j).flatMap valR).map V.int ++ (valR vx).map V.int := by
            rw [List.take_succ, hvx, List.flatMap_append, List.map_append]
            simp
          refine ⟨rfl, ?_⟩
          obtain ⟨kv, rv, ev, hkv⟩ := valD_hd vx
          rw [ev] at dy
          obtain ⟨qy, wy, rfl, hqy, hwy⟩ := dy.head
          refine ⟨_, rfl, qy, _, _, _, rfl, rfl, hqy, at0, rfl, _, rfl, ?_⟩
          rcases hkv with ⟨hne, hnil⟩ | ⟨rfl, n, rfl, rfl⟩
          · refine iteFb (decide_eq_false fun e => hne (V.str.inj e)) ⟨?_, S9⟩
            rw [htj, hnil, List.map_nil, List.append_nil]
            exact eD
          · refine iteTb (decide_eq_true rfl) ?_
            obtain ⟨y1, w1, rfl, d1, hw1⟩ := hwy.cons_inv
            cases hw1.nil_inv
            cases d1.int_inv
            refine ⟨_, rfl, qy, _, _, _, rfl, rfl, hqy, at1, _, eD, by rw [List.length_map]; exact Nat.lt_of_le_of_lt hja (by decide), ?_, fun b o hb => by rw [upd_ne (ne_of_none hb hD)]; exact S9 _ _ hb⟩
            rw [upd_same, htj]
            rfl
        · rintro H9 ⟨eD, S9⟩
          have hw : (fldVs x).take xs.length = fldVs x := by rw [hxl]; exact List.take_length
          rw [hw] at eD
          have S10 := (S7.trans S8).trans S9
          have e9 := S10 _ _ e6
          have hz1 : ((((fs.take i).flatMap fldR).map V.int).length + (((fldVs x).flatMap valR).map V.int).length) ≤ sizeLine := by
            rw [List.length_map, List.length_map]
            have := valR_len (fldVs x)
            have hNx' : (fldVs x).length ≤ 10 := hNx
            exact Nat.le_trans (show _ ≤ 200 by omega) (by decide)
          exact ⟨l, D, _, _, rfl, rfl, e9, eD, hz1, fin H9 _ (S56.trans S10) (Same.tupl S10 q6) e9 (by rw [fldR_vs hab.1 hab.2])⟩
      · refine iteFb (hin.trans (decide_eq_false hab)) ?_
        have S67 := S56.trans S7
        by_cases ha97 : ltr x = 97
        · cases x with
          | a n =>
            cases dx.int_inv
            refine ⟨_, rfl, _, _, rfl, rfl, _, rfl, iteTb (decide_eq_true (by omega)) ?_⟩
            refine ⟨_, rfl, .inl ⟨rfl, _, SqL.of (S7 _ _ e6)⟩, _, rfl, l, _, _, rfl, rfl, S7 _ _ e6, by rw [List.length_map]; exact Nat.lt_of_le_of_lt (Nat.le_trans hlen (show 10 * i ≤ 100 by omega)) (by decide), ?_⟩
            exact fin _ _ S67 (Same.tupl S7 q6) (S7 _ _ e6) rfl
          | _ => first | (cases ha97; done)
        · have hb98 : ltr x = 98 := Decidable.byContradiction fun h => hab ⟨ha97, h⟩
          cases x with
          | b n =>
            cases dx.int_inv
            refine ⟨_, rfl, _, _, rfl, rfl, _, rfl, ?_⟩
            refine ite3 (fun c => ?_) fun c => ?_
            · have c := of_decide_eq_true c
              refine ⟨_, rfl, .inl ⟨rfl, _, SqL.of (S7 _ _ e6)⟩, _, rfl, l, _, _, rfl, rfl, S7 _ _ e6, by rw [List.length_map]; exact Nat.lt_of_le_of_lt (Nat.le_trans hlen (show 10 * i ≤ 100 by omega)) (by decide), ?_⟩
              exact fin _ _ S67 (Same.tupl S7 q6) (S7 _ _ e6) (by show _ = (if 0 ≤ n then [n] else []).map V.int; rw [if_pos c]; rfl)
            · have c := of_decide_eq_false c
              refine ⟨_, _, rfl, ?_, S67, Same.tupl S7 q6⟩
              rw [htk, show fldR (.b n) = [] from if_neg c, List.map_nil, List.append_nil]
              exact S7 _ _ e6
          | _ => first | (cases hb98; done)
    · rintro σ H5 ⟨x3, x4, rfl, e5, S5, q5⟩
      have hw : fs.take ws.length = fs := by rw [hal]; exact List.take_length
      rw [hw] at e5
      exact ⟨_, rfl, k l H5 hl S5 e5⟩
--SPLIT
def objectsL : List (Str × Str) := ([("list", "V"), ("tuple", "V"), ("dict", "W"), ("scope", "Xttbt"), ("func", "xtXtta"), ("class", "xbX"), ("inst", "aX"), ("bound", "vv"), ("iter", "vnn"), ("gen", "xxF")] : List (Str × Str))
def controlsL : List (Str × Str) := ([("eval", "ta"), ("exec", "ta"), ("store", "tva"), ("call", "vVX"), ("resume", "axv"), ("value", "v"), ("done", ""), ("leave", "s"), ("give", "v"), ("ask", "xV")] : List (Str × Str))
def fieldsL : List (Str × Str) := ([("neg", ""), ("not", ""), ("bin1", "xta"), ("bin2", "xv"), ("and", "ta"), ("or", "ta"), ("choice", "tta"), ("cmp1", "ta"), ("cmp2", "vxta"), ("cmp3", "vta"), ("attr", "x"), ("item1", "ta")] : List (Str × Str)) ++ ([("item2", "v"), ("part1", "tta"), ("part2", "vta"), ("part3", "vv"), ("items", "xVta"), ("dict1", "Wtta"), ("dict2", "Wvta"), ("call1", "tta"), ("args", "vVtXta"), ("rest", "ta"), ("drop", ""), ("put", "ta")] : List (Str × Str)) ++ ([("del1", "ta"), ("del2", "v"), ("ret", ""), ("throw", ""), ("if", "tta"), ("while1", "ttan"), ("while2", "ttan"), ("for1", "ttan"), ("for2", "ttan"), ("for3", "vttan"), ("for4", "vttan"), ("for5", "vttan")] : List (Str × Str)) ++ ([("def", "xtttXta"), ("class1", "xtta"), ("class2", "xbaa"), ("catch", "ta"), ("match", "vta"), ("handling", "v"), ("final", "ta"), ("after", "s"), ("giving", "ta"), ("sent", "ta"), ("setattr", "xv"), ("seti1", "tva")] : List (Str × Str)) ++ ([("seti2", "vv"), ("unpack", "tVa"), ("forget", ""), ("body", "xn"), ("init", "v"), ("genbody", "axnx"), ("begin", "ta"), ("want", "x"), ("print", "vV"), ("gather1", "x"), ("gather", "xvV"), ("default", "v")] : List (Str × Str))
theorem fields_at : frTab.all (fun t => valV (txtKV fieldsL) (.inr t.1) == some (.str (S t.2))) = true := by decide +kernel
theorem objects_at : obTab.all (fun t => valV (txtKV objectsL) (.inr t.1) == some (.str (S t.2))) = true := by decide +kernel
theorem controls_at : coTab.all (fun t => valV (txtKV controlsL) (.inr t.1) == some (.str (S t.2))) = true := by decide +kernel
theorem tab_val {fl : List (Str × Str)} {tab : Tab} (h : tab.all (fun t => valV (txtKV fl) (.inr t.1) == some (.str (S t.2))) = true) {kd : Str} {ls : List Nat} (hm : (kd, ls) ∈ tab) : valV (txtKV fl) (.inr kd) = some (.str (S ls)) :=
  eq_of_beq (List.all_eq_true.mp h _ hm)
def spRefsOf (K : PySem.W.Frag) (tab : Tab) : Sp := fun vs H Q _ => ∃ (v : V) (kd : Str) (fs : List Fld), vs = [v] ∧ Dt K H v (.tuple (.str kd :: fs.map fldD)) ∧ (kd, fs.map ltr) ∈ tab ∧ (∀ x ∈ fs, FldN x) ∧ ∀ l H', H l = none → Same H H' → H' l = some (.lst ((fs.flatMap fldR).map V.int)) → Q (.ref l) H'
theorem ok_frefs {f : Addr} {fd : FuncData} (F : Fun K "frame_references" "frame_references" s_frame_references f fd) (T : Txt K mg) (U_FIELDS : UseD P w K mg "FIELDS" (txtKV fieldsL)) (U_references : Use P w K mg base CX0 "_references" 2 P_references (spRefs0 K)) : FnG P w K mg base CX0 3 f fd P_frame_references (spRefsOf K frTab) := by
  refine okG0 F sc_frame_references (fun vs H Q E h => ?_) fun cdv A outer s H vs Q E hr hg h => ?_
  · obtain ⟨v, kd, fs, rfl, _⟩ := h
    rfl
  · obtain ⟨v, kd, fs, rfl, dv, hm, hN, k⟩ := h
    obtain ⟨aD_FIELDS, gD_FIELDS, kD⟩ := U_FIELDS.ex
    refine ⟨_, (pss_one (ps_ret (pe_use U_references (hr.mono (by decide)) hg rfl (pa_cons (pe_dgetK (pe_glob (v := .ref aD_FIELDS) (by rfl) gD_FIELDS rfl) (pe_ix ix_tup (pv 0) pe_int (fun _ _ => rfl)) (fun _ _ => rfl)) (pa_cons (pv 0) pa_nil))))), ?_⟩
    obtain ⟨q, ws, rfl, hq, ha⟩ := (id dv).head
    obtain ⟨o1, o2⟩ := frTab_ok _ hm
    exact ⟨_, rfl, q, _, _, _, rfl, rfl, hq, at0, aD_FIELDS, _, .inr kd, _, rfl, kD, rfl, tab_val fields_at hm, _, rfl, _, kd, fs, _, rfl, rfl, dv, hN, o1, o2, k⟩
theorem coTab_ok : TabOk flds coTab := by unfold TabOk; decide +kernel
theorem ok_crefs {f : Addr} {fd : FuncData} (F : Fun K "control_references" "control_references" s_control_references f fd) (T : Txt K mg) (U_CONTROLS : UseD P w K mg "CONTROLS" (txtKV controlsL)) (U_references : Use P w K mg base CX0 "_references" 2 P_references (spRefs0 K)) : FnG P w K mg base CX0 3 f fd P_control_references (spRefsOf K coTab) := by
  refine okG0 F sc_control_references (fun vs H Q E h => ?_) fun cdv A outer s H vs Q E hr hg h => ?_
  · obtain ⟨v, kd, fs, rfl, _⟩ := h
    rfl
  · obtain ⟨v, kd, fs, rfl, dv, hm, hN, k⟩ := h
    obtain ⟨aD_CONTROLS, gD_CONTROLS, kD⟩ := U_CONTROLS.ex
    refine ⟨_, (pss_one (ps_ret (pe_use U_references (hr.mono (by decide)) hg rfl (pa_cons (pe_dgetK (pe_glob (v := .ref aD_CONTROLS) (by rfl) gD_CONTROLS rfl) (pe_ix ix_tup (pv 0) pe_int (fun _ _ => rfl)) (fun _ _ => rfl)) (pa_cons (pv 0) pa_nil))))), ?_⟩
    obtain ⟨q, ws, rfl, hq, ha⟩ := (id dv).head
    obtain ⟨o1, o2⟩ := coTab_ok _ hm
    exact ⟨_, rfl, q, _, _, _, rfl, rfl, hq, at0, aD_CONTROLS, _, .inr kd, _, rfl, kD, rfl, tab_val controls_at hm, _, rfl, _, kd, fs, _, rfl, rfl, dv, hN, o1, o2, k⟩
/-! objects -/
def frR (f : Fr) : List Int := f.fs.flatMap fldR
def fl2R : Fl2 → List Int
  | .one x => fldR x
  | .fr l => l.flatMap frR
def Fl2N : Fl2 → Prop
  | .one x => FldN x
  | .fr l => l.length ≤ 2 ∧ ∀ f ∈ l, (f.kd, f.fs.map ltr) ∈ frTab ∧ ∀ x ∈ f.fs, FldN x
--SPLIT
theorem ltr_in (x : Fld) : ltr x ∈ flds := by cases x <;> simp [ltr, flds]
theorem fr_len2 : ∀ (l : List Fld), (∀ x ∈ l, FldN x) → (l.flatMap fldR).length ≤ 10 * l.length
  | [], _ => by simp
  | x :: r, h => by
    rw [List.flatMap_cons, List.length_append, List.length_cons]
    have := (h x (by simp)).len
    have := fr_len2 r fun y hy => h y (List.mem_cons_of_mem _ hy)
    omega
theorem frs_len (fl : List Fr) (hl : fl.length ≤ 2) (h : ∀ f ∈ fl, (f.kd, f.fs.map ltr) ∈ frTab ∧ ∀ x ∈ f.fs, FldN x) (j : Nat) : ((fl.take j).flatMap frR).length ≤ 200 := by
  have go : ∀ l : List Fr, (∀ f ∈ l, (f.kd, f.fs.map ltr) ∈ frTab ∧ ∀ x ∈ f.fs, FldN x) → (l.flatMap frR).length ≤ 100 * l.length := fun l => by
    induction l with
    | nil => intro _; simp
    | cons f r ih =>
      intro h
      rw [List.flatMap_cons, List.length_append, List.length_cons]
      obtain ⟨h1, h2⟩ := h f (by simp)
      have h3 := (frTab_ok _ h1).2
      rw [List.length_map] at h3
      have h4 : (frR f).length ≤ 10 * f.fs.length := fr_len2 f.fs h2
      have h5 := ih fun g hg => h g (List.mem_cons_of_mem _ hg)
      omega
  have h1 := go (fl.take j) fun f hf => h f (List.mem_of_mem_take hf)
  rw [List.length_take] at h1
  omega
theorem Fl2N.len {x : Fl2} (h : Fl2N x) : (fl2R x).length ≤ 200 := by
  cases x with
  | one x => exact Nat.le_trans (FldN.len h) (by decide)
  | fr l =>
    have := frs_len l h.1 h.2 l.length
    rwa [List.take_length] at this
def spRefs (K : PySem.W.Frag) : Sp := fun vs H Q _ => ∃ (v : V) (kd : Str) (fs : List Fl2) (ls : List Nat), vs = [.str (S ls), v] ∧ fs.map ltr2 = ls ∧ Dt K H v (.tuple (.str kd :: fs.map fl2D)) ∧ (∀ x ∈ fs, Fl2N x) ∧ (∀ c ∈ ls, c ∈ 70 :: flds) ∧ ls.length ≤ 10 ∧
  ∀ l H', H l = none → Same H H' → H' l = some (.lst ((fs.flatMap fl2R).map V.int)) → Q (.ref l) H'
theorem ok_refs {f : Addr} {fd : FuncData} (F : Fun K "_references" "_references" s_references f fd) (T : Txt K mg) (U_values : Use P w K mg base CX0 "_values" 1 P_values (spValues K)) (U_frame_references : Use P w K mg base CX0 "frame_references" 3 P_frame_references (spRefsOf K frTab)) : FnG P w K mg base CX0 4 f fd P_references (spRefs K) := by
  refine okG0 F sc_references (fun vs H Q E h => ?_) fun cdv A outer s H vs Q E hr hg h => ?_
  · obtain ⟨v, kd, fs, ls, rfl, _⟩ := h
    rfl
  · obtain ⟨v, kd, fs, ls, rfl, hls, dv, hN, hfl, hll, k⟩ := h
    refine ⟨_, (pss_cons (ps_set (i := 2) sc_references.nd rfl (Or.inl rfl) (pe_lst pa_nil))
  (pss_cons (ps_for PassesOwn.never rfl (pi_zipST (by rfl) T.b_zip (pa_cons (pv 0) (pa_cons (pe_slice sl_tupA (pv 1) (po_some pe_int) po_none) pa_nil))) (pg_tup (by rfl) (pgs_cons (pg_name (i := 3) sc_references.nd rfl (Or.inl rfl)) (pgs_cons (pg_name (i := 4) sc_references.nd rfl (Or.inl rfl)) pgs_nil)))
   (pss_one (ps_if (pt_cmpR op_eq (pv 3) pe_str (nomark _))
   (pss_one (ps_for PassesOwn.never rfl (pi_tup (pv 4)) (pg_name (i := 5) sc_references.nd rfl (Or.inl rfl))
   (pss_one (ps_expr (pe_bm PySem.F.plainAttrs_list PySem.F.slot_list_extend PySem.F.type_list_extend mt_extend (pv 2) (pa_cons (pe_use U_frame_references (hr.mono (by decide)) hg rfl (pa_cons (pv 5) pa_nil)) pa_nil))))))
   (pss_one (ps_if (pt_cmpR op_notIn_seq (pv 3) (pe_tup (pa_cons pe_str (pa_cons pe_str pa_nil))) (by rfl))
   (pss_one (ps_expr (pe_bm PySem.F.plainAttrs_list PySem.F.slot_list_extend PySem.F.type_list_extend mt_extend (pv 2) (pa_cons (pe_lc (own := [("value", 6)]) (g := (gName 6)) rfl sc_references.nd (pi_tup (pe_use U_values (hr.mono (by decide)) hg rfl (pa_cons (pv 3) (pa_cons (pv 4) pa_nil)))) (blkOk_by (N := N_references) (sc := defScope s_references) (by decide +kernel)) (fun _ _ _ _ _ => (pg_name (i := 6) sc_references.nd rfl (Or.inl rfl))) (fun _ _ _ _ _ => (pts_one (pt_cmpR op_eq (pe_ix (ix_tup : IxR _ (rIxT K)) (pv 6) pe_int (fun _ _ => rfl)) pe_str (nomark _)))) (fun _ _ _ _ _ => (pe_ix (ix_tup : IxR _ (rIxT K)) (pv 6) pe_int (fun _ _ => rfl)))) pa_nil))))
   (pss_one (ps_if (pt_cmpR op_ge (pv 4) pe_int (nomark _))
   (pss_one (ps_expr (pe_bm PySem.F.plainAttrs_list PySem.F.slot_list_append PySem.F.type_list_append mt_append (pv 2) (pa_cons (pv 4) pa_nil))))
   pss_nil)))))))
  (pss_one (ps_ret (pv 2))))), ?_⟩
    obtain ⟨q0, ws, rfl, hq0, ha⟩ := dv.head
    have hal := ha.length
    rw [List.length_map] at hal
    have hfsl : fs.length = ls.length := by rw [← hls, List.length_map]
    refine ⟨sz_0, fun l hl => ?_⟩
    have S0 := Same.new (o := .lst []) hl
    refine ⟨_, rfl, _, rfl, _, rfl, ?_⟩
    refine ⟨q0, _, rfl, Same.tupl S0 hq0, fun e => absurd e.1 (tail_no _ _), fun _ q hq => ?_⟩
    rw [cut_one]
    refine ⟨S ls, q, ws, rfl, SqT.of upd_same, ?_⟩
    refine for_it (walk_zipST (z := ls) (b := q) (ys := ws) (by omega)) (fun i σ H5 => ∃ (x3 x4 x5 : Option V), σ = [some (.str (S ls)), some (.ref q0), some (.ref l), x3, x4, x5, none] ∧ H5 l = some (.lst (((fs.take i).flatMap fl2R).map V.int)) ∧ Same H H5 ∧ SqT K H5 q ws) ⟨none, none, none, rfl, Same.new hq _ _ upd_same, S0.trans (Same.new hq), SqT.of upd_same⟩ (fun _ _ _ _ h => let ⟨_, _, _, _, _, _, z⟩ := h; z) ?_ ?_
    · rintro i y σ H5 H6 hi ⟨x3, x4, x5, rfl, e5, S5, q5⟩ ⟨T, a1, a2, rfl, hT, rfl, e1, e2⟩
      have hif : i < fs.length := by omega
      have hx : fs[i]? = some fs[i] := List.getElem?_eq_getElem hif
      have hNx := hN _ (List.getElem_mem hif)
      generalize fs[i] = x at hx hNx
      have hlc : ls[i]? = some (ltr2 x) := by rw [← hls, List.getElem?_map, hx]; rfl
      have hcm := hfl _ (List.mem_of_getElem? hlc)
      obtain rfl : V.str (S [ltr2 x]) = a1 := by
        have e1 : (ls[i]?).map (fun c => V.str (S [c])) = some a1 := e1
        rw [hlc] at e1
        exact Option.some.inj e1
      obtain ⟨d, hd, dx⟩ := ha.getV (show ws[i]? = some a2 from e2)
      rw [List.getElem?_map, hx] at hd
      cases hd
      have S6 := Same.new (o := .tup [.str (S [ltr2 x]), a2]) hT
      have S56 := S5.trans S6
      have dx6 := dx.mono S56
      have e6 := S6 _ _ e5
      have q6 := Same.tupl S6 q5
      have hlen : ((fs.take i).flatMap fl2R).length ≤ 200 * i := by
        have : ∀ (n : Nat), n ≤ fs.length → ((fs.take n).flatMap fl2R).length ≤ 200 * n := fun n => by
          induction n with
          | zero => intro _; simp
          | succ n ih =>
            intro h
            have hg : fs[n]? = some fs[n] := List.getElem?_eq_getElem (by omega)
            rw [List.take_succ, hg, List.flatMap_append, List.length_append, show (some fs[n]).toList.flatMap fl2R = fl2R fs[n] by simp]
            have h1 := (hN _ (List.getElem_mem (show n < fs.length by omega))).len
            have h2 := ih (by omega)
            omega
        exact this i (by omega)
      have htk : ((fs.take (i + 1)).flatMap fl2R).map V.int = ((fs.take i).flatMap fl2R).map V.int ++ (fl2R x).map V.int := by
        rw [List.take_succ, hx, List.flatMap_append, List.map_append]
        simp
      have fin : ∀ (H7 : Hp) (zs : List V), Same H H7 → SqT K H7 q ws → H7 l = some (.lst (((fs.take i).flatMap fl2R).map V.int)) → zs = (fl2R x).map V.int → ∃ (x3 x4 x5' : Option V), ([some (.str (S ls)), some (.ref q0), some (.ref l), some (.str (S [ltr2 x])), some a2, x5, none] : L2.St) = [some (.str (S ls)), some (.ref q0), some (.ref l), x3, x4, x5', none] ∧ upd H7 l (.lst (((fs.take i).flatMap fl2R).map V.int ++ zs)) l = some (.lst (((fs.take (i + 1)).flatMap fl2R).map V.int)) ∧ Same H (upd H7 l (.lst (((fs.take i).flatMap fl2R).map V.int ++ zs))) ∧ SqT K (upd H7 l (.lst (((fs.take i).flatMap fl2R).map V.int ++ zs))) q ws := fun H7 zs S7 q7 e7 ez =>
        ⟨_, _, _, rfl, by rw [upd_same, htk, ez], fun b o hb => by rw [upd_ne (ne_of_none hb hl)]; exact S7 b o hb, KeepT.upd e7 _ _ q7⟩
      refine ⟨T, _, rfl, SqT.of upd_same, rfl, _, _, rfl, _, _, rfl, rfl, ?_⟩
      cases x with
      | fr fl =>
        refine ⟨_, rfl, rfl, _, rfl, iteTb (show decide (V.str (S [70]) = V.str "F") = true by decide +kernel) ?_⟩
        obtain ⟨qf, xsf, rfl, hqf, haf⟩ := (show Dt K _ a2 (.tuple (fl.map frD)) from dx6).tuple_inv
        have hfl2 := haf.length
        rw [List.length_map] at hfl2
        obtain ⟨hl2, hfr⟩ : fl.length ≤ 2 ∧ ∀ f ∈ fl, (f.kd, f.fs.map ltr) ∈ frTab ∧ ∀ x ∈ f.fs, FldN x := hNx
        refine ⟨_, rfl, qf, rfl, ⟨_, hqf⟩, ?_⟩
        refine for_tup (xs := xsf) (fun j σ H7 => ∃ x5, σ = [some (.str (S ls)), some (.ref q0), some (.ref l), some (.str (S [70])), some (.ref qf), x5, none] ∧ H7 l = some (.lst (((fs.take i).flatMap fl2R ++ (fl.take j).flatMap frR).map V.int)) ∧ Same H H7 ∧ SqT K H7 q ws ∧ SqT K H7 qf xsf ∧ DtAll K H7 xsf (fl.map frD)) ⟨x5, rfl, by rw [List.take_zero]; show _ = some (HO.lst ((_ ++ []).map V.int)); rw [List.append_nil]; exact e6, S56, q6, hqf, haf⟩ ?_ ?_ ?_
        · rintro j σ H7 hj ⟨x5, rfl, e7, S7, q7, f7, d7⟩
          exact f7
        · rintro j y σ H7 hy ⟨x5, rfl, e7, S7, q7, f7, d7⟩
          obtain ⟨d, hd, dy⟩ := d7.getV hy
          rw [List.getElem?_map] at hd
          obtain ⟨g, hg2, rfl⟩ := Option.map_eq_some_iff.mp hd
          obtain ⟨hm, hgN⟩ := hfr g (List.mem_of_getElem? hg2)
          have hgl : (frR g).length ≤ 100 := by
            have h10 := (frTab_ok _ hm).2
            rw [List.length_map] at h10
            exact Nat.le_trans (fr_len2 g.fs hgN) (by omega)
          refine ⟨_, rfl, .inl ⟨rfl, _, SqL.of e7⟩, ?_⟩
          refine ⟨_, rfl, y, g.kd, g.fs, rfl, dy, hm, hgN, fun l2 H8 hl2' S8 e8 => ?_⟩
          have hj2 : j < fl.length := by
            have := (List.getElem?_eq_some_iff.mp hy).1
            omega
          have hln : ((fs.take i).flatMap fl2R ++ (fl.take j).flatMap frR).length ≤ 3000 := by
            rw [List.length_append]
            have h2 : ((fl.take j).flatMap frR).length ≤ 200 := frs_len fl hl2 hfr j
            omega
          refine ⟨l, l2, _, _, rfl, rfl, S8 _ _ e7, e8, by rw [List.length_map, List.length_map]; exact Nat.le_trans (Nat.add_le_add hln hgl) (by decide), ?_⟩
          have e8l := S8 _ _ e7
          have kT : KeepT K H8 (upd H8 l (.lst (((fs.take i).flatMap fl2R ++ (fl.take j).flatMap frR).map V.int ++ (g.fs.flatMap fldR).map V.int))) := KeepT.upd e8l
          refine ⟨_, rfl, ?_, fun b o hb => by rw [upd_ne (ne_of_none hb hl)]; exact S8 _ _ (S7 _ _ hb), kT _ _ (Same.tupl S8 q7), kT _ _ (Same.tupl S8 f7), (d7.mono S8).keepT kT⟩
          rw [upd_same, List.take_succ, hg2, List.flatMap_append, ← List.append_assoc, List.map_append (l₂ := (some g).toList.flatMap frR)]
          simp [frR]
        · rintro σ H7 ⟨x5, rfl, e7, S7, q7, f7, d7⟩
          refine ⟨_, _, _, rfl, ?_, S7, q7⟩
          rw [hfl2, List.take_length] at e7
          rw [htk, ← List.map_append]
          exact e7
      | one x =>
        have hcm : ltr x ∈ flds := ltr_in x
        have hNx : FldN x := hNx
        have htk : ((fs.take (i + 1)).flatMap fl2R).map V.int = ((fs.take i).flatMap fl2R).map V.int ++ (fldR x).map V.int := htk
        have fin : ∀ (H7 : Hp) (zs : List V), Same H H7 → SqT K H7 q ws → H7 l = some (.lst (((fs.take i).flatMap fl2R).map V.int)) → zs = (fldR x).map V.int → ∃ (x3 x4 x5' : Option V), ([some (.str (S ls)), some (.ref q0), some (.ref l), some (.str (S [ltr x])), some a2, x5, none] : L2.St) = [some (.str (S ls)), some (.ref q0), some (.ref l), x3, x4, x5', none] ∧ upd H7 l (.lst (((fs.take i).flatMap fl2R).map V.int ++ zs)) l = some (.lst (((fs.take (i + 1)).flatMap fl2R).map V.int)) ∧ Same H (upd H7 l (.lst (((fs.take i).flatMap fl2R).map V.int ++ zs))) ∧ SqT K (upd H7 l (.lst (((fs.take i).flatMap fl2R).map V.int ++ zs))) q ws := fin
        have dx6 : Dt K _ a2 (fldD x) := dx6
        have dx : Dt K _ a2 (fldD x) := dx
        refine ⟨_, rfl, rfl, _, rfl, iteFb (noF _ hcm) ?_⟩
        refine ⟨_, rfl, sz_2, fun u hu => ?_⟩
        have S7 := Same.new (o := .tup [.str "a", .str "b"]) hu
        refine ⟨u, _, rfl, .inr (SqT.of upd_same), rfl, rfl, _, rfl, ?_⟩
        have hin : (if true = true then !inV (.str (S [ltr x])) [.str "a", .str "b"] else inV (.str (S [ltr x])) [.str "a", .str "b"]) = decide (ltr x ≠ 97 ∧ ltr x ≠ 98) := notAB _ hcm
        by_cases hab : ltr x ≠ 97 ∧ ltr x ≠ 98
        · refine iteTb (hin.trans (decide_eq_true hab)) ?_
          refine ⟨_, rfl, .inl ⟨rfl, _, SqL.of (S7 _ _ e6)⟩, ?_⟩
          refine ⟨_, rfl, _, rfl, a2, x, ltr x, rfl, rfl, dx6.mono S7, hab.1, hab.2, Nat.le_trans hNx (by decide), fun v' H8 S8 d8 => ?_⟩
          obtain ⟨q8, xs, rfl, hq8, ha8⟩ := d8.tuple_inv
          have hxl := ha8.length
          rw [List.length_map] at hxl
          refine ⟨q8, rfl, ⟨_, hq8⟩, fun D hD => ?_⟩
          have hDl : l ≠ D := ne_of_none (S8 _ _ (S7 _ _ e6)) hD
          refine lc_it (walk_tup (xs := xs)) (fun j H' => H' D = some (.lst ((((fldVs x).take j).flatMap valR).map V.int)) ∧ Same H8 H') ⟨upd_same, Same.new hD⟩ (fun j H' _ h => Same.tupl h.2 hq8) ?_ ?_
          · rintro j y H9 H10 hj ⟨eD, S9⟩ ⟨rfl, hy⟩
            obtain ⟨d, hd, dy⟩ := (DtAll.mono S9 ha8).getV hy
            rw [List.getElem?_map] at hd
            obtain ⟨vx, hvx, rfl⟩ := Option.map_eq_some_iff.mp hd
            have hja : (((fldVs x).take j).flatMap valR).length ≤ 10 := Nat.le_trans (valR_len _) (by rw [List.length_take]; exact Nat.le_trans (Nat.min_le_right _ _) hNx)
            have htj : (((fldVs x).take (j + 1)).flatMap valR).map V.int = (((fldVs x).take j).flatMap valR).map V.int ++ (valR vx).map V.int := by
              rw [List.take_succ, hvx, List.flatMap_append, List.map_append]
              simp
            refine ⟨rfl, ?_⟩
            obtain ⟨kv, rv, ev, hkv⟩ := valD_hd vx
            rw [ev] at dy
            obtain ⟨qy, wy, rfl, hqy, hwy⟩ := dy.head
            refine ⟨_, rfl, qy, _, _, _, rfl, rfl, hqy, at0, rfl, _, rfl, ?_⟩
            rcases hkv with ⟨hne, hnil⟩ | ⟨rfl, n, rfl, rfl⟩
            · refine iteFb (decide_eq_false fun e => hne (V.str.inj e)) ⟨?_, S9⟩
              rw [htj, hnil, List.map_nil, List.append_nil]
              exact eD
            · refine iteTb (decide_eq_true rfl) ?_
              obtain ⟨y1, w1, rfl, d1, hw1⟩ := hwy.cons_inv
              cases hw1.nil_inv
              cases d1.int_inv
              refine ⟨_, rfl, qy, _, _, _, rfl, rfl, hqy, at1, _, eD, by rw [List.length_map]; exact Nat.lt_of_le_of_lt hja (by decide), ?_, fun b o hb => by rw [upd_ne (ne_of_none hb hD)]; exact S9 _ _ hb⟩
              rw [upd_same, htj]
              rfl
          · rintro H9 ⟨eD, S9⟩
            have hw : (fldVs x).take xs.length = fldVs x := by rw [hxl]; exact List.take_length
            rw [hw] at eD
            have S10 := (S7.trans S8).trans S9
            have e9 := S10 _ _ e6
            have hz1 : ((((fs.take i).flatMap fl2R).map V.int).length + (((fldVs x).flatMap valR).map V.int).length) ≤ sizeLine := by
              rw [List.length_map, List.length_map]
              have := valR_len (fldVs x)
              have hNx' : (fldVs x).length ≤ 10 := hNx
              exact Nat.le_trans (show _ ≤ 3000 by omega) (by decide)
            exact ⟨l, D, _, _, rfl, rfl, e9, eD, hz1, fin H9 _ (S56.trans S10) (Same.tupl S10 q6) e9 (by rw [fldR_vs hab.1 hab.2])⟩
        · refine iteFb (hin.trans (decide_eq_false hab)) ?_
          have S67 := S56.trans S7
          by_cases ha97 : ltr x = 97
          · cases x with
            | a n =>
              cases dx.int_inv
              refine ⟨_, rfl, _, _, rfl, rfl, _, rfl, iteTb (decide_eq_true (by omega)) ?_⟩
              refine ⟨_, rfl, .inl ⟨rfl, _, SqL.of (S7 _ _ e6)⟩, _, rfl, l, _, _, rfl, rfl, S7 _ _ e6, by rw [List.length_map]; exact Nat.lt_of_le_of_lt (Nat.le_trans hlen (show 200 * i ≤ 2000 by omega)) (by decide), ?_⟩
              exact fin _ _ S67 (Same.tupl S7 q6) (S7 _ _ e6) rfl
            | _ => first | (cases ha97; done)
          · have hb98 : ltr x = 98 := Decidable.byContradiction fun h => hab ⟨ha97, h⟩
            cases x with
            | b n =>
              cases dx.int_inv
              refine ⟨_, rfl, _, _, rfl, rfl, _, rfl, ?_⟩
              refine ite3 (fun c => ?_) fun c => ?_
              · have c := of_decide_eq_true c
                refine ⟨_, rfl, .inl ⟨rfl, _, SqL.of (S7 _ _ e6)⟩, _, rfl, l, _, _, rfl, rfl, S7 _ _ e6, by rw [List.length_map]; exact Nat.lt_of_le_of_lt (Nat.le_trans hlen (show 200 * i ≤ 2000 by omega)) (by decide), ?_⟩
                exact fin _ _ S67 (Same.tupl S7 q6) (S7 _ _ e6) (by show _ = (if 0 ≤ n then [n] else []).map V.int; rw [if_pos c]; rfl)
              · have c := of_decide_eq_false c
                refine ⟨_, _, _, rfl, ?_, S67, Same.tupl S7 q6⟩
                rw [htk, show fldR (.b n) = [] from if_neg c, List.map_nil, List.append_nil]
                exact S7 _ _ e6
            | _ => first | (cases hb98; done)
    · rintro σ H5 ⟨x3, x4, x5, rfl, e5, S5, q5⟩
      have hw : fs.take ws.length = fs := by rw [hal]; exact List.take_length
      rw [hw] at e5
      exact ⟨_, rfl, k l H5 hl S5 e5⟩
theorem obTab_ok : TabOk (70 :: flds) obTab := by unfold TabOk; decide +kernel
def spORefs (K : PySem.W.Frag) : Sp := fun vs H Q _ => ∃ (v : V) (kd : Str) (fs : List Fl2), vs = [v] ∧ Dt K H v (.tuple (.str kd :: fs.map fl2D)) ∧ (kd, fs.map ltr2) ∈ obTab ∧ (∀ x ∈ fs, Fl2N x) ∧ ∀ l H', H l = none → Same H H' → H' l = some (.lst ((fs.flatMap fl2R).map V.int)) → Q (.ref l) H'
theorem ok_orefs {f : Addr} {fd : FuncData} (F : Fun K "object_references" "object_references" s_object_references f fd) (T : Txt K mg) (U_OBJECTS : UseD P w K mg "OBJECTS" (txtKV objectsL)) (U_references : Use P w K mg base CX0 "_references" 4 P_references (spRefs K)) : FnG P w K mg base CX0 5 f fd P_object_references (spORefs K) := by
  refine okG0 F sc_object_references (fun vs H Q E h => ?_) fun cdv A outer s H vs Q E hr hg h => ?_
  · obtain ⟨v, kd, fs, rfl, _⟩ := h
    rfl
  · obtain ⟨v, kd, fs, rfl, dv, hm, hN, k⟩ := h
    obtain ⟨aD_OBJECTS, gD_OBJECTS, kD⟩ := U_OBJECTS.ex
    refine ⟨_, (pss_one (ps_ret (pe_use U_references (hr.mono (by decide)) hg rfl (pa_cons (pe_dgetK (pe_glob (v := .ref aD_OBJECTS) (by rfl) gD_OBJECTS rfl) (pe_ix ix_tup (pv 0) pe_int (fun _ _ => rfl)) (fun _ _ => rfl)) (pa_cons (pv 0) pa_nil))))), ?_⟩
    obtain ⟨q, ws, rfl, hq, ha⟩ := (id dv).head
    obtain ⟨o1, o2⟩ := obTab_ok _ hm
    exact ⟨_, rfl, q, _, _, _, rfl, rfl, hq, at0, aD_OBJECTS, _, .inr kd, _, rfl, kD, rfl, tab_val objects_at hm, _, rfl, _, kd, fs, _, rfl, rfl, dv, hN, o1, o2, k⟩
--SPLIT
end

abbrev s_law_letters : Stmt := top 41
abbrev N_law_letters : List Str := ["table", "kind", "row"]
abbrev P_law_letters : List Str := ["table", "kind"]
theorem sc_law_letters : FnScope N_law_letters P_law_letters (defScope s_law_letters) := ⟨rfl, rfl, rfl, by decide +kernel, rfl, by decide +kernel, by decide +kernel⟩
abbrev s_law_values : Stmt := top 42
abbrev N_law_values : List Str := ["letter", "field", "values", "pair"]
abbrev P_law_values : List Str := ["letter", "field"]
theorem sc_law_values : FnScope N_law_values P_law_values (defScope s_law_values) := ⟨rfl, rfl, rfl, by decide +kernel, rfl, by decide +kernel, by decide +kernel⟩
abbrev s_law_refs : Stmt := top 43
abbrev N_law_refs : List Str := ["table", "item", "letters", "found", "k", "field", "frame", "value"]
abbrev P_law_refs : List Str := ["table", "item"]
theorem sc_law_refs : FnScope N_law_refs P_law_refs (defScope s_law_refs) := ⟨rfl, rfl, rfl, by decide +kernel, rfl, by decide +kernel, by decide +kernel⟩
section
variable {P : Program} {w : World} {K : PySem.W.Frag} {mg : Str → Option Value} {base : Heap}
def spLetters (K : PySem.W.Frag) : Sp := fun vs H Q _ => ∃ (tl : Addr) (tab : Tab) (kd : Str) (ls : List Nat), vs = [.ref tl, .str kd] ∧ TabAt H tl tab ∧ (kd, ls) ∈ tab ∧ (tab.map (·.1)).Nodup ∧ Q (.str (S ls)) H
theorem tab_first {tab : Tab} {i : Nat} {kd : Str} {a b : List Nat} (hn : (tab.map (·.1)).Nodup) (h1 : tab[i]? = some (kd, a)) (h2 : (kd, b) ∈ tab) : a = b := by
  obtain ⟨j, hj⟩ := List.getElem?_of_mem h2
  have e1 : (tab.map (·.1))[i]? = some kd := by rw [List.getElem?_map, h1]; rfl
  have e2 : (tab.map (·.1))[j]? = some kd := by rw [List.getElem?_map, hj]; rfl
  have hi := (List.getElem?_eq_some_iff.mp e1).1
  have : i = j := (List.getElem?_inj hi hn).mp (e1.trans e2.symm)
  subst this
  rw [h1] at hj
  exact (Prod.mk.inj (Option.some.inj hj)).2
theorem ok_letters {f : Addr} {fd : FuncData} (F : Fun K "_law_letters" "_law_letters" s_law_letters f fd) (T : Txt K mg) : FnG P w K mg base CX0 1 f fd P_law_letters (spLetters K) := by
  refine okG0 F sc_law_letters (fun vs H Q E h => ?_) fun cdv A outer s H vs Q E hr hg h => ?_
  · obtain ⟨tl, tab, kd, ls, rfl, _⟩ := h
    rfl
  · obtain ⟨tl, tab, kd, ls, rfl, ⟨rs, e1, e2, e3⟩, hm, hn, k⟩ := h
    refine ⟨_, (pss_cons (ps_for PassesOwn.never rfl (pi_list (pv 0)) (pg_name (i := 2) sc_law_letters.nd rfl (Or.inl rfl))
   (pss_one (ps_if (pt_cmpR op_eq (pe_ix ix_list (pv 2) pe_int (fun _ _ => rfl)) (pv 1) (nomark _))
   (pss_one (ps_ret (pe_ix ix_list (pv 2) pe_int (fun _ _ => rfl))))
   pss_nil)))
  (pss_one (ps_ret pe_str))), ?_⟩
    refine ⟨_, rfl, tl, rfl, ⟨_, SqL.of e1⟩, ?_⟩
    refine for_list (xs := rs.map V.ref) (fun i σ H1 => ∃ x2, σ = [some (.ref tl), some (.str kd), x2] ∧ H1 = H ∧ ∀ j, j < i → ∀ t, tab[j]? = some t → t.1 ≠ kd) ⟨none, rfl, rfl, by simp⟩ ?_ ?_ ?_
    · rintro i σ H1 hi ⟨x2, rfl, rfl, _⟩
      exact SqL.of e1
    · rintro i y σ H1 hy ⟨x2, rfl, rfl, hall⟩
      rw [List.getElem?_map] at hy
      obtain ⟨r, hr2, rfl⟩ := Option.map_eq_some_iff.mp hy
      obtain ⟨kd', ls', ht, er⟩ := e3 i r hr2
      refine ⟨_, rfl, r, _, _, _, rfl, rfl, SqL.of er, at0, _, rfl, rfl, _, rfl, ?_⟩
      refine ite3 (fun c => ?_) fun c => ?_
      · have c := V.str.inj (of_decide_eq_true c)
        subst c
        rw [← tab_first hn ht hm] at k
        exact ⟨_, rfl, r, _, _, _, rfl, rfl, SqL.of er, at1, k⟩
      · have c := of_decide_eq_false c
        refine ⟨_, rfl, rfl, fun j hj t ht2 => ?_⟩
        rcases Nat.lt_or_ge j i with h | h
        · exact hall j h t ht2
        · obtain rfl : j = i := by omega
          rw [ht] at ht2
          cases ht2
          exact fun e => c (congrArg V.str e)
    · rintro σ H1 ⟨x2, rfl, rfl, hall⟩
      obtain ⟨j, hj⟩ := List.getElem?_of_mem hm
      exact absurd rfl (hall j (by rw [List.length_map, e2]; exact (List.getElem?_eq_some_iff.mp hj).1) _ hj)
def spLValues (K : PySem.W.Frag) : Sp := fun vs H Q _ => ∃ (v : V) (x : Fld) (c : Nat), vs = [.str (S [c]), v] ∧ ltr x = c ∧ Dt K H v (fldD x) ∧ c ≠ 97 ∧ c ≠ 98 ∧ (fldVs x).length ≤ 100 ∧ ∀ l H', H l = none → Same H H' → ListAt K H' l ((fldVs x).map valD) → Q (.ref l) H'
theorem ok_lvalues {f : Addr} {fd : FuncData} (F : Fun K "_law_values" "_law_values" s_law_values f fd) (T : Txt K mg) : FnG P w K mg base CX0 1 f fd P_law_values (spLValues K) := by
  refine okG0 F sc_law_values (fun vs H Q E h => ?_) fun cdv A outer s H vs Q E hr hg h => ?_
  · obtain ⟨v, x, c, rfl, _⟩ := h
    rfl
  · obtain ⟨v, x, c, rfl, hc, dv, n1, n2, hl, k⟩ := h
    refine ⟨_, (pss_cons (ps_if (pt_cmpR op_eq (pv 0) pe_str (nomark _))
   (pss_one (ps_ret (pe_lst (pa_cons (pv 1) pa_nil))))
   pss_nil)
  (pss_cons (ps_if (pt_cmpR op_eq (pv 0) pe_str (nomark _))
   (pss_one (ps_ret (pe_callTy call_list_of (by rfl) T.b_list (by decide +kernel) (pa_cons (pv 1) pa_nil))))
   pss_nil)
  (pss_cons (ps_set (i := 2) sc_law_values.nd rfl (Or.inl rfl) (pe_lst pa_nil))
  (pss_cons (ps_if (pt_cmpR op_eq (pv 0) pe_str (nomark _))
   (pss_one (ps_for PassesOwn.never rfl (pi_tup (pv 1)) (pg_name (i := 3) sc_law_values.nd rfl (Or.inl rfl))
   (pss_cons (ps_expr (pe_bm PySem.F.plainAttrs_list PySem.F.slot_list_append PySem.F.type_list_append mt_append (pv 2) (pa_cons (pe_ix ix_tup (pv 3) pe_int (fun _ _ => rfl)) pa_nil)))
  (pss_one (ps_expr (pe_bm PySem.F.plainAttrs_list PySem.F.slot_list_append PySem.F.type_list_append mt_append (pv 2) (pa_cons (pe_ix (ix_tup : IxR _ (rIxT K)) (pv 3) pe_int (fun _ _ => rfl)) pa_nil)))))))
   pss_nil)
  (pss_cons (ps_if (pt_cmpR op_eq (pv 0) pe_str (nomark _))
   (pss_one (ps_setLc (i := 2) (own := [("pair", 3)]) (g := (gName 3)) rfl sc_law_values.nd rfl rfl (sw_true rfl rfl rfl (by decide +kernel)) (pi_tup (pv 1)) (blkOk_by (N := N_law_values) (sc := defScope s_law_values) (by decide +kernel)) (fun _ _ _ _ _ => (pg_name (i := 3) sc_law_values.nd rfl (Or.inl rfl))) (fun _ _ _ _ _ => pts_nil) (fun _ _ _ _ _ => (pe_ix (ix_tup : IxR _ (rIxT K)) (pv 3) pe_int (fun _ _ => rfl)))))
   pss_nil)
  (pss_cons (ps_if (PW.pt (pw_and (pt_cmpR op_eq (pv 0) pe_str (nomark _)) (pw_and1 (pt_cmpR op_eq (pe_callB call_len (by rfl) T.b_len PySem.boot_len (pa_cons (pv 1) pa_nil)) pe_int (nomark _)))))
   (pss_one (ps_expr (pe_bm PySem.F.plainAttrs_list PySem.F.slot_list_append PySem.F.type_list_append mt_append (pv 2) (pa_cons (pe_ix ix_tup (pv 1) pe_int (fun _ _ => rfl)) pa_nil))))
   pss_nil)
  (pss_one (ps_ret (pv 2))))))))), ?_⟩
    cases x with
    | v x =>
      obtain rfl : 118 = c := hc
      refine ⟨_, rfl, rfl, _, rfl, iteTb (by decide +kernel) ?_⟩
      exact ⟨_, rfl, sz_1, fun u hu => k _ _ hu (Same.new hu) (listAt_made hu (.cons dv .nil))⟩
    | V xs =>
      obtain rfl : 86 = c := hc
      refine ⟨_, rfl, rfl, _, rfl, iteFb (by decide +kernel) ?_⟩
      refine ⟨_, rfl, rfl, _, rfl, iteTb (by decide +kernel) ?_⟩
      obtain ⟨q, ws, rfl, hq, ha⟩ := (show Dt K H v (.tuple (xs.map valD)) from dv).tuple_inv
      exact ⟨_, rfl, q, _, rfl, .inr hq, fun l hl => k l _ hl (Same.new hl) (listAt_made hl ha)⟩
    | W ps =>
      obtain rfl : 87 = c := hc
      refine ⟨_, rfl, rfl, _, rfl, iteFb (by decide +kernel) ?_⟩
      refine ⟨_, rfl, rfl, _, rfl, iteFb (by decide +kernel) ?_⟩
      refine ⟨sz_0, fun l hl => ?_⟩
      have S0 := Same.new (o := .lst []) hl
      refine ⟨_, rfl, rfl, _, rfl, iteTb (by decide +kernel) ?_⟩
      obtain ⟨q, ws, rfl, hq, ha⟩ := (show Dt K H v (.tuple (ps.map fun p => .tuple [valD p.1, valD p.2])) from dv).tuple_inv
      have hal := ha.length
      rw [List.length_map] at hal
      have hps : ps.length ≤ 50 := by
        have hl : (ps.flatMap fun p => [p.1, p.2]).length ≤ 100 := by assumption
        rw [fm_len] at hl
        omega
      refine ⟨_, rfl, q, rfl, ⟨_, Same.tupl S0 hq⟩, ?_⟩
      refine for_tup (xs := ws) (fun i σ H1 => ∃ (acc : List V) (x3 : Option V), σ = [some (.str (S [87])), some (.ref q), some (.ref l), x3] ∧ H1 l = some (.lst acc) ∧ DtAll K H1 acc (((ps.take i).flatMap fun p => [p.1, p.2]).map valD) ∧ acc.length = 2 * i ∧ Same H H1) ⟨[], none, rfl, upd_same, .nil, rfl, S0⟩ ?_ ?_ ?_
      · rintro i σ H1 hi ⟨acc, x3, rfl, _, _, _, S1⟩
        exact Same.tupl S1 hq
      · rintro i y σ H1 hy ⟨acc, x3, rfl, e1, a1, l1, S1⟩
        obtain ⟨d, hd, dy⟩ := (DtAll.mono S1 ha).getV hy
        rw [List.getElem?_map] at hd
        obtain ⟨p, hp, rfl⟩ := Option.map_eq_some_iff.mp hd
        obtain ⟨q2, w2, rfl, hq2, ha2⟩ := dy.tuple_inv
        obtain ⟨y0, w3, rfl, d0, h3⟩ := ha2.cons_inv
        obtain ⟨y1, w4, rfl, d1, h4⟩ := h3.cons_inv
        cases h4.nil_inv
        have hi2 : i < ps.length := (List.getElem?_eq_some_iff.mp hp).1
        obtain ⟨g1, g2, g3⟩ := ld_app hl e1 a1 d0 S1
        have kT : KeepT K H1 (upd H1 l (.lst (acc ++ [y0]))) := KeepT.upd e1
        refine ⟨_, rfl, .inl ⟨rfl, _, SqL.of e1⟩, _, rfl, q2, _, _, _, rfl, rfl, hq2, at0, l, _, _, rfl, rfl, e1, Nat.lt_of_le_of_lt (show acc.length ≤ 200 by omega) (by decide), ?_⟩
        obtain ⟨k1, k2, k3⟩ := ld_app hl g1 g2 (d1.keepT kT) g3
        refine ⟨_, rfl, .inl ⟨rfl, _, SqL.of g1⟩, _, rfl, q2, _, _, _, rfl, rfl, kT _ _ hq2, at1, l, _, _, rfl, rfl, g1, Nat.lt_of_le_of_lt (show (acc ++ [y0]).length ≤ 200 by simp; omega) (by decide), ?_⟩
        refine ⟨_, _, rfl, k1, ?_, by simp; omega, k3⟩
        rw [List.take_succ, hp, List.flatMap_append, List.map_append, show ((some p).toList.flatMap fun p : Val × Val => [p.1, p.2]).map valD = [valD p.1] ++ [valD p.2] from rfl, ← List.append_assoc]
        exact k2
      · rintro σ H1 ⟨acc, x3, rfl, e1, a1, l1, S1⟩
        rw [hal, List.take_length] at a1
        refine ⟨_, rfl, rfl, _, rfl, iteFb (by decide +kernel) ?_⟩
        refine ⟨_, rfl, rfl, _, rfl, iteFb (by decide +kernel) ?_⟩
        exact ⟨_, rfl, k l _ hl S1 ⟨acc, e1, a1⟩⟩
    | X ps =>
      obtain rfl : 88 = c := hc
      refine ⟨_, rfl, rfl, _, rfl, iteFb (by decide +kernel) ?_⟩
      refine ⟨_, rfl, rfl, _, rfl, iteFb (by decide +kernel) ?_⟩
      refine ⟨sz_0, fun l hl => ?_⟩
      have S0 := Same.new (o := .lst []) hl
      refine ⟨_, rfl, rfl, _, rfl, iteFb (by decide +kernel) ?_⟩
      refine ⟨_, rfl, rfl, _, rfl, iteTb (by decide +kernel) ?_⟩
      obtain ⟨q, ws, rfl, hq, ha⟩ := (show Dt K H v (.tuple (ps.map fun p => .tuple [.str (tx p.1), valD p.2])) from dv).tuple_inv
      have hal := ha.length
      rw [List.length_map] at hal
      have hps : ps.length ≤ 100 := by
        have hl : (ps.map (·.2)).length ≤ 100 := by assumption
        rwa [List.length_map] at hl
      refine ⟨_, rfl, q, rfl, ⟨_, Same.tupl S0 hq⟩, fun D hD => ?_⟩
      have hD0 : H D = none := by
        cases e : H D with
        | none => rfl
        | some o => rw [S0 _ _ e] at hD; cases hD
      refine lc_it (walk_tup (xs := ws)) (fun i H' => ∃ acc, H' D = some (.lst acc) ∧ DtAll K H' acc (((ps.take i).map (·.2)).map valD) ∧ acc.length = i ∧ Same H H') ⟨[], upd_same, .nil, rfl, S0.trans (Same.new hD)⟩ (fun i H' _ h => let ⟨_, _, _, _, s⟩ := h; Same.tupl s hq) ?_ ?_
      · rintro i x H1 H2 hi ⟨acc, eD, aD, hl2, S1⟩ ⟨rfl, hy⟩
        obtain ⟨d, hd, dx⟩ := (DtAll.mono S1 ha).getV hy
        rw [List.getElem?_map] at hd
        obtain ⟨p, hp, rfl⟩ := Option.map_eq_some_iff.mp hd
        obtain ⟨q2, y, rfl, hq2, hyd⟩ := (show Dt K _ x (.tuple [.str (tx p.1), valD p.2]) from dx).pair
        obtain ⟨g1, g2, g3⟩ := ld_app hD0 eD aD hyd S1
        refine ⟨rfl, tYes_of ?_⟩
        refine ⟨_, rfl, q2, _, _, _, rfl, rfl, hq2, at1, acc, eD, Nat.lt_of_le_of_lt (show acc.length ≤ 200 by omega) (by decide), acc ++ [y], g1, ?_, by simp [hl2], g3⟩
        rw [List.take_succ, hp, List.map_append, List.map_append]
        exact g2
      · rintro H1 ⟨acc, eD, aD, hl2, S1⟩
        rw [hal, List.take_length] at aD
        refine ⟨_, rfl, rfl, _, rfl, iteFb (by decide +kernel) ?_⟩
        exact ⟨_, rfl, k D _ hD0 S1 ⟨acc, eD, aD⟩⟩
    | s2 z x =>
      obtain rfl : 115 = c := hc
      refine ⟨_, rfl, rfl, _, rfl, iteFb (by decide +kernel) ?_⟩
      refine ⟨_, rfl, rfl, _, rfl, iteFb (by decide +kernel) ?_⟩
      refine ⟨sz_0, fun l hl => ?_⟩
      have S0 := Same.new (o := .lst []) hl
      refine ⟨_, rfl, rfl, _, rfl, iteFb (by decide +kernel) ?_⟩
      refine ⟨_, rfl, rfl, _, rfl, iteFb (by decide +kernel) ?_⟩
      refine ⟨_, rfl, rfl, _, rfl, iteTb (by decide +kernel) ?_⟩
      obtain ⟨q, ws, rfl, hq, ha⟩ := (show Dt K H v (.tuple [.str z, valD x]) from dv).tuple_inv
      have hal := ha.length
      refine ⟨_, rfl, _, _, rfl, .inr ⟨_, Same.tupl S0 hq, rfl⟩, rfl, _, rfl, ?_⟩
      rw [hal]
      refine iteTb (decide_eq_true rfl) ?_
      obtain ⟨y0, w3, rfl, d0, h3⟩ := ha.cons_inv
      obtain ⟨y1, w4, rfl, d1, h4⟩ := h3.cons_inv
      cases h4.nil_inv
      obtain ⟨g1, g2, g3⟩ := ld_app (K := K) (acc := []) (ds := []) hl (upd_same (H := H) (a := l) (o := HO.lst [])) .nil (d1.mono S0) S0
      refine ⟨_, rfl, .inl ⟨rfl, _, SqL.of upd_same⟩, _, rfl, q, _, _, _, rfl, rfl, Same.tupl S0 hq, at1, l, _, _, rfl, rfl, upd_same, by decide, ?_⟩
      exact ⟨_, rfl, k l _ hl g3 ⟨_, g1, g2⟩⟩
    | s1 z =>
      obtain rfl : 115 = c := hc
      refine ⟨_, rfl, rfl, _, rfl, iteFb (by decide +kernel) ?_⟩
      refine ⟨_, rfl, rfl, _, rfl, iteFb (by decide +kernel) ?_⟩
      refine ⟨sz_0, fun l hl => ?_⟩
      have S0 := Same.new (o := .lst []) hl
      refine ⟨_, rfl, rfl, _, rfl, iteFb (by decide +kernel) ?_⟩
      refine ⟨_, rfl, rfl, _, rfl, iteFb (by decide +kernel) ?_⟩
      refine ⟨_, rfl, rfl, _, rfl, iteTb (by decide +kernel) ?_⟩
      obtain ⟨q, ws, rfl, hq, ha⟩ := (show Dt K H v (.tuple [.str z]) from dv).tuple_inv
      have hal := ha.length
      refine ⟨_, rfl, _, _, rfl, .inr ⟨_, Same.tupl S0 hq, rfl⟩, rfl, _, rfl, ?_⟩
      rw [hal]
      exact iteFb (decide_eq_false fun e => by cases V.int.inj e) ⟨_, rfl, k l _ hl S0 ⟨[], upd_same, .nil⟩⟩
    | s0 =>
      obtain rfl : 115 = c := hc
      refine ⟨_, rfl, rfl, _, rfl, iteFb (by decide +kernel) ?_⟩
      refine ⟨_, rfl, rfl, _, rfl, iteFb (by decide +kernel) ?_⟩
      refine ⟨sz_0, fun l hl => ?_⟩
      have S0 := Same.new (o := .lst []) hl
      refine ⟨_, rfl, rfl, _, rfl, iteFb (by decide +kernel) ?_⟩
      refine ⟨_, rfl, rfl, _, rfl, iteFb (by decide +kernel) ?_⟩
      refine ⟨_, rfl, rfl, _, rfl, iteTb (by decide +kernel) ?_⟩
      obtain ⟨q, ws, rfl, hq, ha⟩ := (show Dt K H v (.tuple []) from dv).tuple_inv
      have hal := ha.length
      refine ⟨_, rfl, _, _, rfl, .inr ⟨_, Same.tupl S0 hq, rfl⟩, rfl, _, rfl, ?_⟩
      rw [hal]
      exact iteFb (decide_eq_false fun e => by cases V.int.inj e) ⟨_, rfl, k l _ hl S0 ⟨[], upd_same, .nil⟩⟩
    | t d =>
      obtain rfl : 116 = c := hc
      refine ⟨_, rfl, rfl, _, rfl, iteFb (by decide +kernel) ?_⟩
      refine ⟨_, rfl, rfl, _, rfl, iteFb (by decide +kernel) ?_⟩
      refine ⟨sz_0, fun l hl => ?_⟩
      have S0 := Same.new (o := .lst []) hl
      refine ⟨_, rfl, rfl, _, rfl, iteFb (by decide +kernel) ?_⟩
      refine ⟨_, rfl, rfl, _, rfl, iteFb (by decide +kernel) ?_⟩
      refine ⟨_, rfl, rfl, _, rfl, iteFb (by decide +kernel) ?_⟩
      exact ⟨_, rfl, k l _ hl S0 ⟨[], upd_same, .nil⟩⟩
    | n i =>
      obtain rfl : 110 = c := hc
      refine ⟨_, rfl, rfl, _, rfl, iteFb (by decide +kernel) ?_⟩
      refine ⟨_, rfl, rfl, _, rfl, iteFb (by decide +kernel) ?_⟩
      refine ⟨sz_0, fun l hl => ?_⟩
      have S0 := Same.new (o := .lst []) hl
      refine ⟨_, rfl, rfl, _, rfl, iteFb (by decide +kernel) ?_⟩
      refine ⟨_, rfl, rfl, _, rfl, iteFb (by decide +kernel) ?_⟩
      refine ⟨_, rfl, rfl, _, rfl, iteFb (by decide +kernel) ?_⟩
      exact ⟨_, rfl, k l _ hl S0 ⟨[], upd_same, .nil⟩⟩
    | x js =>
      obtain rfl : 120 = c := hc
      refine ⟨_, rfl, rfl, _, rfl, iteFb (by decide +kernel) ?_⟩
      refine ⟨_, rfl, rfl, _, rfl, iteFb (by decide +kernel) ?_⟩
      refine ⟨sz_0, fun l hl => ?_⟩
      have S0 := Same.new (o := .lst []) hl
      refine ⟨_, rfl, rfl, _, rfl, iteFb (by decide +kernel) ?_⟩
      refine ⟨_, rfl, rfl, _, rfl, iteFb (by decide +kernel) ?_⟩
      refine ⟨_, rfl, rfl, _, rfl, iteFb (by decide +kernel) ?_⟩
      exact ⟨_, rfl, k l _ hl S0 ⟨[], upd_same, .nil⟩⟩
    | a k => exact absurd hc.symm n1
    | b k => exact absurd hc.symm n2
--SPLIT
def spLRefs0 (K : PySem.W.Frag) : Sp := fun vs H Q _ => ∃ (tl : Addr) (v : V) (tab : Tab) (kd : Str) (fs : List Fld), vs = [.ref tl, v] ∧ TabAt H tl tab ∧ (tab.map (·.1)).Nodup ∧ TabOk flds tab ∧ Dt K H v (.tuple (.str kd :: fs.map fldD)) ∧ (kd, fs.map ltr) ∈ tab ∧ (∀ x ∈ fs, FldN x) ∧
  ∀ l H', H l = none → Same H H' → H' l = some (.lst ((fs.flatMap fldR).map V.int)) → Q (.ref l) H'
theorem atS {ls : List Nat} {i c : Nat} (h : ls[i]? = some c) : (S ls).cps[i]? = some c := by simpa [S] using h
theorem take_len (fs : List Fld) (hN : ∀ x ∈ fs, FldN x) (n : Nat) (hn : n ≤ fs.length) : ((fs.take n).flatMap fldR).length ≤ 10 * n := by
  have := fr_len2 (fs.take n) fun x hx => hN x (List.mem_of_mem_take hx)
  rw [List.length_take] at this
  omega
theorem same_none {H H' : Hp} {q : Addr} (S1 : Same H H') (h : H' q = none) : H q = none := by
  cases e : H q with
  | none => rfl
  | some o => rw [S1 _ _ e] at h; cases h
theorem notC : ∀ c ∈ flds, ∀ d : Nat, d = 97 ∨ d = 98 → c ≠ d → decide (V.str (S [c]) = V.str (S [d])) = false := by
  intro c _ d _ h
  refine decide_eq_false fun e => h ?_
  have := V.str.inj e
  simpa [S] using this
theorem ok_lrefs0 {f : Addr} {fd : FuncData} (F : Fun K "_law_refs" "_law_refs" s_law_refs f fd) (T : Txt K mg) (U_law_letters : Use P w K mg base CX0 "_law_letters" 1 P_law_letters (spLetters K)) (U_law_values : Use P w K mg base CX0 "_law_values" 1 P_law_values (spLValues K)) : FnG P w K mg base CX0 2 f fd P_law_refs (spLRefs0 K) := by
  refine okG0 F sc_law_refs (fun vs H Q E h => ?_) fun cdv A outer s H vs Q E hr hg h => ?_
  · obtain ⟨tl, v, tab, kd, fs, rfl, _⟩ := h
    rfl
  · obtain ⟨tl, v, tab, kd, fs, rfl, hT, hnd, hok, dv, hm, hN, k⟩ := h
    refine ⟨_, (pss_cons (ps_set (i := 2) sc_law_refs.nd rfl (Or.inl rfl) (pe_use U_law_letters (hr.mono (by decide)) hg rfl (pa_cons (pv 0) (pa_cons (pe_ix ix_tup (pv 1) pe_int (fun _ _ => rfl)) pa_nil))))
  (pss_cons (ps_set (i := 3) sc_law_refs.nd rfl (Or.inl rfl) (pe_lst pa_nil))
  (pss_cons (ps_for PassesOwn.never rfl (pi_range1 (by rfl) T.b_range (pa_cons (pe_callB call_len (by rfl) T.b_len PySem.boot_len (pa_cons (pv 2) pa_nil)) pa_nil)) (pg_name (i := 4) sc_law_refs.nd rfl (Or.inl rfl))
   (pss_cons (ps_set (i := 5) sc_law_refs.nd rfl (Or.inl rfl) (pe_ix ix_tup (pv 1) (pe_op op_add (pv 4) pe_int) (fun _ _ => rfl)))
  (pss_one (ps_if (pt_cmpR op_eq (pe_ix ix_str (pv 2) (pv 4) (fun _ _ => rfl)) pe_str (nomark _))
   (pss_one (ps_expr (pe_bm PySem.F.plainAttrs_list PySem.F.slot_list_append PySem.F.type_list_append mt_append (pv 3) (pa_cons (pv 5) pa_nil))))
   (pss_one (ps_if (pt_cmpR op_eq (pe_ix ix_str (pv 2) (pv 4) (fun _ _ => rfl)) pe_str (nomark _))
   (pss_one (ps_set (i := 3) sc_law_refs.nd rfl (Or.inl rfl) (pe_op op_cat (pv 3) (pe_op op_rep (pe_lst (pa_cons (pv 5) pa_nil)) (pe_callTy call_int1 (by rfl) T.b_int (by decide +kernel) (pa_cons (pe_cmpR op_ge (pv 5) pe_int (nomark _)) pa_nil))))))
   (pss_one (ps_if (pt_cmpR op_eq (pe_ix ix_str (pv 2) (pv 4) (fun _ _ => rfl)) pe_str (nomark _))
   pss_never
   (pss_one (ps_set (i := 3) sc_law_refs.nd rfl (Or.inl rfl) (pe_op op_cat (pv 3) (pe_lc (own := [("value", 7)]) (g := (gName 7)) rfl sc_law_refs.nd (pi_list (pe_use U_law_values (hr.mono (by decide)) hg rfl (pa_cons (pe_ix ix_str (pv 2) (pv 4) (fun _ _ => rfl)) (pa_cons (pv 5) pa_nil)))) (blkOk_by (N := N_law_refs) (sc := defScope s_law_refs) (by decide +kernel)) (fun _ _ _ _ _ => (pg_name (i := 7) sc_law_refs.nd rfl (Or.inl rfl))) (fun _ _ _ _ _ => (pts_one (pt_cmpR op_eq (pe_ix (ix_tup : IxR _ (rIxT K)) (pv 7) pe_int (fun _ _ => rfl)) pe_str (nomark _)))) (fun _ _ _ _ _ => (pe_ix (ix_tup : IxR _ (rIxT K)) (pv 7) pe_int (fun _ _ => rfl)))))))))))))))
  (pss_one (ps_ret (pv 3)))))), ?_⟩
    obtain ⟨q0, ws, rfl, hq0, ha⟩ := dv.head
    have hal := ha.length
    rw [List.length_map] at hal
    obtain ⟨o1, o2⟩ := hok _ hm
    generalize hls : fs.map ltr = ls at hm o1 o2
    have hfsl : fs.length = ls.length := by rw [← hls, List.length_map]
    refine ⟨_, rfl, _, rfl, q0, _, _, _, rfl, rfl, hq0, at0, tl, tab, kd, ls, rfl, hT, hm, hnd, ?_⟩
    refine ⟨sz_0, fun l0 hl0 => ?_⟩
    have S0 := Same.new (o := .lst []) hl0
    have hll : (S ls).length = ls.length := by simp [Str.length, S]
    refine ⟨_, rfl, _, _, rfl, ⟨by rw [hll]; exact Nat.le_trans o2 (by decide), rfl⟩, ?_⟩
    have o3 : ls.length ≤ 10 := o2
    refine ⟨_, rfl, by omega, by rw [hll]; omega, ?_⟩
    rw [Int.toNat_natCast, hll]
    refine for_range (lo := 0) (n := ls.length) (fun i σ H5 => ∃ (l : Addr) (x4 x5 : Option V), σ = [some (.ref tl), some (.ref q0), some (.str (S ls)), some (.ref l), x4, x5, none, none] ∧ H l = none ∧ H5 l = some (.lst (((fs.take i).flatMap fldR).map V.int)) ∧ Same H H5) ⟨l0, none, none, rfl, hl0, upd_same, S0⟩ ?_ ?_
    · rintro i σ H5 hi ⟨l, x4, x5, rfl, hl, e5, S5⟩
      have hif : i < fs.length := by omega
      have hx : fs[i]? = some fs[i] := List.getElem?_eq_getElem hif
      have hNx := hN _ (List.getElem_mem hif)
      generalize fs[i] = x at hx hNx
      have hlc : ls[i]? = some (ltr x) := by rw [← hls, List.getElem?_map, hx]; rfl
      have hcm := o1 _ (List.mem_of_getElem? hlc)
      have q5 := Same.tupl S5 hq0
      obtain ⟨a2, ea2, dx0⟩ := ha.get (show (fs.map fldD)[i]? = some (fldD x) by rw [List.getElem?_map, hx]; rfl)
      have dx := dx0.mono S5
      have hat : atI (V.str kd :: ws) (0 + (i : Int) + 1) = some a2 := at_of' (j := i + 1) (by omega) ea2
      have hlen : ((fs.take i).flatMap fldR).length ≤ 10 * i := take_len fs hN i (by omega)
      have htk : ((fs.take (i + 1)).flatMap fldR).map V.int = ((fs.take i).flatMap fldR).map V.int ++ (fldR x).map V.int := by
        rw [List.take_succ, hx, List.flatMap_append, List.map_append]
        simp
      refine ⟨_, rfl, _, rfl, _, _, rfl, rfl, q0, _, _, _, rfl, rfl, q5, hat, ?_⟩
      have fin : ∀ (H7 : Hp) (q : Addr) (zs : List V), H7 q = none → Same H H7 → zs = (fldR x).map V.int → ∃ (l : Addr) (x4 x5 : Option V), ([some (.ref tl), some (.ref q0), some (.str (S ls)), some (.ref q), some (.int (0 + (i : Int))), some a2, none, none] : L2.St) = [some (.ref tl), some (.ref q0), some (.str (S ls)), some (.ref l), x4, x5, none, none] ∧ H l = none ∧ upd H7 q (.lst (((fs.take i).flatMap fldR).map V.int ++ zs)) l = some (.lst (((fs.take (i + 1)).flatMap fldR).map V.int)) ∧ Same H (upd H7 q (.lst (((fs.take i).flatMap fldR).map V.int ++ zs))) := fun H7 q zs hq S7 ez =>
        ⟨q, _, _, rfl, same_none S7 hq, by rw [upd_same, htk, ez], S7.trans (Same.new hq)⟩
      have hxS : ∀ (Q : VK) (H : Hp), Q (.str (S [ltr x])) H → rIxS (.str (S ls)) (.int (0 + (i : Int))) H Q := fun Q H h => ⟨_, _, ltr x, rfl, rfl, by rw [hll]; exact Nat.le_trans o2 (by decide), at_of' (j := i) (by omega) (by simpa [S] using hlc), h⟩
      by_cases n1 : ltr x = 97
      · cases x with
        | a n =>
          cases dx.int_inv
          refine ⟨_, rfl, _, rfl, hxS _ _ ⟨rfl, _, rfl, iteTb (show decide (V.str (S [97]) = V.str "a") = true by decide +kernel) ?_⟩⟩
          refine ⟨_, rfl, .inl ⟨rfl, _, SqL.of e5⟩, _, rfl, l, _, _, rfl, rfl, e5, by rw [List.length_map]; exact Nat.lt_of_le_of_lt (Nat.le_trans hlen (show 10 * i ≤ 100 by omega)) (by decide), ?_⟩
          refine ⟨l, _, _, rfl, hl, by rw [upd_same, htk]; rfl, fun b o hb => by rw [upd_ne (ne_of_none hb hl)]; exact S5 b o hb⟩
        | _ => first | (cases n1; done)
      refine ⟨_, rfl, _, rfl, hxS _ _ ⟨rfl, _, rfl, iteFb (notC _ hcm _ (by decide) n1) ?_⟩⟩
      by_cases n2 : ltr x = 98
      · cases x with
        | b n =>
          cases dx.int_inv
          refine ⟨_, rfl, _, rfl, hxS _ _ ⟨rfl, _, rfl, iteTb (show decide (V.str (S [98]) = V.str "b") = true by decide +kernel) ?_⟩⟩
          refine ⟨_, rfl, _, rfl, sz_1, fun u hu => ⟨_, rfl, _, _, rfl, rfl, .inr ⟨_, rfl, u, _, _, rfl, rfl, upd_same, ?_⟩⟩⟩
          have S6 := Same.new (o := .lst [V.int n]) hu
          have hk : (if decide (0 ≤ n) = true then (1 : Int) else 0) = if 0 ≤ n then 1 else 0 := by split <;> simp_all
          rw [hk]
          refine ⟨by split <;> omega, by split <;> omega, by split <;> exact Nat.le_trans (show 1 * _ ≤ 1 by decide) (by decide), fun p hp => ?_⟩
          have S7 := S6.trans (Same.new (o := .lst (List.replicate (if 0 ≤ n then (1 : Int) else 0).toNat [V.int n]).flatten) hp)
          have ez : (List.replicate (if 0 ≤ n then (1 : Int) else 0).toNat [V.int n]).flatten = (fldR (.b n)).map V.int := by
            show _ = (if 0 ≤ n then [n] else []).map V.int
            split <;> rfl
          refine ⟨l, p, _, _, rfl, rfl, S7 _ _ e5, upd_same, ?_, fun q hq => fin _ q _ hq (S5.trans S7) ez⟩
          rw [ez, List.length_map, List.length_map]
          have : (fldR (.b n)).length ≤ 10 := hNx.len
          exact Nat.le_trans (show _ ≤ 200 by omega) (by decide)
        | _ => first | (cases n2; done)
      refine ⟨_, rfl, _, rfl, hxS _ _ ⟨rfl, _, rfl, iteFb (notC _ hcm _ (by decide) n2) ?_⟩⟩
      refine ⟨_, rfl, _, rfl, hxS _ _ ⟨rfl, _, rfl, iteFb (noF _ hcm) ?_⟩⟩
      refine ⟨_, rfl, _, rfl, _, rfl, hxS _ _ ⟨_, rfl, a2, x, ltr x, rfl, rfl, dx, n1, n2, Nat.le_trans hNx (by decide), fun lv H8 hlv S8 L8 => ?_⟩⟩
      obtain ⟨xs, e8, ha8⟩ := L8
      have hxl := ha8.length
      rw [List.length_map] at hxl
      refine ⟨lv, rfl, ⟨_, SqL.of e8⟩, fun D hD => ?_⟩
      refine lc_it (walk_list (xs := xs)) (fun j H' => H' D = some (.lst ((((fldVs x).take j).flatMap valR).map V.int)) ∧ Same H8 H') ⟨upd_same, Same.new hD⟩ (fun j H' _ h => SqL.of (h.2 _ _ e8)) ?_ ?_
      · rintro j y H9 H10 hj ⟨eD, S9⟩ ⟨rfl, hy⟩
        obtain ⟨d, hd, dy⟩ := (DtAll.mono S9 ha8).getV hy
        rw [List.getElem?_map] at hd
        obtain ⟨vx, hvx, rfl⟩ := Option.map_eq_some_iff.mp hd
        have hja : (((fldVs x).take j).flatMap valR).length ≤ 10 := Nat.le_trans (valR_len _) (by rw [List.length_take]; exact Nat.le_trans (Nat.min_le_right _ _) hNx)
        have htj : (((fldVs x).take (j + 1)).flatMap valR).map V.int = (((fldVs x).take j).flatMap valR).map V.int ++ (valR vx).map V.int := by
          rw [List.take_succ, hvx, List.flatMap_append, List.map_append]
          simp
        refine ⟨rfl, ?_⟩
        obtain ⟨kv, rv, ev, hkv⟩ := valD_hd vx
        rw [ev] at dy
        obtain ⟨qy, wy, rfl, hqy, hwy⟩ := dy.head
        refine ⟨_, rfl, qy, _, _, _, rfl, rfl, hqy, at0, rfl, _, rfl, ?_⟩
        rcases hkv with ⟨hne, hnil⟩ | ⟨rfl, n, rfl, rfl⟩
        · refine iteFb (decide_eq_false fun e => hne (V.str.inj e)) ⟨?_, S9⟩
          rw [htj, hnil, List.map_nil, List.append_nil]
          exact eD
        · refine iteTb (decide_eq_true rfl) ?_
          obtain ⟨y1, w1, rfl, d1, hw1⟩ := hwy.cons_inv
          cases hw1.nil_inv
          cases d1.int_inv
          refine ⟨_, rfl, qy, _, _, _, rfl, rfl, hqy, at1, _, eD, by rw [List.length_map]; exact Nat.lt_of_le_of_lt hja (by decide), ?_, fun b o hb => by rw [upd_ne (ne_of_none hb hD)]; exact S9 _ _ hb⟩
          rw [upd_same, htj]
          rfl
      · rintro H9 ⟨eD, S9⟩
        have hw : (fldVs x).take xs.length = fldVs x := by rw [hxl]; exact List.take_length
        rw [hw] at eD
        have S10 := S8.trans S9
        have e9 := S10 _ _ e5
        have hz1 : ((((fs.take i).flatMap fldR).map V.int).length + (((fldVs x).flatMap valR).map V.int).length) ≤ sizeLine := by
          rw [List.length_map, List.length_map]
          have := valR_len (fldVs x)
          have hNx' : (fldVs x).length ≤ 10 := hNx
          exact Nat.le_trans (show _ ≤ 200 by omega) (by decide)
        exact ⟨l, D, _, _, rfl, rfl, e9, eD, hz1, fun q hq => fin H9 q _ hq (S5.trans S10) (by rw [fldR_vs n1 n2])⟩
    · rintro σ H5 ⟨l, x4, x5, rfl, hl, e5, S5⟩
      rw [← hfsl, List.take_length] at e5
      exact ⟨_, rfl, k l H5 hl S5 e5⟩
--SPLIT
theorem take_len2 (fs : List Fl2) (hN : ∀ x ∈ fs, Fl2N x) (n : Nat) (hn : n ≤ fs.length) : ((fs.take n).flatMap fl2R).length ≤ 200 * n := by
  revert hn
  induction n with
  | zero => intro _; simp
  | succ n ih =>
    intro h
    have hg : fs[n]? = some fs[n] := List.getElem?_eq_getElem (by omega)
    rw [List.take_succ, hg, List.flatMap_append, List.length_append, show (some fs[n]).toList.flatMap fl2R = fl2R fs[n] by simp]
    have h1 := (hN _ (List.getElem_mem (show n < fs.length by omega))).len
    have h2 := ih (by omega)
    omega
theorem frTab_nd : (frTab.map (·.1)).Nodup := by decide +kernel
def spLRefs (K : PySem.W.Frag) : Sp := fun vs H Q _ => ∃ (tl : Addr) (v : V) (tab : Tab) (kd : Str) (fs : List Fl2), vs = [.ref tl, v] ∧ TabAt H tl tab ∧ (tab.map (·.1)).Nodup ∧ TabOk (70 :: flds) tab ∧ Dt K H v (.tuple (.str kd :: fs.map fl2D)) ∧ (kd, fs.map ltr2) ∈ tab ∧ (∀ x ∈ fs, Fl2N x) ∧
  ∀ l H', H l = none → Same H H' → H' l = some (.lst ((fs.flatMap fl2R).map V.int)) → Q (.ref l) H'
theorem ok_lrefs {f : Addr} {fd : FuncData} (F : Fun K "_law_refs" "_law_refs" s_law_refs f fd) (T : Txt K mg) (U_law_letters : Use P w K mg base CX0 "_law_letters" 1 P_law_letters (spLetters K)) (U_law_values : Use P w K mg base CX0 "_law_values" 1 P_law_values (spLValues K)) (U_law_frames : Use P w K mg base CX0 "_law_frames" 1 P_law_frames (spTab frTab)) (U_law_refs : Use P w K mg base CX0 "_law_refs" 2 P_law_refs (spLRefs0 K)) : FnG P w K mg base CX0 3 f fd P_law_refs (spLRefs K) := by
  refine okG0 F sc_law_refs (fun vs H Q E h => ?_) fun cdv A outer s H vs Q E hr hg h => ?_
  · obtain ⟨tl, v, tab, kd, fs, rfl, _⟩ := h
    rfl
  · obtain ⟨tl, v, tab, kd, fs, rfl, hT, hnd, hok, dv, hm, hN, k⟩ := h
    refine ⟨_, (pss_cons (ps_set (i := 2) sc_law_refs.nd rfl (Or.inl rfl) (pe_use U_law_letters (hr.mono (by decide)) hg rfl (pa_cons (pv 0) (pa_cons (pe_ix ix_tup (pv 1) pe_int (fun _ _ => rfl)) pa_nil))))
  (pss_cons (ps_set (i := 3) sc_law_refs.nd rfl (Or.inl rfl) (pe_lst pa_nil))
  (pss_cons (ps_for PassesOwn.never rfl (pi_range1 (by rfl) T.b_range (pa_cons (pe_callB call_len (by rfl) T.b_len PySem.boot_len (pa_cons (pv 2) pa_nil)) pa_nil)) (pg_name (i := 4) sc_law_refs.nd rfl (Or.inl rfl))
   (pss_cons (ps_set (i := 5) sc_law_refs.nd rfl (Or.inl rfl) (pe_ix ix_tup (pv 1) (pe_op op_add (pv 4) pe_int) (fun _ _ => rfl)))
  (pss_one (ps_if (pt_cmpR op_eq (pe_ix ix_str (pv 2) (pv 4) (fun _ _ => rfl)) pe_str (nomark _))
   (pss_one (ps_expr (pe_bm PySem.F.plainAttrs_list PySem.F.slot_list_append PySem.F.type_list_append mt_append (pv 3) (pa_cons (pv 5) pa_nil))))
   (pss_one (ps_if (pt_cmpR op_eq (pe_ix ix_str (pv 2) (pv 4) (fun _ _ => rfl)) pe_str (nomark _))
   (pss_one (ps_set (i := 3) sc_law_refs.nd rfl (Or.inl rfl) (pe_op op_cat (pv 3) (pe_op op_rep (pe_lst (pa_cons (pv 5) pa_nil)) (pe_callTy call_int1 (by rfl) T.b_int (by decide +kernel) (pa_cons (pe_cmpR op_ge (pv 5) pe_int (nomark _)) pa_nil))))))
   (pss_one (ps_if (pt_cmpR op_eq (pe_ix ix_str (pv 2) (pv 4) (fun _ _ => rfl)) pe_str (nomark _))
   (pss_one (ps_for PassesOwn.never rfl (pi_tup (pv 5)) (pg_name (i := 6) sc_law_refs.nd rfl (Or.inl rfl))
   (pss_one (ps_set (i := 3) sc_law_refs.nd rfl (Or.inl rfl) (pe_op op_cat (pv 3) (pe_use U_law_refs (hr.mono (by decide)) hg rfl (pa_cons (pe_use0 U_law_frames (hr.mono (by decide)) hg rfl) (pa_cons (pv 6) pa_nil))))))))
   (pss_one (ps_set (i := 3) sc_law_refs.nd rfl (Or.inl rfl) (pe_op op_cat (pv 3) (pe_lc (own := [("value", 7)]) (g := (gName 7)) rfl sc_law_refs.nd (pi_list (pe_use U_law_values (hr.mono (by decide)) hg rfl (pa_cons (pe_ix ix_str (pv 2) (pv 4) (fun _ _ => rfl)) (pa_cons (pv 5) pa_nil)))) (blkOk_by (N := N_law_refs) (sc := defScope s_law_refs) (by decide +kernel)) (fun _ _ _ _ _ => (pg_name (i := 7) sc_law_refs.nd rfl (Or.inl rfl))) (fun _ _ _ _ _ => (pts_one (pt_cmpR op_eq (pe_ix (ix_tup : IxR _ (rIxT K)) (pv 7) pe_int (fun _ _ => rfl)) pe_str (nomark _)))) (fun _ _ _ _ _ => (pe_ix (ix_tup : IxR _ (rIxT K)) (pv 7) pe_int (fun _ _ => rfl)))))))))))))))
  (pss_one (ps_ret (pv 3)))))), ?_⟩
    obtain ⟨q0, ws, rfl, hq0, ha⟩ := dv.head
    have hal := ha.length
    rw [List.length_map] at hal
    obtain ⟨o1, o2⟩ := hok _ hm
    generalize hls : fs.map ltr2 = ls at hm o1 o2
    have hfsl : fs.length = ls.length := by rw [← hls, List.length_map]
    refine ⟨_, rfl, _, rfl, q0, _, _, _, rfl, rfl, hq0, at0, tl, tab, kd, ls, rfl, hT, hm, hnd, ?_⟩
    refine ⟨sz_0, fun l0 hl0 => ?_⟩
    have S0 := Same.new (o := .lst []) hl0
    have hll : (S ls).length = ls.length := by simp [Str.length, S]
    refine ⟨_, rfl, _, _, rfl, ⟨by rw [hll]; exact Nat.le_trans o2 (by decide), rfl⟩, ?_⟩
    have o3 : ls.length ≤ 10 := o2
    refine ⟨_, rfl, by omega, by rw [hll]; omega, ?_⟩
    rw [Int.toNat_natCast, hll]
    refine for_range (lo := 0) (n := ls.length) (fun i σ H5 => ∃ (l : Addr) (x4 x5 x6 : Option V), σ = [some (.ref tl), some (.ref q0), some (.str (S ls)), some (.ref l), x4, x5, x6, none] ∧ H l = none ∧ H5 l = some (.lst (((fs.take i).flatMap fl2R).map V.int)) ∧ Same H H5) ⟨l0, none, none, none, rfl, hl0, upd_same, S0⟩ ?_ ?_
    · rintro i σ H5 hi ⟨l, x4, x5, x6, rfl, hl, e5, S5⟩
      have hif : i < fs.length := by omega
      have hx : fs[i]? = some fs[i] := List.getElem?_eq_getElem hif
      have hNx := hN _ (List.getElem_mem hif)
      generalize fs[i] = x at hx hNx
      have hlc : ls[i]? = some (ltr2 x) := by rw [← hls, List.getElem?_map, hx]; rfl
      have hcm := o1 _ (List.mem_of_getElem? hlc)
      have q5 := Same.tupl S5 hq0
      obtain ⟨a2, ea2, dx0⟩ := ha.get (show (fs.map fl2D)[i]? = some (fl2D x) by rw [List.getElem?_map, hx]; rfl)
      have dx := dx0.mono S5
      have hat : atI (V.str kd :: ws) (0 + (i : Int) + 1) = some a2 := at_of' (j := i + 1) (by omega) ea2
      have hlen : ((fs.take i).flatMap fl2R).length ≤ 200 * i := take_len2 fs hN i (by omega)
      have htk : ((fs.take (i + 1)).flatMap fl2R).map V.int = ((fs.take i).flatMap fl2R).map V.int ++ (fl2R x).map V.int := by
        rw [List.take_succ, hx, List.flatMap_append, List.map_append]
        simp
      refine ⟨_, rfl, _, rfl, _, _, rfl, rfl, q0, _, _, _, rfl, rfl, q5, hat, ?_⟩
      have fin : ∀ (H7 : Hp) (q : Addr) (zs : List V), H7 q = none → Same H H7 → zs = (fl2R x).map V.int → ∃ (l : Addr) (x4 x5 x6' : Option V), ([some (.ref tl), some (.ref q0), some (.str (S ls)), some (.ref q), some (.int (0 + (i : Int))), some a2, x6, none] : L2.St) = [some (.ref tl), some (.ref q0), some (.str (S ls)), some (.ref l), x4, x5, x6', none] ∧ H l = none ∧ upd H7 q (.lst (((fs.take i).flatMap fl2R).map V.int ++ zs)) l = some (.lst (((fs.take (i + 1)).flatMap fl2R).map V.int)) ∧ Same H (upd H7 q (.lst (((fs.take i).flatMap fl2R).map V.int ++ zs))) := fun H7 q zs hq S7 ez =>
        ⟨q, _, _, _, rfl, same_none S7 hq, by rw [upd_same, htk, ez], S7.trans (Same.new hq)⟩
      have hxS : ∀ (Q : VK) (H : Hp), Q (.str (S [ltr2 x])) H → rIxS (.str (S ls)) (.int (0 + (i : Int))) H Q := fun Q H h => ⟨_, _, ltr2 x, rfl, rfl, by rw [hll]; exact Nat.le_trans o2 (by decide), at_of' (j := i) (by omega) (by simpa [S] using hlc), h⟩
      cases x with
      | fr fl =>
        refine ⟨_, rfl, _, rfl, hxS _ _ ⟨rfl, _, rfl, iteFb (show decide (V.str (S [70]) = V.str "a") = false by decide +kernel) ?_⟩⟩
        refine ⟨_, rfl, _, rfl, hxS _ _ ⟨rfl, _, rfl, iteFb (show decide (V.str (S [70]) = V.str "b") = false by decide +kernel) ?_⟩⟩
        refine ⟨_, rfl, _, rfl, hxS _ _ ⟨rfl, _, rfl, iteTb (show decide (V.str (S [70]) = V.str "F") = true by decide +kernel) ?_⟩⟩
        obtain ⟨qf, xsf, rfl, hqf, haf⟩ := (show Dt K _ a2 (.tuple (fl.map frD)) from dx).tuple_inv
        have hfl2 := haf.length
        rw [List.length_map] at hfl2
        obtain ⟨hl2, hfr⟩ : fl.length ≤ 2 ∧ ∀ f ∈ fl, (f.kd, f.fs.map ltr) ∈ frTab ∧ ∀ x ∈ f.fs, FldN x := hNx
        refine ⟨_, rfl, qf, rfl, ⟨_, hqf⟩, ?_⟩
        refine for_tup (xs := xsf) (fun j σ H7 => ∃ (l : Addr) (x6 : Option V), σ = [some (.ref tl), some (.ref q0), some (.str (S ls)), some (.ref l), some (.int (0 + (i : Int))), some (.ref qf), x6, none] ∧ H l = none ∧ H7 l = some (.lst (((fs.take i).flatMap fl2R ++ (fl.take j).flatMap frR).map V.int)) ∧ Same H5 H7) ⟨l, x6, rfl, hl, by rw [List.take_zero]; show _ = some (HO.lst ((_ ++ []).map V.int)); rw [List.append_nil]; exact e5, fun _ _ h => h⟩ ?_ ?_ ?_
        · rintro j σ H7 hj ⟨l, x6, rfl, hl, e7, S7⟩
          exact Same.tupl S7 hqf
        · rintro j y σ H7 hy ⟨l, x6, rfl, hl, e7, S7⟩
          obtain ⟨d, hd, dy⟩ := (haf.mono S7).getV hy
          rw [List.getElem?_map] at hd
          obtain ⟨g, hg2, rfl⟩ := Option.map_eq_some_iff.mp hd
          obtain ⟨hm, hgN⟩ := hfr g (List.mem_of_getElem? hg2)
          have hgl : (frR g).length ≤ 100 := by
            have h10 := (frTab_ok _ hm).2
            rw [List.length_map] at h10
            exact Nat.le_trans (fr_len2 g.fs hgN) (by omega)
          refine ⟨_, rfl, rfl, fun tl2 H8 S8 T8 => ?_⟩
          refine ⟨_, rfl, tl2, y, frTab, g.kd, g.fs, rfl, T8, frTab_nd, frTab_ok, dy.mono S8, hm, hgN, fun l2 H9 hl9 S9 e9 => ?_⟩
          have hj2 : j < fl.length := by
            have := (List.getElem?_eq_some_iff.mp hy).1
            omega
          have hln : ((fs.take i).flatMap fl2R ++ (fl.take j).flatMap frR).length ≤ 3000 := by
            rw [List.length_append]
            have h2 : ((fl.take j).flatMap frR).length ≤ 200 := frs_len fl hl2 hfr j
            omega
          have S89 := S8.trans S9
          refine ⟨l, l2, _, _, rfl, rfl, S89 _ _ e7, e9, by rw [List.length_map, List.length_map]; exact Nat.le_trans (Nat.add_le_add hln hgl) (by decide), fun q hq => ?_⟩
          refine ⟨q, _, rfl, same_none ((S5.trans S7).trans S89) hq, ?_, (S7.trans S89).trans (Same.new hq)⟩
          rw [upd_same, List.take_succ, hg2, List.flatMap_append, ← List.append_assoc, List.map_append (l₂ := (some g).toList.flatMap frR)]
          simp [frR]
        · rintro σ H7 ⟨l, x6, rfl, hl, e7, S7⟩
          refine ⟨l, _, _, _, rfl, hl, ?_, S5.trans S7⟩
          rw [hfl2, List.take_length] at e7
          rw [htk, ← List.map_append]
          exact e7
      | one x =>
        have hcm : ltr x ∈ flds := ltr_in x
        have hNx : FldN x := hNx
        have htk : ((fs.take (i + 1)).flatMap fl2R).map V.int = ((fs.take i).flatMap fl2R).map V.int ++ (fldR x).map V.int := htk
        have hxS : ∀ (Q : VK) (H : Hp), Q (.str (S [ltr x])) H → rIxS (.str (S ls)) (.int (0 + (i : Int))) H Q := hxS
        have dx : Dt K _ a2 (fldD x) := dx
        have fin := fun H7 q zs hq S7 (ez : zs = (fldR x).map V.int) => fin H7 q zs hq S7 ez
        by_cases n1 : ltr x = 97
        · cases x with
          | a n =>
            cases dx.int_inv
            refine ⟨_, rfl, _, rfl, hxS _ _ ⟨rfl, _, rfl, iteTb (show decide (V.str (S [97]) = V.str "a") = true by decide +kernel) ?_⟩⟩
            refine ⟨_, rfl, .inl ⟨rfl, _, SqL.of e5⟩, _, rfl, l, _, _, rfl, rfl, e5, by rw [List.length_map]; exact Nat.lt_of_le_of_lt (Nat.le_trans hlen (show 200 * i ≤ 2000 by omega)) (by decide), ?_⟩
            refine ⟨l, _, _, _, rfl, hl, by rw [upd_same, htk]; rfl, fun b o hb => by rw [upd_ne (ne_of_none hb hl)]; exact S5 b o hb⟩
          | _ => first | (cases n1; done)
        refine ⟨_, rfl, _, rfl, hxS _ _ ⟨rfl, _, rfl, iteFb (notC _ hcm _ (by decide) n1) ?_⟩⟩
        by_cases n2 : ltr x = 98
        · cases x with
          | b n =>
            cases dx.int_inv
            refine ⟨_, rfl, _, rfl, hxS _ _ ⟨rfl, _, rfl, iteTb (show decide (V.str (S [98]) = V.str "b") = true by decide +kernel) ?_⟩⟩
            refine ⟨_, rfl, _, rfl, sz_1, fun u hu => ⟨_, rfl, _, _, rfl, rfl, .inr ⟨_, rfl, u, _, _, rfl, rfl, upd_same, ?_⟩⟩⟩
            have S6 := Same.new (o := .lst [V.int n]) hu
            have hk : (if decide (0 ≤ n) = true then (1 : Int) else 0) = if 0 ≤ n then 1 else 0 := by split <;> simp_all
            rw [hk]
            refine ⟨by split <;> omega, by split <;> omega, by split <;> exact Nat.le_trans (show 1 * _ ≤ 1 by decide) (by decide), fun p hp => ?_⟩
            have S7 := S6.trans (Same.new (o := .lst (List.replicate (if 0 ≤ n then (1 : Int) else 0).toNat [V.int n]).flatten) hp)
            have ez : (List.replicate (if 0 ≤ n then (1 : Int) else 0).toNat [V.int n]).flatten = (fldR (.b n)).map V.int := by
              show _ = (if 0 ≤ n then [n] else []).map V.int
              split <;> rfl
            refine ⟨l, p, _, _, rfl, rfl, S7 _ _ e5, upd_same, ?_, fun q hq => fin _ q _ hq (S5.trans S7) ez⟩
            rw [ez, List.length_map, List.length_map]
            have : (fldR (.b n)).length ≤ 10 := hNx.len
            exact Nat.le_trans (show _ ≤ 3000 by omega) (by decide)
          | _ => first | (cases n2; done)
        refine ⟨_, rfl, _, rfl, hxS _ _ ⟨rfl, _, rfl, iteFb (notC _ hcm _ (by decide) n2) ?_⟩⟩
        refine ⟨_, rfl, _, rfl, hxS _ _ ⟨rfl, _, rfl, iteFb (noF _ hcm) ?_⟩⟩
        refine ⟨_, rfl, _, rfl, _, rfl, hxS _ _ ⟨_, rfl, a2, x, ltr x, rfl, rfl, dx, n1, n2, Nat.le_trans hNx (by decide), fun lv H8 hlv S8 L8 => ?_⟩⟩
        obtain ⟨xs, e8, ha8⟩ := L8
        have hxl := ha8.length
        rw [List.length_map] at hxl
        refine ⟨lv, rfl, ⟨_, SqL.of e8⟩, fun D hD => ?_⟩
        refine lc_it (walk_list (xs := xs)) (fun j H' => H' D = some (.lst ((((fldVs x).take j).flatMap valR).map V.int)) ∧ Same H8 H') ⟨upd_same, Same.new hD⟩ (fun j H' _ h => SqL.of (h.2 _ _ e8)) ?_ ?_
        · rintro j y H9 H10 hj ⟨eD, S9⟩ ⟨rfl, hy⟩
          obtain ⟨d, hd, dy⟩ := (DtAll.mono S9 ha8).getV hy
          rw [List.getElem?_map] at hd
          obtain ⟨vx, hvx, rfl⟩ := Option.map_eq_some_iff.mp hd
          have hja : (((fldVs x).take j).flatMap valR).length ≤ 10 := Nat.le_trans (valR_len _) (by rw [List.length_take]; exact Nat.le_trans (Nat.min_le_right _ _) hNx)
          have htj : (((fldVs x).take (j + 1)).flatMap valR).map V.int = (((fldVs x).take j).flatMap valR).map V.int ++ (valR vx).map V.int := by
            rw [List.take_succ, hvx, List.flatMap_append, List.map_append]
            simp
          refine ⟨rfl, ?_⟩
          obtain ⟨kv, rv, ev, hkv⟩ := valD_hd vx
          rw [ev] at dy
          obtain ⟨qy, wy, rfl, hqy, hwy⟩ := dy.head
          refine ⟨_, rfl, qy, _, _, _, rfl, rfl, hqy, at0, rfl, _, rfl, ?_⟩
          rcases hkv with ⟨hne, hnil⟩ | ⟨rfl, n, rfl, rfl⟩
          · refine iteFb (decide_eq_false fun e => hne (V.str.inj e)) ⟨?_, S9⟩
            rw [htj, hnil, List.map_nil, List.append_nil]
            exact eD
          · refine iteTb (decide_eq_true rfl) ?_
            obtain ⟨y1, w1, rfl, d1, hw1⟩ := hwy.cons_inv
            cases hw1.nil_inv
            cases d1.int_inv
            refine ⟨_, rfl, qy, _, _, _, rfl, rfl, hqy, at1, _, eD, by rw [List.length_map]; exact Nat.lt_of_le_of_lt hja (by decide), ?_, fun b o hb => by rw [upd_ne (ne_of_none hb hD)]; exact S9 _ _ hb⟩
            rw [upd_same, htj]
            rfl
        · rintro H9 ⟨eD, S9⟩
          have hw : (fldVs x).take xs.length = fldVs x := by rw [hxl]; exact List.take_length
          rw [hw] at eD
          have S10 := S8.trans S9
          have e9 := S10 _ _ e5
          have hz1 : ((((fs.take i).flatMap fl2R).map V.int).length + (((fldVs x).flatMap valR).map V.int).length) ≤ sizeLine := by
            rw [List.length_map, List.length_map]
            have := valR_len (fldVs x)
            have hNx' : (fldVs x).length ≤ 10 := hNx
            exact Nat.le_trans (show _ ≤ 3000 by omega) (by decide)
          exact ⟨l, D, _, _, rfl, rfl, e9, eD, hz1, fun q hq => fin H9 q _ hq (S5.trans S10) (by rw [fldR_vs n1 n2])⟩
    · rintro σ H5 ⟨l, x4, x5, x6, rfl, hl, e5, S5⟩
      rw [← hfsl, List.take_length] at e5
      exact ⟨_, rfl, k l H5 hl S5 e5⟩
--SPLIT
end

abbrev s_Machine___init__ : Stmt := inClass (top 5) 0
abbrev N_Machine___init__ : List Str := ["self", "control", "frames", "heap", "out", "active", "here", "line", "steps"]
abbrev P_Machine___init__ : List Str := ["self", "control", "frames", "heap", "out", "active", "here", "line", "steps"]
theorem sc_Machine___init__ : FnScope N_Machine___init__ P_Machine___init__ (defScope s_Machine___init__) := ⟨rfl, rfl, rfl, by decide +kernel, rfl, by decide +kernel, by decide +kernel⟩
section
variable {P : Program} {w : World} {K : PySem.W.Frag} {mg : Str → Option Value} {base : Heap}
abbrev fM : List Str := ["control", "frames", "heap", "out", "active", "here", "line", "steps"]
def mf (c f h o a e l s : V) : List (Str × V) := [("control", c), ("frames", f), ("heap", h), ("out", o), ("active", a), ("here", e), ("line", l), ("steps", s)]
theorem mf_control {c f h o a e l s : V} : (mf c f h o a e l s).lookup ("control" : Str) = some c := by rfl
theorem mf_frames {c f h o a e l s : V} : (mf c f h o a e l s).lookup ("frames" : Str) = some f := by rfl
theorem mf_heap {c f h o a e l s : V} : (mf c f h o a e l s).lookup ("heap" : Str) = some h := by rfl
theorem mf_out {c f h o a e l s : V} : (mf c f h o a e l s).lookup ("out" : Str) = some o := by rfl
theorem mf_active {c f h o a e l s : V} : (mf c f h o a e l s).lookup ("active" : Str) = some a := by rfl
theorem mf_here {c f h o a e l s : V} : (mf c f h o a e l s).lookup ("here" : Str) = some e := by rfl
theorem mf_line {c f h o a e l s : V} : (mf c f h o a e l s).lookup ("line" : Str) = some l := by rfl
theorem mf_steps {c f h o a e l s : V} : (mf c f h o a e l s).lookup ("steps" : Str) = some s := by rfl
def spMInit (C : Addr) : Sp := fun vs H Q _ => ∃ (p dx : Addr) (c f h o a e l s : V), vs = [.ref p, c, f, h, o, a, e, l, s] ∧ H p = some (.ins C dx []) ∧ ∀ H', H' p = some (.ins C dx (mf c f h o a e l s)) → (∀ b u, H b = some u → b ≠ p → H' b = some u) → Q .non H'
theorem ok_minit {C : Addr} {f : Addr} {fd : FuncData} (F : Fun K "__init__" "Machine.__init__" s_Machine___init__ f fd) (T : Txt K mg) (UC_Machine : UseC K mg "Machine" fM C) : FnOk P w K mg base CX0 1 f fd P_Machine___init__ (spMInit C) := by
  refine F.ok sc_Machine___init__ (fun vs H Q E h => ?_) fun cdv A outer s H vs Q E hr h => ?_
  · obtain ⟨p, dx, c, f, h, o, a, e, l, s, rfl, _⟩ := h
    rfl
  · obtain ⟨p, dx, c, f, hh, o, a, e, l, st, rfl, hp, k⟩ := h
    refine ⟨_, (pss_cons (ps_fd UC_Machine (by decide +kernel) (pv 0) (pv 1))
  (pss_cons (ps_fd UC_Machine (by decide +kernel) (pv 0) (pv 2))
  (pss_cons (ps_fd UC_Machine (by decide +kernel) (pv 0) (pv 3))
  (pss_cons (ps_fd UC_Machine (by decide +kernel) (pv 0) (pv 4))
  (pss_cons (ps_fd UC_Machine (by decide +kernel) (pv 0) (pv 5))
  (pss_cons (ps_fd UC_Machine (by decide +kernel) (pv 0) (pv 6))
  (pss_cons (ps_fd UC_Machine (by decide +kernel) (pv 0) (pv 7))
  (pss_one (ps_fd UC_Machine (by decide +kernel) (pv 0) (pv 8)))))))))), ?_⟩
    refine ⟨_, rfl, _, rfl, p, dx, _, rfl, hp, Nat.le_of_ble_eq_true rfl, ?_⟩
    iterate 7 refine ⟨_, rfl, _, rfl, p, dx, _, rfl, upd_same, Nat.le_of_ble_eq_true rfl, ?_⟩
    refine k _ (by rw [upd_same]; rfl) fun b u e1 hb => ?_
    iterate 8 rw [upd_ne hb]
    exact e1
/-- a machine at m -/
def MAt (C : Addr) (H : Hp) (m : Addr) (c f h o a e l s : V) : Prop := ∃ dx, H m = some (.ins C dx (mf c f h o a e l s))
theorem MAt.same {C m : Addr} {H H' : Hp} {c f h o a e l s : V} (M : MAt C H m c f h o a e l s) (S : Same H H') : MAt C H' m c f h o a e l s := let ⟨dx, q⟩ := M; ⟨dx, S _ _ q⟩
end

abbrev s_law_is_integer : Stmt := top 22
abbrev N_law_is_integer : List Str := ["actual"]
abbrev P_law_is_integer : List Str := ["actual"]
theorem sc_law_is_integer : FnScope N_law_is_integer P_law_is_integer (defScope s_law_is_integer) := ⟨rfl, rfl, rfl, by decide +kernel, rfl, by decide +kernel, by decide +kernel⟩
abbrev s_law_same : Stmt := top 25
abbrev N_law_same : List Str := ["actual", "due", "k"]
abbrev P_law_same : List Str := ["actual", "due"]
theorem sc_law_same : FnScope N_law_same P_law_same (defScope s_law_same) := ⟨rfl, rfl, rfl, by decide +kernel, rfl, by decide +kernel, by decide +kernel⟩
section
variable {P : Program} {w : World} {K : PySem.W.Frag} {mg : Str → Option Value} {base : Heap}
def spIsInt (K : PySem.W.Frag) : Sp := fun vs H Q _ => ∃ i : Int, vs = [.int i] ∧ Q (.bl true) H
theorem ok_isint {f : Addr} {fd : FuncData} (F : Fun K "_law_is_integer" "_law_is_integer" s_law_is_integer f fd) (T : Txt K mg) : FnG P w K mg base CX0 1 f fd P_law_is_integer (spIsInt K) := by
  refine okG0 F sc_law_is_integer (fun vs H Q E h => ?_) fun cdv A outer s H vs Q E hr hg h => ?_
  · obtain ⟨i, rfl, _⟩ := h
    rfl
  · obtain ⟨i, rfl, k⟩ := h
    refine ⟨_, (pss_one (ps_ret (pe_and (pe_callB call_isi (by rfl) T.b_isinstance (by decide +kernel) (pa_cons (pv 0) (pa_cons (pe_bltn (v := .ty "int") (by rfl) T.b_int (by decide +kernel) rfl) pa_nil))) (pe_one (pe_not (pe_callB call_isi (by rfl) T.b_isinstance (by decide +kernel) (pa_cons (pv 0) (pa_cons (pe_bltn (v := .ty "bool") (by rfl) T.b_bool (by decide +kernel) rfl) pa_nil)))))))), ?_⟩
    refine ⟨_, rfl, _, _, _, _, true, rfl, .ty _, .base (.int i), if_pos (beq_self_eq_true _), true, rfl, iteTb rfl ?_⟩
    exact ⟨_, rfl, _, _, _, _, false, rfl, .ty _, .base (.int i), kit_ty (by decide +kernel), false, rfl, k⟩
/-- data at most n deep, no list in it -/
inductive Wd : Nat → PyData → Prop
  | str {n : Nat} (z : Str) : Wd n (.str z)
  | int {n : Nat} (i : Int) : Wd n (.int i)
  | bool {n : Nat} (b : Bool) : Wd n (.bool b)
  | tup {n : Nat} {ds : List PyData} : ds.length ≤ 1000 → (∀ d ∈ ds, Wd n d) → Wd (n + 1) (.tuple ds)
theorem Wd.up {n m : Nat} {d : PyData} (h : Wd n d) (hm : n ≤ m) : Wd m d := by
  induction h generalizing m with
  | str z => exact .str z
  | int i => exact .int i
  | bool b => exact .bool b
  | tup h1 _ ih =>
    obtain ⟨k, rfl⟩ : ∃ k, m = k + 1 := ⟨m - 1, by omega⟩
    exact .tup h1 fun d hd => ih d hd (by omega)
def spSameD (K : PySem.W.Frag) (n : Nat) : Sp := fun vs H Q _ => ∃ (x y : V) (d : PyData), vs = [x, y] ∧ Dt K H x d ∧ Dt K H y d ∧ Wd n d ∧ Q (.bl true) H
theorem ok_sameD0 {f : Addr} {fd : FuncData} (F : Fun K "_law_same" "_law_same" s_law_same f fd) (T : Txt K mg) (U_law_is_integer : Use P w K mg base CX0 "_law_is_integer" 1 P_law_is_integer (spIsInt K)) : FnG P w K mg base CX0 2 f fd P_law_same (spSameD K 0) := by
  refine okG0 F sc_law_same (fun vs H Q E h => ?_) fun cdv A outer s H vs Q E hr hg h => ?_
  · obtain ⟨x, y, d, rfl, _⟩ := h
    rfl
  · obtain ⟨x, y, d, rfl, dx, dy, wd, k⟩ := h
    refine ⟨_, (pss_cons (ps_if (pt_val (pe_callB call_isi (by rfl) T.b_isinstance (by decide +kernel) (pa_cons (pv 1) (pa_cons (pe_bltn (v := .ty "tuple") (by rfl) T.b_tuple (by decide +kernel) rfl) pa_nil))))
   pss_never
   pss_nil)
  (pss_cons (ps_if (pt_val (pe_callB call_isi (by rfl) T.b_isinstance (by decide +kernel) (pa_cons (pv 1) (pa_cons (pe_bltn (v := .ty "bool") (by rfl) T.b_bool (by decide +kernel) rfl) pa_nil))))
   (pss_one (ps_ret (pe_and (pe_callB call_isi (by rfl) T.b_isinstance (by decide +kernel) (pa_cons (pv 0) (pa_cons (pe_bltn (v := .ty "bool") (by rfl) T.b_bool (by decide +kernel) rfl) pa_nil))) (pe_one (pe_cmpR op_eq (pv 0) (pv 1) (nomark _))))))
   pss_nil)
  (pss_cons (ps_if (pt_val (pe_callB call_isi (by rfl) T.b_isinstance (by decide +kernel) (pa_cons (pv 1) (pa_cons (pe_bltn (v := .ty "int") (by rfl) T.b_int (by decide +kernel) rfl) pa_nil))))
   (pss_one (ps_ret (pe_and (pe_use U_law_is_integer (hr.mono (by decide)) hg rfl (pa_cons (pv 0) pa_nil)) (pe_one (pe_cmpR op_eq (pv 0) (pv 1) (nomark _))))))
   pss_nil)
  (pss_one (ps_ret (pe_and (pe_callB call_isi (by rfl) T.b_isinstance (by decide +kernel) (pa_cons (pv 0) (pa_cons (pe_bltn (v := .ty "str") (by rfl) T.b_str (by decide +kernel) rfl) pa_nil))) (pe_one (pe_cmpR op_eq (pv 0) (pv 1) (nomark _))))))))), ?_⟩
    cases wd with
    | str b =>
      cases dx.str_inv
      cases dy.str_inv
      refine ⟨_, rfl, _, _, _, _, false, rfl, .ty _, .base (.str b), kit_ty (by decide +kernel), _, rfl, iteFb rfl ?_⟩
      refine ⟨_, rfl, _, _, _, _, false, rfl, .ty _, .base (.str b), kit_ty (by decide +kernel), _, rfl, iteFb rfl ?_⟩
      refine ⟨_, rfl, _, _, _, _, false, rfl, .ty _, .base (.str b), kit_ty (by decide +kernel), _, rfl, iteFb rfl ?_⟩
      refine ⟨_, rfl, _, _, _, _, true, rfl, .ty _, .base (.str b), if_pos (beq_self_eq_true _), true, rfl, iteTb rfl ?_⟩
      exact ⟨_, rfl, _, rfl, rfl, by rw [decide_eq_true rfl]; exact k⟩
    | int b =>
      cases dx.int_inv
      cases dy.int_inv
      refine ⟨_, rfl, _, _, _, _, false, rfl, .ty _, .base (.int b), kit_ty (by decide +kernel), _, rfl, iteFb rfl ?_⟩
      refine ⟨_, rfl, _, _, _, _, false, rfl, .ty _, .base (.int b), kit_ty (by decide +kernel), _, rfl, iteFb rfl ?_⟩
      refine ⟨_, rfl, _, _, _, _, true, rfl, .ty _, .base (.int b), if_pos (beq_self_eq_true _), _, rfl, iteTb rfl ?_⟩
      exact ⟨_, rfl, b, rfl, true, rfl, iteTb rfl ⟨_, rfl, _, rfl, rfl, by rw [decide_eq_true rfl]; exact k⟩⟩
    | bool b =>
      cases dx.bool_inv
      cases dy.bool_inv
      refine ⟨_, rfl, _, _, _, _, false, rfl, .ty _, .base (.bl b), kit_ty (by decide +kernel), _, rfl, iteFb rfl ?_⟩
      refine ⟨_, rfl, _, _, _, _, true, rfl, .ty _, .base (.bl b), if_pos (beq_self_eq_true _), _, rfl, iteTb rfl ?_⟩
      refine ⟨_, rfl, _, _, _, _, true, rfl, .ty _, .base (.bl b), if_pos (beq_self_eq_true _), true, rfl, iteTb rfl ?_⟩
      exact ⟨_, rfl, _, rfl, rfl, by rw [decide_eq_true rfl]; exact k⟩
theorem ok_sameDS {n kk : Nat} (hk : 1 ≤ kk) {f : Addr} {fd : FuncData} (F : Fun K "_law_same" "_law_same" s_law_same f fd) (T : Txt K mg) (U_law_is_integer : Use P w K mg base CX0 "_law_is_integer" 1 P_law_is_integer (spIsInt K)) (U_law_same : Use P w K mg base CX0 "_law_same" kk P_law_same (spSameD K n)) :
    FnG P w K mg base CX0 (kk + 1) f fd P_law_same (spSameD K (n + 1)) := by
  refine okG0 F sc_law_same (fun vs H Q E h => ?_) fun cdv A outer s H vs Q E hr hg h => ?_
  · obtain ⟨x, y, d, rfl, _⟩ := h
    rfl
  · obtain ⟨x, y, d, rfl, dx, dy, wd, k⟩ := h
    cases wd with
    | str b =>
      refine ⟨_, (pss_cons (ps_if (pt_val (pe_callB call_isi (by rfl) T.b_isinstance (by decide +kernel) (pa_cons (pv 1) (pa_cons (pe_bltn (v := .ty "tuple") (by rfl) T.b_tuple (by decide +kernel) rfl) pa_nil))))
   pss_never
   pss_nil)
  (pss_cons (ps_if (pt_val (pe_callB call_isi (by rfl) T.b_isinstance (by decide +kernel) (pa_cons (pv 1) (pa_cons (pe_bltn (v := .ty "bool") (by rfl) T.b_bool (by decide +kernel) rfl) pa_nil))))
   (pss_one (ps_ret (pe_and (pe_callB call_isi (by rfl) T.b_isinstance (by decide +kernel) (pa_cons (pv 0) (pa_cons (pe_bltn (v := .ty "bool") (by rfl) T.b_bool (by decide +kernel) rfl) pa_nil))) (pe_one (pe_cmpR op_eq (pv 0) (pv 1) (nomark _))))))
   pss_nil)
  (pss_cons (ps_if (pt_val (pe_callB call_isi (by rfl) T.b_isinstance (by decide +kernel) (pa_cons (pv 1) (pa_cons (pe_bltn (v := .ty "int") (by rfl) T.b_int (by decide +kernel) rfl) pa_nil))))
   (pss_one (ps_ret (pe_and (pe_use U_law_is_integer (hr.mono (by omega)) hg rfl (pa_cons (pv 0) pa_nil)) (pe_one (pe_cmpR op_eq (pv 0) (pv 1) (nomark _))))))
   pss_nil)
  (pss_one (ps_ret (pe_and (pe_callB call_isi (by rfl) T.b_isinstance (by decide +kernel) (pa_cons (pv 0) (pa_cons (pe_bltn (v := .ty "str") (by rfl) T.b_str (by decide +kernel) rfl) pa_nil))) (pe_one (pe_cmpR op_eq (pv 0) (pv 1) (nomark _))))))))), ?_⟩
      cases dx.str_inv
      cases dy.str_inv
      refine ⟨_, rfl, _, _, _, _, false, rfl, .ty _, .base (.str b), kit_ty (by decide +kernel), _, rfl, iteFb rfl ?_⟩
      refine ⟨_, rfl, _, _, _, _, false, rfl, .ty _, .base (.str b), kit_ty (by decide +kernel), _, rfl, iteFb rfl ?_⟩
      refine ⟨_, rfl, _, _, _, _, false, rfl, .ty _, .base (.str b), kit_ty (by decide +kernel), _, rfl, iteFb rfl ?_⟩
      refine ⟨_, rfl, _, _, _, _, true, rfl, .ty _, .base (.str b), if_pos (beq_self_eq_true _), true, rfl, iteTb rfl ?_⟩
      exact ⟨_, rfl, _, rfl, rfl, by rw [decide_eq_true rfl]; exact k⟩
    | int b =>
      refine ⟨_, (pss_cons (ps_if (pt_val (pe_callB call_isi (by rfl) T.b_isinstance (by decide +kernel) (pa_cons (pv 1) (pa_cons (pe_bltn (v := .ty "tuple") (by rfl) T.b_tuple (by decide +kernel) rfl) pa_nil))))
   pss_never
   pss_nil)
  (pss_cons (ps_if (pt_val (pe_callB call_isi (by rfl) T.b_isinstance (by decide +kernel) (pa_cons (pv 1) (pa_cons (pe_bltn (v := .ty "bool") (by rfl) T.b_bool (by decide +kernel) rfl) pa_nil))))
   (pss_one (ps_ret (pe_and (pe_callB call_isi (by rfl) T.b_isinstance (by decide +kernel) (pa_cons (pv 0) (pa_cons (pe_bltn (v := .ty "bool") (by rfl) T.b_bool (by decide +kernel) rfl) pa_nil))) (pe_one (pe_cmpR op_eq (pv 0) (pv 1) (nomark _))))))
   pss_nil)
  (pss_cons (ps_if (pt_val (pe_callB call_isi (by rfl) T.b_isinstance (by decide +kernel) (pa_cons (pv 1) (pa_cons (pe_bltn (v := .ty "int") (by rfl) T.b_int (by decide +kernel) rfl) pa_nil))))
   (pss_one (ps_ret (pe_and (pe_use U_law_is_integer (hr.mono (by omega)) hg rfl (pa_cons (pv 0) pa_nil)) (pe_one (pe_cmpR op_eq (pv 0) (pv 1) (nomark _))))))
   pss_nil)
  (pss_one (ps_ret (pe_and (pe_callB call_isi (by rfl) T.b_isinstance (by decide +kernel) (pa_cons (pv 0) (pa_cons (pe_bltn (v := .ty "str") (by rfl) T.b_str (by decide +kernel) rfl) pa_nil))) (pe_one (pe_cmpR op_eq (pv 0) (pv 1) (nomark _))))))))), ?_⟩
      cases dx.int_inv
      cases dy.int_inv
      refine ⟨_, rfl, _, _, _, _, false, rfl, .ty _, .base (.int b), kit_ty (by decide +kernel), _, rfl, iteFb rfl ?_⟩
      refine ⟨_, rfl, _, _, _, _, false, rfl, .ty _, .base (.int b), kit_ty (by decide +kernel), _, rfl, iteFb rfl ?_⟩
      refine ⟨_, rfl, _, _, _, _, true, rfl, .ty _, .base (.int b), if_pos (beq_self_eq_true _), _, rfl, iteTb rfl ?_⟩
      exact ⟨_, rfl, b, rfl, true, rfl, iteTb rfl ⟨_, rfl, _, rfl, rfl, by rw [decide_eq_true rfl]; exact k⟩⟩
    | bool b =>
      refine ⟨_, (pss_cons (ps_if (pt_val (pe_callB call_isi (by rfl) T.b_isinstance (by decide +kernel) (pa_cons (pv 1) (pa_cons (pe_bltn (v := .ty "tuple") (by rfl) T.b_tuple (by decide +kernel) rfl) pa_nil))))
   pss_never
   pss_nil)
  (pss_cons (ps_if (pt_val (pe_callB call_isi (by rfl) T.b_isinstance (by decide +kernel) (pa_cons (pv 1) (pa_cons (pe_bltn (v := .ty "bool") (by rfl) T.b_bool (by decide +kernel) rfl) pa_nil))))
   (pss_one (ps_ret (pe_and (pe_callB call_isi (by rfl) T.b_isinstance (by decide +kernel) (pa_cons (pv 0) (pa_cons (pe_bltn (v := .ty "bool") (by rfl) T.b_bool (by decide +kernel) rfl) pa_nil))) (pe_one (pe_cmpR op_eq (pv 0) (pv 1) (nomark _))))))
   pss_nil)
  (pss_cons (ps_if (pt_val (pe_callB call_isi (by rfl) T.b_isinstance (by decide +kernel) (pa_cons (pv 1) (pa_cons (pe_bltn (v := .ty "int") (by rfl) T.b_int (by decide +kernel) rfl) pa_nil))))
   (pss_one (ps_ret (pe_and (pe_use U_law_is_integer (hr.mono (by omega)) hg rfl (pa_cons (pv 0) pa_nil)) (pe_one (pe_cmpR op_eq (pv 0) (pv 1) (nomark _))))))
   pss_nil)
  (pss_one (ps_ret (pe_and (pe_callB call_isi (by rfl) T.b_isinstance (by decide +kernel) (pa_cons (pv 0) (pa_cons (pe_bltn (v := .ty "str") (by rfl) T.b_str (by decide +kernel) rfl) pa_nil))) (pe_one (pe_cmpR op_eq (pv 0) (pv 1) (nomark _))))))))), ?_⟩
      cases dx.bool_inv
      cases dy.bool_inv
      refine ⟨_, rfl, _, _, _, _, false, rfl, .ty _, .base (.bl b), kit_ty (by decide +kernel), _, rfl, iteFb rfl ?_⟩
      refine ⟨_, rfl, _, _, _, _, true, rfl, .ty _, .base (.bl b), if_pos (beq_self_eq_true _), _, rfl, iteTb rfl ?_⟩
      refine ⟨_, rfl, _, _, _, _, true, rfl, .ty _, .base (.bl b), if_pos (beq_self_eq_true _), true, rfl, iteTb rfl ?_⟩
      exact ⟨_, rfl, _, rfl, rfl, by rw [decide_eq_true rfl]; exact k⟩
    | @tup _ ds hl hd =>
      refine ⟨_, (pss_cons (ps_if (pt_val (pe_callB call_isi (by rfl) T.b_isinstance (by decide +kernel) (pa_cons (pv 1) (pa_cons (pe_bltn (v := .ty "tuple") (by rfl) T.b_tuple (by decide +kernel) rfl) pa_nil))))
   (pss_cons (ps_if (PW.pt (pw_or (pt_not (pt_val (pe_callB call_isi (by rfl) T.b_isinstance (by decide +kernel) (pa_cons (pv 0) (pa_cons (pe_bltn (v := .ty "tuple") (by rfl) T.b_tuple (by decide +kernel) rfl) pa_nil))))) (pw_or1 (pt_cmpR op_ne (pe_callB call_len (by rfl) T.b_len PySem.boot_len (pa_cons (pv 0) pa_nil)) (pe_callB call_len (by rfl) T.b_len PySem.boot_len (pa_cons (pv 1) pa_nil)) (nomark _)))))
   (pss_one (ps_ret pe_bl))
   pss_nil)
  (pss_cons (ps_for PassesOwn.never rfl (pi_range1 (by rfl) T.b_range (pa_cons (pe_callB call_len (by rfl) T.b_len PySem.boot_len (pa_cons (pv 1) pa_nil)) pa_nil)) (pg_name (i := 2) sc_law_same.nd rfl (Or.inl rfl))
   (pss_one (ps_if (pt_not (pt_val (pe_use U_law_same (hr.mono (by omega)) hg rfl (pa_cons (pe_ix ix_tup (pv 0) (pv 2) (fun _ _ => rfl)) (pa_cons (pe_ix ix_tup (pv 1) (pv 2) (fun _ _ => rfl)) pa_nil)))))
   (pss_one (ps_ret pe_bl))
   pss_nil)))
  (pss_one (ps_ret pe_bl))))
   pss_nil)
  pss_never), ?_⟩
      obtain ⟨p, xs, rfl, hp, ax⟩ := dx.tuple_inv
      obtain ⟨q, ys, rfl, hq, ay⟩ := dy.tuple_inv
      have lx := ax.length
      have ly := ay.length
      refine ⟨_, rfl, _, _, _, _, true, rfl, .ty _, SqT.tyX hq, if_pos (beq_self_eq_true _), _, rfl, iteTb rfl ?_⟩
      refine ⟨_, rfl, _, _, _, _, true, rfl, .ty _, SqT.tyX hp, if_pos (beq_self_eq_true _), _, rfl, iteFb rfl ?_⟩
      refine ⟨_, rfl, _, _, rfl, .inr ⟨_, hp, rfl⟩, _, rfl, _, _, rfl, .inr ⟨_, hq, rfl⟩, rfl, _, rfl, ?_⟩
      refine iteFb (by rw [lx, ly]; rw [decide_eq_true rfl]; rfl) ?_
      refine ⟨_, rfl, _, _, rfl, .inr ⟨_, hq, rfl⟩, _, rfl, by omega, by omega, ?_⟩
      rw [Int.toNat_natCast]
      refine for_range (lo := 0) (n := ys.length) (fun i σ H1 => ∃ x2, σ = [some (.ref p), some (.ref q), x2] ∧ H1 = H) ⟨none, rfl, rfl⟩ ?_ ?_
      · rintro i σ H1 hi ⟨x2, rfl, rfl⟩
        have ex : ds[i]? = some (ds[i]'(by omega)) := List.getElem?_eq_getElem (by omega)
        obtain ⟨x, hx, dx1⟩ := ax.get ex
        obtain ⟨y, hy, dy1⟩ := ay.get ex
        exact ⟨_, rfl, _, rfl, p, _, _, x, rfl, rfl, hp, at_of' (j := i) (by omega) hx, _, rfl, _, rfl, q, _, _, y, rfl, rfl, hq, at_of' (j := i) (by omega) hy, x, y, _, rfl, dx1, dy1, hd _ (List.getElem_mem _), _, rfl, iteFb rfl ⟨_, rfl, rfl⟩⟩
      · rintro σ H1 ⟨x2, rfl, rfl⟩
        exact k
theorem ok_sameD1 {f : Addr} {fd : FuncData} (F : Fun K "_law_same" "_law_same" s_law_same f fd) (T : Txt K mg) (U : Use P w K mg base CX0 "_law_is_integer" 1 P_law_is_integer (spIsInt K)) (V : Use P w K mg base CX0 "_law_same" 2 P_law_same (spSameD K 0)) : FnG P w K mg base CX0 3 f fd P_law_same (spSameD K 1) := ok_sameDS (by decide) F T U V
theorem ok_sameD2 {f : Addr} {fd : FuncData} (F : Fun K "_law_same" "_law_same" s_law_same f fd) (T : Txt K mg) (U : Use P w K mg base CX0 "_law_is_integer" 1 P_law_is_integer (spIsInt K)) (V : Use P w K mg base CX0 "_law_same" 3 P_law_same (spSameD K 1)) : FnG P w K mg base CX0 4 f fd P_law_same (spSameD K 2) := ok_sameDS (by decide) F T U V
theorem ok_sameD3 {f : Addr} {fd : FuncData} (F : Fun K "_law_same" "_law_same" s_law_same f fd) (T : Txt K mg) (U : Use P w K mg base CX0 "_law_is_integer" 1 P_law_is_integer (spIsInt K)) (V : Use P w K mg base CX0 "_law_same" 4 P_law_same (spSameD K 2)) : FnG P w K mg base CX0 5 f fd P_law_same (spSameD K 3) := ok_sameDS (by decide) F T U V
theorem ok_sameD4 {f : Addr} {fd : FuncData} (F : Fun K "_law_same" "_law_same" s_law_same f fd) (T : Txt K mg) (U : Use P w K mg base CX0 "_law_is_integer" 1 P_law_is_integer (spIsInt K)) (V : Use P w K mg base CX0 "_law_same" 5 P_law_same (spSameD K 3)) : FnG P w K mg base CX0 6 f fd P_law_same (spSameD K 4) := ok_sameDS (by decide) F T U V
theorem ok_sameD5 {f : Addr} {fd : FuncData} (F : Fun K "_law_same" "_law_same" s_law_same f fd) (T : Txt K mg) (U : Use P w K mg base CX0 "_law_is_integer" 1 P_law_is_integer (spIsInt K)) (V : Use P w K mg base CX0 "_law_same" 6 P_law_same (spSameD K 4)) : FnG P w K mg base CX0 7 f fd P_law_same (spSameD K 5) := ok_sameDS (by decide) F T U V
theorem ok_sameD6 {f : Addr} {fd : FuncData} (F : Fun K "_law_same" "_law_same" s_law_same f fd) (T : Txt K mg) (U : Use P w K mg base CX0 "_law_is_integer" 1 P_law_is_integer (spIsInt K)) (V : Use P w K mg base CX0 "_law_same" 7 P_law_same (spSameD K 5)) : FnG P w K mg base CX0 8 f fd P_law_same (spSameD K 6) := ok_sameDS (by decide) F T U V
theorem ok_sameD7 {f : Addr} {fd : FuncData} (F : Fun K "_law_same" "_law_same" s_law_same f fd) (T : Txt K mg) (U : Use P w K mg base CX0 "_law_is_integer" 1 P_law_is_integer (spIsInt K)) (V : Use P w K mg base CX0 "_law_same" 8 P_law_same (spSameD K 6)) : FnG P w K mg base CX0 9 f fd P_law_same (spSameD K 7) := ok_sameDS (by decide) F T U V
--SPLIT
end

abbrev s_law_list_is : Stmt := top 24
abbrev N_law_list_is : List Str := ["actual", "due", "k"]
abbrev P_law_list_is : List Str := ["actual", "due"]
theorem sc_law_list_is : FnScope N_law_list_is P_law_list_is (defScope s_law_list_is) := ⟨rfl, rfl, rfl, by decide +kernel, rfl, by decide +kernel, by decide +kernel⟩
section
variable {P : Program} {w : World} {K : PySem.W.Frag} {mg : Str → Option Value} {base : Heap}
def spListIs (K : PySem.W.Frag) : Sp := fun vs H Q _ => ∃ (a b : Addr) (ns : List Int), vs = [.ref a, .ref b] ∧ H a = some (.lst (ns.map V.int)) ∧ H b = some (.lst (ns.map V.int)) ∧ ns.length ≤ 1000000 ∧ Q (.bl true) H
theorem ok_listis {f : Addr} {fd : FuncData} (F : Fun K "_law_list_is" "_law_list_is" s_law_list_is f fd) (T : Txt K mg) (U_law_is_integer : Use P w K mg base CX0 "_law_is_integer" 1 P_law_is_integer (spIsInt K)) : FnG P w K mg base CX0 2 f fd P_law_list_is (spListIs K) := by
  refine okG0 F sc_law_list_is (fun vs H Q E h => ?_) fun cdv A outer s H vs Q E hr hg h => ?_
  · obtain ⟨a, b, ns, rfl, _⟩ := h
    rfl
  · obtain ⟨a, b, ns, rfl, ea, eb, hl, k⟩ := h
    refine ⟨_, (pss_cons (ps_if (PW.pt (pw_or (pt_not (pt_val (pe_callB call_isi (by rfl) T.b_isinstance (by decide +kernel) (pa_cons (pv 0) (pa_cons (pe_bltn (v := .ty "list") (by rfl) T.b_list (by decide +kernel) rfl) pa_nil))))) (pw_or1 (pt_cmpR op_ne (pe_callB call_len (by rfl) T.b_len PySem.boot_len (pa_cons (pv 0) pa_nil)) (pe_callB call_len (by rfl) T.b_len PySem.boot_len (pa_cons (pv 1) pa_nil)) (nomark _)))))
   (pss_one (ps_ret pe_bl))
   pss_nil)
  (pss_cons (ps_for PassesOwn.never rfl (pi_range1 (by rfl) T.b_range (pa_cons (pe_callB call_len (by rfl) T.b_len PySem.boot_len (pa_cons (pv 1) pa_nil)) pa_nil)) (pg_name (i := 2) sc_law_list_is.nd rfl (Or.inl rfl))
   (pss_one (ps_if (PW.pt (pw_or (pt_not (pt_val (pe_use U_law_is_integer (hr.mono (by decide)) hg rfl (pa_cons (pe_ix ix_list (pv 0) (pv 2) (fun _ _ => rfl)) pa_nil)))) (pw_or1 (pt_cmpR op_ne (pe_ix ix_list (pv 0) (pv 2) (fun _ _ => rfl)) (pe_ix ix_list (pv 1) (pv 2) (fun _ _ => rfl)) (nomark _)))))
   (pss_one (ps_ret pe_bl))
   pss_nil)))
  (pss_one (ps_ret pe_bl)))), ?_⟩
    refine ⟨_, rfl, _, _, _, _, true, rfl, .ty _, .base (.lst ea), if_pos (beq_self_eq_true _), _, rfl, iteFb rfl ?_⟩
    refine ⟨_, rfl, _, _, rfl, .inl ⟨_, SqL.of ea, rfl⟩, _, rfl, _, _, rfl, .inl ⟨_, SqL.of eb, rfl⟩, rfl, _, rfl, ?_⟩
    rw [decide_eq_true rfl]
    refine iteFb rfl ?_
    refine ⟨_, rfl, _, _, rfl, .inl ⟨_, SqL.of eb, rfl⟩, _, rfl, by omega, by rw [List.length_map]; omega, ?_⟩
    rw [Int.toNat_natCast]
    refine for_range (lo := 0) (n := (ns.map V.int).length) (fun i σ H1 => ∃ x2, σ = [some (.ref a), some (.ref b), x2] ∧ H1 = H) ⟨none, rfl, rfl⟩ ?_ ?_
    · rintro i σ H1 hi ⟨x2, rfl, rfl⟩
      have hx : (ns.map V.int)[i]? = some (ns.map V.int)[i] := List.getElem?_eq_getElem hi
      have hv : (ns.map V.int)[i] = V.int (ns[i]'(by simpa using hi)) := List.getElem_map ..
      rw [hv] at hx
      generalize ns[i]'(by simpa using hi) = z at hx
      refine ⟨_, rfl, _, rfl, a, _, _, _, rfl, rfl, SqL.of ea, at_of' (j := i) (by omega) hx, z, rfl, true, rfl, iteFb rfl ?_⟩
      refine ⟨_, rfl, _, rfl, a, _, _, _, rfl, rfl, SqL.of ea, at_of' (j := i) (by omega) hx, _, rfl, _, rfl, b, _, _, _, rfl, rfl, SqL.of eb, at_of' (j := i) (by omega) hx, rfl, _, rfl, ?_⟩
      rw [decide_eq_true rfl]
      exact iteFb rfl ⟨_, rfl, rfl⟩
    · rintro σ H1 ⟨x2, rfl, rfl⟩
      exact k
end

abbrev s_law_heap : Stmt := top 44
abbrev N_law_heap : List Str := ["box", "many", "heap", "bases", "k"]
abbrev P_law_heap : List Str := ["box", "many"]
theorem sc_law_heap : FnScope N_law_heap P_law_heap (defScope s_law_heap) := ⟨rfl, rfl, rfl, by decide +kernel, rfl, by decide +kernel, by decide +kernel⟩
abbrev s_law_parts : Stmt := top 45
abbrev N_law_parts : List Str := ["box", "many", "control", "frames", "k", "heap", "numbers"]
abbrev P_law_parts : List Str := ["box"]
theorem sc_law_parts : FnScope N_law_parts P_law_parts (defScope s_law_parts) := ⟨rfl, rfl, rfl, by decide +kernel, rfl, by decide +kernel, by decide +kernel⟩
section
variable {P : Program} {w : World} {K : PySem.W.Frag} {mg : Str → Option Value} {base : Heap}
def spShape2 (K : PySem.W.Frag) : Sp := fun vs H Q _ => ∃ (p dl tl : Addr) (tab : Tab) (m : Nat), vs = [.ref p, .ref tl, .int (m : Int)] ∧ TabAt H tl tab ∧ tab ≠ [] ∧ tab.length ≤ 100 ∧ TabOk (70 :: flds) tab ∧ 0 < m ∧ m ≤ 10 ^ 6 ∧ BoxAt H p dl ∧
  ∀ v (kd : Str) (fs : List Fl2) H', (kd, fs.map ltr2) ∈ tab → Dt K H' v (.tuple (.str kd :: fs.map fl2D)) → (∀ f ∈ fs, Fl2Sm m f) → BoxAt H' p dl → Keep p H H' → Q v H'
theorem ok_shape2 {f : Addr} {fd : FuncData} (F : Fun K "_law_shape" "_law_shape" s_law_shape f fd) (T : Txt K mg) (U_law_draw : Use P w K mg base CX0 "_law_draw" 1 P_law_draw (spDraw K)) (U_law_shape_of : Use P w K mg base CX0 "_law_shape_of" 11 P_law_shape_of (spShapeOf K)) : FnG P w K mg base CX0 12 f fd P_law_shape (spShape2 K) := by
  refine okG0 F sc_law_shape (fun vs H Q E h => ?_) fun cdv A outer s H vs Q E hr hg h => ?_
  · obtain ⟨p, dl, tl, tab, m, rfl, _⟩ := h
    rfl
  · obtain ⟨p, dl, tl, tab, m, rfl, hT, hne, htl, hok, hm0, hm, B, k⟩ := h
    refine ⟨_, (pss_cons (ps_set (i := 3) sc_law_shape.nd rfl (Or.inl rfl) (pe_ix ix_list (pv 1) (pe_op op_mod (pe_callTy call_int1 (by rfl) T.b_int (by decide +kernel) (pa_cons (pe_op op_add (pe_op op_mul (pe_use U_law_draw (hr.mono (by decide)) hg rfl (pa_cons (pv 0) (pa_cons pe_int pa_nil))) pe_int) (pe_use U_law_draw (hr.mono (by decide)) hg rfl (pa_cons (pv 0) (pa_cons pe_int pa_nil)))) pa_nil)) (pe_callB call_len (by rfl) T.b_len PySem.boot_len (pa_cons (pv 1) pa_nil))) (fun _ _ => rfl)))
  (pss_one (ps_ret (pe_use U_law_shape_of (hr.mono (by decide)) hg rfl (pa_cons (pv 0) (pa_cons (pv 3) (pa_cons (pv 2) pa_nil))))))), ?_⟩
    refine ⟨_, rfl, _, rfl, p, dl, 1000, rfl, B, by decide, fun r1 H1 q0 q1 B1 K1 => ?_⟩
    refine ⟨_, _, rfl, rfl, .inr ⟨by decide, by decide⟩, _, rfl, p, dl, 1000, rfl, B1, by decide, fun r2 H2 q2 q3 B2 K2 => ?_⟩
    have hT2 := (hT.keep B K1).keep B1 K2
    obtain ⟨rs, e1, e2, e3⟩ := id hT2
    have hrl : 0 < rs.length := by rw [e2]; exact List.length_pos_iff.mpr hne
    refine ⟨_, _, rfl, rfl, .inl ⟨_, rfl, _, rfl, _, _, rfl, .inl ⟨_, SqL.of e1, rfl⟩, _, _, rfl, rfl, by rw [List.length_map]; omega, ?_⟩⟩
    obtain ⟨j, hj⟩ : ∃ j : Nat, (r1 * 1000 + r2) % (((rs.map V.ref).length : Nat) : Int) = (j : Int) := ⟨_, (Int.toNat_of_nonneg (Int.emod_nonneg _ (by rw [List.length_map]; omega))).symm⟩
    have hjm := Int.emod_lt_of_pos (r1 * 1000 + r2) (show (0 : Int) < (((rs.map V.ref).length : Nat) : Int) by rw [List.length_map]; omega)
    rw [hj, List.length_map] at hjm
    have hr2 : rs[j]? = some rs[j] := List.getElem?_eq_getElem (by omega)
    obtain ⟨kd, ls, et, er⟩ := e3 j _ hr2
    have hmem := List.mem_of_getElem? et
    obtain ⟨o1, o2⟩ := hok _ hmem
    dsimp only
    rw [hj]
    refine ⟨tl, _, _, _, rfl, rfl, SqL.of e1, atI_nat (by rw [List.getElem?_map, hr2]; rfl), ?_⟩
    refine ⟨_, rfl, _, rfl, _, rfl, p, dl, _, kd, ls, m, rfl, er, o1, o2, hm0, hm, B2, fun v fs H3 dv hf hfs B3 K3 => ?_⟩
    exact k v kd fs H3 (by rw [hf]; exact hmem) dv hfs B3 ((K1.trans K2).trans K3)
structure Ob where
  kd : Str
  fs : List Fl2
def obD (o : Ob) : PyData := .tuple (.str o.kd :: o.fs.map fl2D)
def ObSm (m : Nat) (o : Ob) : Prop := (o.kd, o.fs.map ltr2) ∈ obTab ∧ ∀ x ∈ o.fs, Fl2Sm m x
def obR (o : Ob) : List Int := o.fs.flatMap fl2R
def kS (k : Nat) : Str := "K" ++ Str.ofString (toString (k : Int))
def kJs (k : Nat) : List Nat := (kS k).cps.toList.map fun c => chC.idxOf c
theorem kJs_ok : ∀ k < 16, tx (kJs k) = kS k ∧ (kJs k).length ≤ 12 ∧ ∀ j ∈ kJs k, j < 95 := by decide +kernel
def basesL : List Int := [-1, 1, 2, 2, 1, 5, 5, 1, 1, 1, 1, 1, 1, 13, 1, 1]
theorem basesL_ok : ∀ b ∈ basesL, -1 ≤ b ∧ b < 17 := by decide
def clsO (k : Nat) : Ob := ⟨"class", [.one (.x (kJs k)), .one (.b (basesL.getD k 0)), .one (.X [])]⟩
theorem clsO_sm {m k : Nat} (hm : 17 ≤ m) (hk : k < 16) : ObSm m (clsO k) := by
  refine ⟨by simp [clsO, ltr2, ltr, obTab], fun x hx => ?_⟩
  simp only [clsO, List.mem_cons, List.not_mem_nil, or_false] at hx
  rcases hx with rfl | rfl | rfl
  · exact ⟨(kJs_ok k hk).2.1, (kJs_ok k hk).2.2⟩
  · have h : basesL.getD k 0 ∈ basesL := by
      have : k < basesL.length := hk
      rw [List.getD_eq_getElem?_getD, List.getElem?_eq_getElem this]
      exact List.getElem_mem this
    have := basesL_ok _ h
    exact ⟨this.1, by omega⟩
  · exact ⟨by decide, by simp⟩
theorem clsO_D {k : Nat} (hk : k < 16) : obD (clsO k) = .tuple [.str "class", .str (kS k), .int (basesL.getD k 0), .tuple []] := by
  simp [obD, clsO, fl2D, fldD, (kJs_ok k hk).1]
def spHeap (K : PySem.W.Frag) : Sp := fun vs H Q _ => ∃ (p dl : Addr) (m : Nat), vs = [.ref p, .int (m : Int)] ∧ BoxAt H p dl ∧ 17 ≤ m ∧ m ≤ 100 ∧
  ∀ hl (obs : List Ob) H', H hl = none → ListAt K H' hl (obs.map obD) → obs.length = m → (∀ o ∈ obs, ObSm m o) → BoxAt H' p dl → Keep p H H' → Q (.ref hl) H'
theorem ok_heap {f : Addr} {fd : FuncData} (F : Fun K "_law_heap" "_law_heap" s_law_heap f fd) (T : Txt K mg) (U_law_field : Use P w K mg base CX0 "_law_field" 10 P_law_field (spField K)) (U_law_objects : Use P w K mg base CX0 "_law_objects" 1 P_law_objects (spTab obTab)) (U_law_shape : Use P w K mg base CX0 "_law_shape" 12 P_law_shape (spShape2 K)) : FnG P w K mg base CX0 13 f fd P_law_heap (spHeap K) := by
  refine okG0 F sc_law_heap (fun vs H Q E h => ?_) fun cdv A outer s H vs Q E hr hg h => ?_
  · obtain ⟨p, dl, m, rfl, _⟩ := h
    rfl
  · obtain ⟨p, dl, m, rfl, B, hm, hm2, k⟩ := h
    refine ⟨_, (pss_cons (ps_set (i := 2) sc_law_heap.nd rfl (Or.inl rfl) (pe_lst (pa_cons (pe_tup (pa_cons pe_str (pa_cons (pe_use U_law_field (hr.mono (by decide)) hg rfl (pa_cons (pv 0) (pa_cons pe_str (pa_cons (pv 1) pa_nil)))) (pa_cons (pe_tup pa_nil) (pa_cons (pe_tup pa_nil) (pa_cons (pe_un un_neg pe_int) (pa_cons pe_bl pa_nil))))))) pa_nil)))
  (pss_cons (ps_set (i := 3) sc_law_heap.nd rfl (Or.inl rfl) (pe_lst (pa_cons (pe_un un_neg pe_int) (pa_cons pe_int (pa_cons pe_int (pa_cons pe_int (pa_cons pe_int (pa_cons pe_int (pa_cons pe_int (pa_cons pe_int (pa_cons pe_int (pa_cons pe_int (pa_cons pe_int (pa_cons pe_int (pa_cons pe_int (pa_cons pe_int (pa_cons pe_int (pa_cons pe_int pa_nil))))))))))))))))))
  (pss_cons (ps_for PassesOwn.never rfl (pi_range1 (by rfl) T.b_range (pa_cons pe_int pa_nil)) (pg_name (i := 4) sc_law_heap.nd rfl (Or.inl rfl))
   (pss_one (ps_expr (pe_bm PySem.F.plainAttrs_list PySem.F.slot_list_append PySem.F.type_list_append mt_append (pv 2) (pa_cons (pe_tup (pa_cons pe_str (pa_cons (pe_op op_add_str pe_str (pe_callTy call_str_int (by rfl) T.b_str (by decide +kernel) (pa_cons (pv 4) pa_nil))) (pa_cons (pe_ix ix_list (pv 3) (pv 4) (fun _ _ => rfl)) (pa_cons (pe_tup pa_nil) pa_nil))))) pa_nil)))))
  (pss_cons (ps_for PassesOwn.never rfl (pi_range1 (by rfl) T.b_range (pa_cons (pe_op op_sub (pv 1) pe_int) pa_nil)) (pg_name (i := 4) sc_law_heap.nd rfl (Or.inl rfl))
   (pss_one (ps_expr (pe_bm PySem.F.plainAttrs_list PySem.F.slot_list_append PySem.F.type_list_append mt_append (pv 2) (pa_cons (pe_use U_law_shape (hr.mono (by decide)) hg rfl (pa_cons (pv 0) (pa_cons (pe_use0 U_law_objects (hr.mono (by decide)) hg rfl) (pa_cons (pv 1) pa_nil)))) pa_nil)))))
  (pss_one (ps_ret (pv 2))))))), ?_⟩
    refine ⟨_, rfl, _, rfl, p, dl, 88, m, rfl, by decide, by omega, by omega, B, fun v x H1 dv hl' hx B1 K1 => ?_⟩
    have nx : ∀ {q : Addr}, H1 q = none → H q = none := fun h => none_back0 K1 B1.at_ h
    refine ⟨sz_0, fun u1 h1 => ⟨sz_0, fun u2 h2 => ⟨_, rfl, Nat.le_of_ble_eq_true rfl, fun o0 ho0 => ⟨sz_1, fun hl hhl => ?_⟩⟩⟩⟩
    have S1 := Same.new (o := .tup []) h1
    have d1 := Dt.made (K := K) h1 .nil
    have S2 := Same.new (o := .tup []) h2
    have d2 := Dt.made (K := K) h2 .nil
    have S3 := Same.new (o := .tup [.str "scope", v, .ref u1, .ref u2, .int (-1), .bl false]) ho0
    have d3 := Dt.made (K := K) ho0 (.cons (.str "scope") (.cons (dv.mono (S1.trans S2)) (.cons (d1.mono S2) (.cons d2 (.cons (.int (-1)) (.cons (.bl false) .nil))))))
    have S4 := Same.new (o := .lst [.ref o0]) hhl
    have S14 := ((S1.trans S2).trans S3).trans S4
    have hn1 : H1 hl = none := same_none ((S1.trans S2).trans S3) hhl
    have hhn := nx hn1
    have hne := B1.ne_new hn1
    generalize ho : (⟨"scope", [x, .one (.t (.tuple [])), .one (.t (.tuple [])), .one (.b (-1)), .one (.t (.bool false))]⟩ : Ob) = ob0
    have sm0 : ObSm m ob0 := by
      subst ho
      refine ⟨by show (("scope" : Str), ltr2 x :: [116, 116, 98, 116]) ∈ obTab; rw [hl']; decide +kernel, fun y hy => ?_⟩
      simp only [List.mem_cons, List.not_mem_nil, or_false] at hy
      rcases hy with rfl | rfl | rfl | rfl | rfl
      · exact hx
      · exact .tup [] (by decide) (by simp)
      · exact .tup [] (by decide) (by simp)
      · exact ⟨by decide, by omega⟩
      · exact .bool false
    have L4 : ListAt K (upd _ hl (.lst [.ref o0])) hl [obD ob0] := ⟨_, upd_same, .cons (by subst ho; exact d3.mono S4) .nil⟩
    have B4 := B1.same S14
    have K4 := K1.trans (Same.keep S14)
    generalize upd _ hl (.lst [.ref o0]) = H4 at S14 L4 B4 K4
    clear S1 S2 S3 S4 d1 d2 d3 dv hhl ho0 h1 h2 S14
    -- bases
    refine ⟨_, rfl, Nat.le_of_ble_eq_true rfl, fun bl hbl => ?_⟩
    have ebl := upd_same (H := H4) (a := bl) (o := HO.lst (basesL.map V.int))
    have S5 := Same.new (o := HO.lst (basesL.map V.int)) hbl
    have hbl0 : bl ≠ hl := fun e => by
      obtain ⟨_, e1, _⟩ := L4
      subst e
      rw [e1] at hbl
      cases hbl
    have hblp := B4.ne_new hbl
    have L5 := listAt_mono L4 S5
    have B5 := B4.same S5
    have K5 := K4.trans (Same.keep S5)
    clear hbl L4 B4 K4 S5
    refine ⟨_, rfl, by decide, by decide, ?_⟩
    have put : ∀ {H8 : Hp} {t : V} {o : Ob} {obs : List Ob} {acc : List V}, ListAt K H8 hl (obs.map obD) → BoxAt H8 p dl → Keep p H H8 → H8 bl = some (.lst (basesL.map V.int)) → H8 hl = some (.lst acc) → Dt K H8 t (obD o) → obs.length ≤ 200 →
        acc.length < sizeLine ∧ ListAt K (upd H8 hl (.lst (acc ++ [t]))) hl ((obs ++ [o]).map obD) ∧ BoxAt (upd H8 hl (.lst (acc ++ [t]))) p dl ∧ Keep p H (upd H8 hl (.lst (acc ++ [t]))) ∧ (upd H8 hl (.lst (acc ++ [t]))) bl = some (.lst (basesL.map V.int)) := fun L8 B8 K8 eb8 e8 d8 hl8 => by
      obtain ⟨acc', e', a'⟩ := id L8
      rw [e'] at e8
      obtain rfl := HO.lst.inj (Option.some.inj e8)
      have := a'.length
      rw [List.length_map] at this
      refine ⟨Nat.lt_of_le_of_lt (show _ ≤ 200 by omega) (by decide), by rw [List.map_append]; exact listAt_app L8 e' d8, B8.upd hne.1 hne.2, fun b o hb nb => ?_, by rw [upd_ne hbl0]; exact eb8⟩
      rw [upd_ne (ne_of_none hb hhn)]
      exact K8 b o hb nb
    refine for_range (lo := 0) (n := 16) (fun i σ H' => ∃ x4, ListAt K H' hl ((ob0 :: (List.range i).map clsO).map obD) ∧ BoxAt H' p dl ∧ Keep p H H' ∧ H' bl = some (.lst (basesL.map V.int)) ∧ σ = [some (.ref p), some (.int (m : Int)), some (.ref hl), some (.ref bl), x4]) ⟨none, L5, B5, K5, ebl, rfl⟩ ?_ ?_
    · rintro i σ H6 hi ⟨x4, L6, B6, K6, eb6, rfl⟩
      rw [Int.zero_add]
      obtain ⟨acc, e6, _⟩ := id L6
      obtain ⟨q1, q2, q3⟩ := (show ∀ i : Nat, i < 16 → (i : Int).natAbs.log2 < 1920 ∧ ("K" : Str).length + (Str.ofString (toString (i : Int))).length ≤ sizeLine ∧ basesL[i]? = some (basesL.getD i 0) by decide +kernel) i hi
      refine ⟨_, rfl, .inl ⟨rfl, _, SqL.of e6⟩, _, rfl, _, rfl, q1, _, _, rfl, rfl, q2, _, rfl, _, rfl, bl, _, _, _, rfl, rfl, SqL.of eb6, atI_nat (by rw [List.getElem?_map, q3]; rfl), sz_0, fun u hu => ⟨sz_4, fun t ht => ?_⟩⟩
      have S7 := (Same.new (o := .tup []) hu).trans (Same.new (o := .tup [.str "class", .str (kS i), .int (basesL.getD i 0), .ref u]) ht)
      have d7 : Dt K (upd (upd H6 u (.tup [])) t (.tup [.str "class", .str (kS i), .int (basesL.getD i 0), .ref u])) (.ref t) (obD (clsO i)) := by
        rw [clsO_D hi]
        exact Dt.made (K := K) ht (.cons (.str "class") (.cons (.str (kS i)) (.cons (.int (basesL.getD i 0)) (.cons (Dt.made (K := K) hu .nil) .nil))))
      obtain ⟨w1, w2, w3, w4, w5⟩ := put (listAt_mono L6 S7) (B6.same S7) (K6.trans (Same.keep S7)) (S7 _ _ eb6) (S7 _ _ e6) d7 (by simp; omega)
      refine ⟨hl, _, _, rfl, rfl, S7 _ _ e6, w1, some (.int i), ?_, w3, w4, w5, rfl⟩
      rw [List.range_succ, List.map_append]
      exact w2
    rintro σ H6 ⟨x4, L6, B6, K6, eb6, rfl⟩
    clear L5 B5 K5 ebl
    refine ⟨_, rfl, _, _, rfl, rfl, _, rfl, by omega, by omega, ?_⟩
    refine for_range (lo := 0) (n := ((m : Int) - 17).toNat) (fun i σ H' => ∃ (more : List Ob) (x4 : Option V), more.length = i ∧ (∀ o ∈ more, ObSm m o) ∧ ListAt K H' hl (((ob0 :: (List.range 16).map clsO) ++ more).map obD) ∧ BoxAt H' p dl ∧ Keep p H H' ∧ H' bl = some (.lst (basesL.map V.int)) ∧ σ = [some (.ref p), some (.int (m : Int)), some (.ref hl), some (.ref bl), x4]) ⟨[], x4, rfl, by simp, by rw [List.append_nil]; exact L6, B6, K6, eb6, rfl⟩ ?_ ?_
    · rintro i σ H7 hi ⟨more, x4, hml, hms, L7, B7, K7, eb7, rfl⟩
      obtain ⟨acc, e7, _⟩ := id L7
      refine ⟨_, rfl, .inl ⟨rfl, _, SqL.of e7⟩, _, rfl, rfl, fun tl H8 S8 T8 => ⟨_, rfl, p, dl, tl, obTab, m, rfl, T8, by decide, by decide, obTab_ok, by omega, by omega, B7.same S8, fun w kd fs H9 hmem dw hfs B9 K9 => ?_⟩⟩
      have L9 := listAt_keep (listAt_mono L7 S8) K9 hne.1 (B7.same S8).at_
      have eb9 := K9 _ _ (S8 _ _ eb7) hblp.1
      have e9 := K9 _ _ (S8 _ _ e7) hne.1
      obtain ⟨w1, w2, w3, w4, w5⟩ := put (o := ⟨kd, fs⟩) L9 B9 ((K7.trans (Same.keep S8)).trans K9) eb9 e9 dw (by simp; omega)
      refine ⟨hl, _, _, rfl, rfl, e9, w1, more ++ [⟨kd, fs⟩], _, by rw [List.length_append, hml]; rfl, fun o ho => ?_, by rw [← List.append_assoc]; exact w2, w3, w4, w5, rfl⟩
      rcases List.mem_append.mp ho with h | h
      · exact hms o h
      · rw [List.mem_singleton.mp h]; exact ⟨hmem, hfs⟩
    rintro σ H7 ⟨more, x4, hml, hms, L7, B7, K7, eb7, rfl⟩
    refine ⟨_, rfl, k hl _ H7 hhn L7 (by simp; omega) (fun o ho => ?_) B7 K7⟩
    rcases List.mem_append.mp ho with h | h
    · rcases List.mem_cons.mp h with rfl | h
      · exact sm0
      · obtain ⟨i, hi, rfl⟩ := List.mem_map.mp h
        exact clsO_sm hm (List.mem_range.mp hi)
    · exact hms o h
structure Pt where
  c : Fr
  frs : List Fr
  obs : List Ob
  out : Str
  act : Int
  here : Str
  line : Int
  steps : Int
structure PtSm (m : Nat) (P : Pt) : Prop where
  c : (P.c.kd, P.c.fs.map ltr) ∈ coTab ∧ ∀ x ∈ P.c.fs, FldSm m x
  fl : P.frs.length ≤ 5
  f : ∀ f ∈ P.frs, FrSm m f
  ol : P.obs.length = m
  o : ∀ o ∈ P.obs, ObSm m o
structure PtAt (K : PySem.W.Frag) (H : Hp) (lp fl hl : Addr) (P : Pt) : Prop where
  ex : ∃ vc, H lp = some (.lst [vc, .ref fl, .ref hl, .str P.out, .int P.act, .str P.here, .int P.line, .int P.steps]) ∧ Dt K H vc (frD P.c)
  f : ListAt K H fl (P.frs.map frD)
  h : ListAt K H hl (P.obs.map obD)
theorem PtAt.same {H H' : Hp} {lp fl hl : Addr} {P : Pt} (A : PtAt K H lp fl hl P) (S : Same H H') : PtAt K H' lp fl hl P := ⟨let ⟨v, e, d⟩ := A.ex; ⟨v, S _ _ e, d.mono S⟩, listAt_mono A.f S, listAt_mono A.h S⟩
theorem PtAt.lp_ne {H : Hp} {lp fl hl : Addr} {P : Pt} (A : PtAt K H lp fl hl P) : lp ≠ hl ∧ lp ≠ fl := by
  obtain ⟨vc, e, d⟩ := A.ex
  constructor
  · obtain ⟨xs, e2, a⟩ := A.h
    intro h; subst h
    rw [e] at e2
    have e2 := HO.lst.inj (Option.some.inj e2)
    rw [← e2] at a
    obtain ⟨_, h1, h2⟩ := a.getV (i := 1) rfl
    rw [List.getElem?_map] at h1
    obtain ⟨o, _, rfl⟩ := Option.map_eq_some_iff.mp h1
    obtain ⟨_, h1, h2⟩ := a.getV (i := 3) rfl
    rw [List.getElem?_map] at h1
    obtain ⟨o, _, rfl⟩ := Option.map_eq_some_iff.mp h1
    cases h2
  · obtain ⟨xs, e2, a⟩ := A.f
    intro h; subst h
    rw [e] at e2
    have e2 := HO.lst.inj (Option.some.inj e2)
    rw [← e2] at a
    obtain ⟨_, h1, h2⟩ := a.getV (i := 3) rfl
    rw [List.getElem?_map] at h1
    obtain ⟨o, _, rfl⟩ := Option.map_eq_some_iff.mp h1
    cases h2
def spParts (K : PySem.W.Frag) : Sp := fun vs H Q _ => ∃ (p dl : Addr), vs = [.ref p] ∧ BoxAt H p dl ∧ ∀ lp fl hl m (P : Pt) H', PtAt K H' lp fl hl P → PtSm m P → 17 ≤ m → m ≤ 29 → H lp = none → H hl = none → H fl = none → hl ≠ fl → BoxAt H' p dl → Keep p H H' → Q (.ref lp) H'
theorem ok_parts {f : Addr} {fd : FuncData} (F : Fun K "_law_parts" "_law_parts" s_law_parts f fd) (T : Txt K mg) (U_law_draw : Use P w K mg base CX0 "_law_draw" 1 P_law_draw (spDraw K)) (U_law_shape : Use P w K mg base CX0 "_law_shape" 9 P_law_shape (spShape K)) (U_law_controls : Use P w K mg base CX0 "_law_controls" 1 P_law_controls (spTab coTab)) (U_law_frames : Use P w K mg base CX0 "_law_frames" 1 P_law_frames (spTab frTab))
    (U_law_heap : Use P w K mg base CX0 "_law_heap" 13 P_law_heap (spHeap K)) (U_law_text : Use P w K mg base CX0 "_law_text" 2 P_law_text (spText K)) (U_law_name : Use P w K mg base CX0 "_law_name" 2 P_law_name (spName K)) : FnG P w K mg base CX0 14 f fd P_law_parts (spParts K) := by
  refine okG0 F sc_law_parts (fun vs H Q E h => ?_) fun cdv A outer s H vs Q E hr hg h => ?_
  · obtain ⟨p, dl, rfl, _⟩ := h
    rfl
  · obtain ⟨p, dl, rfl, B, k⟩ := h
    refine ⟨_, (pss_cons (ps_set (i := 1) sc_law_parts.nd rfl (Or.inr rfl) (pe_op op_add pe_int (pe_use U_law_draw (hr.mono (by decide)) hg rfl (pa_cons (pv 0) (pa_cons pe_int pa_nil)))))
  (pss_cons (ps_set (i := 2) sc_law_parts.nd rfl (Or.inl rfl) (pe_use U_law_shape (hr.mono (by decide)) hg rfl (pa_cons (pv 0) (pa_cons (pe_use0 U_law_controls (hr.mono (by decide)) hg rfl) (pa_cons (pv 1) pa_nil)))))
  (pss_cons (ps_setLc (i := 3) (own := [("k", 4)]) (g := (gName 4)) rfl sc_law_parts.nd rfl rfl (sw_true rfl rfl rfl (by decide +kernel)) (pi_range1 (by rfl) T.b_range (pa_cons (pe_use U_law_draw (hr.mono (by decide)) hg rfl (pa_cons (pv 0) (pa_cons pe_int pa_nil))) pa_nil)) (blkOk_by (N := N_law_parts) (sc := defScope s_law_parts) (by decide +kernel)) (fun _ _ _ _ _ => (pg_name (i := 4) sc_law_parts.nd rfl (Or.inl rfl))) (fun _ _ _ _ _ => pts_nil) (fun _ _ _ _ _ => (pe_use U_law_shape (hr.mono (by decide)) hg rfl (pa_cons (pv 0) (pa_cons (pe_use0 U_law_frames (hr.mono (by decide)) hg rfl) (pa_cons (pv 1) pa_nil))))))
  (pss_cons (ps_set (i := 5) sc_law_parts.nd rfl (Or.inl rfl) (pe_use U_law_heap (hr.mono (by decide)) hg rfl (pa_cons (pv 0) (pa_cons (pv 1) pa_nil))))
  (pss_cons (ps_set (i := 6) sc_law_parts.nd rfl (Or.inl rfl) (pe_lst (pa_cons (pe_use U_law_draw (hr.mono (by decide)) hg rfl (pa_cons (pv 0) (pa_cons pe_int pa_nil))) (pa_cons (pe_use U_law_draw (hr.mono (by decide)) hg rfl (pa_cons (pv 0) (pa_cons pe_int pa_nil))) (pa_cons (pe_op op_mul (pe_use U_law_draw (hr.mono (by decide)) hg rfl (pa_cons (pv 0) (pa_cons pe_int pa_nil))) (pe_use U_law_draw (hr.mono (by decide)) hg rfl (pa_cons (pv 0) (pa_cons pe_int pa_nil)))) pa_nil)))))
  (pss_one (ps_ret (pe_lst (pa_cons (pv 2) (pa_cons (pv 3) (pa_cons (pv 5) (pa_cons (pe_use U_law_text (hr.mono (by decide)) hg rfl (pa_cons (pv 0) (pa_cons pe_int pa_nil))) (pa_cons (pe_ix ix_list (pv 6) pe_int (fun _ _ => rfl)) (pa_cons (pe_use U_law_name (hr.mono (by decide)) hg rfl (pa_cons (pv 0) pa_nil)) (pa_cons (pe_ix ix_list (pv 6) pe_int (fun _ _ => rfl)) (pa_cons (pe_ix ix_list (pv 6) pe_int (fun _ _ => rfl)) pa_nil)))))))))))))))), ?_⟩
    refine ⟨_, rfl, p, dl, 13, rfl, B, by decide, fun r H1 r0 r1 B1 K1 => ⟨_, _, rfl, rfl, ?_⟩⟩
    obtain ⟨m, hm⟩ : ∃ m : Nat, (17 : Int) + r = (m : Int) := ⟨(17 + r).toNat, by omega⟩
    dsimp only
    rw [hm]
    refine ⟨_, rfl, rfl, fun tl H2 S2 T2 => ⟨_, rfl, p, dl, tl, coTab, m, rfl, T2, by decide, by decide, coTab_ok, by omega, by omega, B1.same S2, fun vc kc fc H3 hmc dvc hfc B3 K3 => ?_⟩⟩
    have K13 := (K1.trans (Same.keep S2)).trans K3
    -- frames
    refine ⟨_, rfl, p, dl, 6, rfl, B3, by decide, fun n H4 n0 n1 B4 K4 => ?_⟩
    obtain ⟨n, rfl⟩ := Int.eq_ofNat_of_zero_le n0
    refine ⟨n, rfl, by omega, by omega, fun fl hfl => ?_⟩
    rw [Int.toNat_natCast]
    refine lc_it (walk_range (lo := 0) (n := n)) (fun i H' => Acc K H4 fl p dl (fun d => ∃ x, d = frD x ∧ FrSm m x) i H') (Acc.start hfl B4) (fun _ _ _ _ => trivial) ?_ ?_
    · rintro i x H5 H6 hi A ⟨rfl, rfl⟩
      refine ⟨rfl, tYes_of ?_⟩
      obtain ⟨_, _, _, _, _, _, B5, _⟩ := id A
      refine ⟨_, rfl, rfl, fun tl H7 S7 T7 => ⟨_, rfl, p, dl, tl, frTab, m, rfl, T7, frTab_ne, frTab_len, frTab_ok, by omega, by omega, B5.same S7, fun v kd fs H8 hmem dv hfs B8 K8 => ?_⟩⟩
      exact A.put (by omega) hfl B4 B8 ((Same.keep S7).trans K8) dv ⟨⟨kd, fs⟩, rfl, hmem, hfs⟩
    rintro H5 ⟨acc, ds, e5, a5, hl5, hp5, B5, K5⟩
    obtain ⟨frs, rfl, hfrs⟩ := ex_map hp5
    rw [List.length_map] at hl5
    have flp : fl ≠ p := (B4.ne_new hfl).1
    have hfln : H fl = none := none_back0 (K13.trans K4) B4.at_ hfl
    have dvc5 := (dvc.keepT (K4.keepT B3.at_)).keepT (K5.keepT B4.at_)
    have K15 := (K13.trans K4).trans K5
    have LF : ListAt K H5 fl (frs.map frD) := ⟨acc, e5, a5⟩
    -- heap
    refine ⟨_, rfl, _, rfl, p, dl, m, rfl, B5, by omega, by omega, fun hl obs H6 hhl L6 hol hos B6 K6 => ?_⟩
    have hhln : H hl = none := none_back0 K15 B5.at_ hhl
    have hlf : hl ≠ fl := fun e => by rw [e, e5] at hhl; cases hhl
    have hlp : hl ≠ p := (B5.ne_new hhl).1
    have LF6 := listAt_keep LF K6 flp B5.at_
    have dvc6 := dvc5.keepT (K6.keepT B5.at_)
    have K16 := K15.trans K6
    clear LF dvc dvc5 K13 K15 e5 a5 K4 K5 K6 B1 B3 B4 B5 B hfl hhl K1 K3 S2 T2
    -- numbers
    refine ⟨_, rfl, p, dl, 61, rfl, B6, by decide, fun m1 H7 _ _ B7 K7 => ⟨_, rfl, p, dl, 1000, rfl, B7, by decide, fun m2 H8 _ _ B8 K8 => ⟨_, rfl, p, dl, 1000, rfl, B8, by decide, fun m3 H9 q0 q1 B9 K9 => ⟨_, rfl, p, dl, 1000, rfl, B9, by decide, fun m4 H10 q2 q3 B10 K10 => ⟨_, _, rfl, rfl, .inl ⟨by omega, by omega⟩, sz_3, fun nl hnl => ?_⟩⟩⟩⟩⟩
    have K610 := ((K7.trans K8).trans K9).trans K10
    have S11 := Same.new (o := .lst [.int m1, .int m2, .int (m3 * m4)]) hnl
    have en := upd_same (H := H10) (a := nl) (o := HO.lst [.int m1, .int m2, .int (m3 * m4)])
    have nlp := (B10.ne_new hnl).1
    have B11 := B10.same S11
    have L11 := listAt_mono (listAt_keep L6 K610 hlp B6.at_) S11
    have LF11 := listAt_mono (listAt_keep LF6 K610 flp B6.at_) S11
    have dvc11 := (dvc6.keepT (K610.keepT B6.at_)).mono S11
    have K11 := (K16.trans K610).trans (Same.keep S11)
    generalize upd H10 nl (.lst [.int m1, .int m2, .int (m3 * m4)]) = H11 at en S11 B11 L11 LF11 dvc11 K11
    clear S11 hnl K610 K7 K8 K9 K10 B7 B8 B9 B10 L6 LF6 dvc6 K16 B6
    -- the list
    refine ⟨_, rfl, _, rfl, _, rfl, _, rfl, p, dl, 40, rfl, B11, by decide, fun js H12 hjs1 hjs2 B12 K12 => ?_⟩
    have en12 := K12 _ _ en nlp
    refine ⟨_, rfl, nl, _, _, _, rfl, rfl, SqL.of en12, at0, _, rfl, p, dl, rfl, B12, fun js2 H13 hj1 hj2 B13 K13 => ?_⟩
    have en13 := K13 _ _ en12 nlp
    refine ⟨_, rfl, nl, _, _, _, rfl, rfl, SqL.of en13, at1, _, rfl, nl, _, _, _, rfl, rfl, SqL.of en13, at2, Nat.le_of_ble_eq_true rfl, fun lp hlp2 => ?_⟩
    have S14 := Same.new (o := .lst [vc, .ref fl, .ref hl, .str (tx js), .int m1, .str (tx js2), .int m2, .int (m3 * m4)]) hlp2
    have K1113 := K12.trans K13
    refine k lp fl hl m ⟨⟨kc, fc⟩, frs, obs, tx js, m1, tx js2, m2, m3 * m4⟩ _ ⟨⟨vc, upd_same, (dvc11.keepT (K1113.keepT B11.at_)).mono S14⟩, listAt_mono (listAt_keep LF11 K1113 flp B11.at_) S14, listAt_mono (listAt_keep L11 K1113 hlp B11.at_) S14⟩
      ⟨⟨hmc, hfc⟩, by show frs.length ≤ 5; omega, hfrs, hol, hos⟩ (by omega) (by omega) (none_back0 (K11.trans K1113) B13.at_ hlp2) hhln hfln hlf (B13.same S14) ((K11.trans K1113).trans (Same.keep S14))
--SPLIT
end

abbrev s_law_made : Stmt := top 46
abbrev N_law_made : List Str := ["parts", "heap"]
abbrev P_law_made : List Str := ["parts"]
theorem sc_law_made : FnScope N_law_made P_law_made (defScope s_law_made) := ⟨rfl, rfl, rfl, by decide +kernel, rfl, by decide +kernel, by decide +kernel⟩
abbrev s_law_machine_is : Stmt := top 47
abbrev N_law_machine_is : List Str := ["actual", "parts", "rest"]
abbrev P_law_machine_is : List Str := ["actual", "parts"]
theorem sc_law_machine_is : FnScope N_law_machine_is P_law_machine_is (defScope s_law_machine_is) := ⟨rfl, rfl, rfl, by decide +kernel, rfl, by decide +kernel, by decide +kernel⟩
section
variable {P : Program} {w : World} {K : PySem.W.Frag} {mg : Str → Option Value} {base : Heap}
theorem ValSm.up {m n : Nat} (h : m ≤ n) : ∀ {x : Val}, ValSm m x → ValSm n x
  | .none, _ => trivial
  | .bool _, _ => trivial
  | .int _, a => a
  | .text _, a => a
  | .span _ _, a => a
  | .built _, a => a
  | .host _, a => a
  | .ref _, a => Nat.lt_of_lt_of_le a h
theorem FldSm.up {m n : Nat} (h : m ≤ n) : ∀ {x : Fld}, FldSm m x → FldSm n x
  | .v _, a => ValSm.up h a
  | .V _, a => ⟨a.1, fun x hx => (a.2 x hx).up h⟩
  | .W _, a => ⟨a.1, fun x hx => ⟨(a.2 x hx).1.up h, (a.2 x hx).2.up h⟩⟩
  | .X _, a => ⟨a.1, fun x hx => ⟨(a.2 x hx).1, (a.2 x hx).2.up h⟩⟩
  | .t _, a => a
  | .a _, a => Nat.lt_of_lt_of_le a h
  | .b _, a => ⟨a.1, Int.lt_of_lt_of_le a.2 (by omega)⟩
  | .n _, a => a
  | .x _, a => a
  | .s0, a => a
  | .s1 _, a => a
  | .s2 _ _, a => ⟨a.1, a.2.up h⟩
theorem FrSm.up {m n : Nat} (h : m ≤ n) {f : Fr} (a : FrSm m f) : FrSm n f := ⟨a.1, fun x hx => (a.2 x hx).up h⟩
theorem Fl2Sm.up {m n : Nat} (h : m ≤ n) : ∀ {x : Fl2}, Fl2Sm m x → Fl2Sm n x
  | .one _, a => FldSm.up h a
  | .fr _, a => ⟨a.1, fun f hf => (a.2 f hf).up h⟩
theorem ObSm.up {m n : Nat} (h : m ≤ n) {o : Ob} (a : ObSm m o) : ObSm n o := ⟨a.1, fun x hx => (a.2 x hx).up h⟩
/-! what a machine's parts are as data -/
theorem wd_val {n : Nat} (x : Val) : Wd (n + 1) (valD x) := by
  cases x <;> exact .tup (by simp) fun d hd => by
    simp only [List.mem_cons, List.not_mem_nil, or_false] at hd
    first
      | (subst hd; first | exact .str _ | exact .int _ | exact .bool _)
      | (rcases hd with rfl | rfl <;> first | exact .str _ | exact .int _ | exact .bool _)
      | (rcases hd with rfl | rfl | rfl <;> first | exact .str _ | exact .int _ | exact .bool _)
theorem wd_tree {n : Nat} {d : PyData} (h : TreeD n d) : Wd n d := by
  induction h with
  | str js _ _ => exact .str _
  | int i _ => exact .int i
  | bool b => exact .bool b
  | tup ds h1 _ ih => exact .tup (by omega) ih
theorem wd_fld {m : Nat} : ∀ {x : Fld}, FldSm m x → Wd 3 (fldD x)
  | .v x, _ => wd_val x
  | .V xs, h => .tup (by rw [List.length_map]; have := h.1; omega) fun d hd => by obtain ⟨x, _, rfl⟩ := List.mem_map.mp hd; exact wd_val x
  | .W ps, h => .tup (by rw [List.length_map]; have := h.1; omega) fun d hd => by
      obtain ⟨x, _, rfl⟩ := List.mem_map.mp hd
      refine .tup (by simp) fun d hd => ?_
      simp only [List.mem_cons, List.not_mem_nil, or_false] at hd
      rcases hd with rfl | rfl <;> exact wd_val _
  | .X ps, h => .tup (by rw [List.length_map]; have := h.1; omega) fun d hd => by
      obtain ⟨x, _, rfl⟩ := List.mem_map.mp hd
      refine .tup (by simp) fun d hd => ?_
      simp only [List.mem_cons, List.not_mem_nil, or_false] at hd
      rcases hd with rfl | rfl
      · exact .str _
      · exact wd_val _
  | .t d, h => wd_tree h
  | .a k, _ => .int _
  | .b k, _ => .int _
  | .n k, _ => .int _
  | .x js, _ => .str _
  | .s0, _ => .tup (by simp) (by simp)
  | .s1 z, _ => .tup (by simp) fun d hd => by rw [List.mem_singleton.mp hd]; exact .str _
  | .s2 z x, _ => .tup (by simp) fun d hd => by
      simp only [List.mem_cons, List.not_mem_nil, or_false] at hd
      rcases hd with rfl | rfl
      · exact .str _
      · exact wd_val _
theorem wd_row {n m : Nat} {kd : Str} {ds : List PyData} (hl : ds.length ≤ 20) (h : ∀ d ∈ ds, Wd n d) (hm : n + 1 ≤ m) : Wd m (.tuple (.str kd :: ds)) :=
  (Wd.tup (n := n) (by simp; omega) fun d hd => by
    rcases List.mem_cons.mp hd with rfl | hd
    · exact .str _
    · exact h d hd).up hm
theorem coTab_len {kd : Str} {ls : List Nat} (h : (kd, ls) ∈ coTab) : ls.length ≤ 10 := (coTab_ok _ h).2
theorem frTab_len10 {kd : Str} {ls : List Nat} (h : (kd, ls) ∈ frTab) : ls.length ≤ 10 := (frTab_ok _ h).2
theorem obTab_len10 {kd : Str} {ls : List Nat} (h : (kd, ls) ∈ obTab) : ls.length ≤ 10 := (obTab_ok _ h).2
theorem wd_fr {m : Nat} {f : Fr} (hl : f.fs.length ≤ 20) (h : ∀ x ∈ f.fs, FldSm m x) : Wd 4 (frD f) :=
  wd_row (by rw [List.length_map]; exact hl) (fun d hd => by obtain ⟨x, hx, rfl⟩ := List.mem_map.mp hd; exact wd_fld (h x hx)) (by decide)
theorem FrSm.wd {m : Nat} {f : Fr} (h : FrSm m f) : Wd 4 (frD f) := wd_fr (by have := frTab_len10 h.1; rw [List.length_map] at this; omega) h.2
theorem wd_fl2 {m : Nat} : ∀ {x : Fl2}, Fl2Sm m x → Wd 5 (fl2D x)
  | .one _, h => (wd_fld h).up (by decide)
  | .fr _, h => .tup (by rw [List.length_map]; have := h.1; omega) fun d hd => by obtain ⟨f, hf, rfl⟩ := List.mem_map.mp hd; exact (h.2 f hf).wd
theorem ObSm.wd {m : Nat} {o : Ob} (h : ObSm m o) : Wd 6 (obD o) :=
  wd_row (by rw [List.length_map]; have := obTab_len10 h.1; rw [List.length_map] at this; omega) (fun d hd => by obtain ⟨x, hx, rfl⟩ := List.mem_map.mp hd; exact wd_fl2 (h.2 x hx)) (by decide)
/-- a machine that holds the parts -/
structure MacAt (K : PySem.W.Frag) (C : Addr) (H : Hp) (ma fl hl : Addr) (P : Pt) : Prop where
  ex : ∃ vc, MAt C H ma vc (.ref fl) (.ref hl) (.str P.out) (.int P.act) (.str P.here) (.int P.line) (.int P.steps) ∧ Dt K H vc (frD P.c)
  f : ListAt K H fl (P.frs.map frD)
  h : ListAt K H hl (P.obs.map obD)
theorem MacAt.same {C : Addr} {H H' : Hp} {ma fl hl : Addr} {P : Pt} (A : MacAt K C H ma fl hl P) (S : Same H H') : MacAt K C H' ma fl hl P := ⟨let ⟨v, e, d⟩ := A.ex; ⟨v, e.same S, d.mono S⟩, listAt_mono A.f S, listAt_mono A.h S⟩
def spMadeM (K : PySem.W.Frag) (C : Addr) : Sp := fun vs H Q _ => ∃ (lp fl hl : Addr) (P : Pt), vs = [.ref lp] ∧ PtAt K H lp fl hl P ∧ ∀ ma fl' hl' H', MacAt K C H' ma fl' hl' P → Same H H' → H ma = none → H fl' = none → H hl' = none → fl' ≠ hl' → Q (.ref ma) H'
theorem ok_made {C : Addr} {f : Addr} {fd : FuncData} (F : Fun K "_law_made" "_law_made" s_law_made f fd) (T : Txt K mg) (UC_Machine : UseC K mg "Machine" fM C) (U_Machine___init__ : UseK P w K mg base "Machine" C 1 P_Machine___init__ (spMInit C)) : FnG P w K mg base CX0 3 f fd P_law_made (spMadeM K C) := by
  refine okG0 F sc_law_made (fun vs H Q E h => ?_) fun cdv A outer s H vs Q E hr hg h => ?_
  · obtain ⟨lp, fl, hl, P, rfl, _⟩ := h
    rfl
  · obtain ⟨lp, fl, hl, P, rfl, PA, k⟩ := h
    refine ⟨_, (pss_cons (ps_set (i := 1) sc_law_made.nd rfl (Or.inl rfl) (pe_callTy call_list_of (by rfl) T.b_list (by decide +kernel) (pa_cons (pe_ix ix_list (pv 0) pe_int (fun _ _ => rfl)) pa_nil)))
  (pss_one (ps_ret (pe_mk U_Machine___init__ (hr.mono (by decide)) rfl (pa_cons (pe_ix ix_list (pv 0) pe_int (fun _ _ => rfl)) (pa_cons (pe_callTy call_list_of (by rfl) T.b_list (by decide +kernel) (pa_cons (pe_ix ix_list (pv 0) pe_int (fun _ _ => rfl)) pa_nil)) (pa_cons (pv 1) (pa_cons (pe_ix ix_list (pv 0) pe_int (fun _ _ => rfl)) (pa_cons (pe_ix ix_list (pv 0) pe_int (fun _ _ => rfl)) (pa_cons (pe_ix ix_list (pv 0) pe_int (fun _ _ => rfl)) (pa_cons (pe_ix ix_list (pv 0) pe_int (fun _ _ => rfl)) (pa_cons (pe_ix ix_list (pv 0) pe_int (fun _ _ => rfl)) pa_nil)))))))))))), ?_⟩
    obtain ⟨vc, e, dvc⟩ := PA.ex
    obtain ⟨xs, ex, ax⟩ := PA.h
    obtain ⟨ys, ey, ay⟩ := PA.f
    refine ⟨_, rfl, lp, _, _, _, rfl, rfl, SqL.of e, at2, hl, xs, rfl, .inl (SqL.of ex), fun h2 hh2 => ?_⟩
    have S1 := Same.new (o := .lst xs) hh2
    have eh2 := upd_same (H := H) (a := h2) (o := HO.lst xs)
    generalize upd H h2 (.lst xs) = H1 at S1 eh2
    have e1 := S1 _ _ e
    refine ⟨_, rfl, lp, _, _, _, rfl, rfl, SqL.of e1, at0, _, rfl, lp, _, _, _, rfl, rfl, SqL.of e1, at1, fl, ys, rfl, .inl (SqL.of (S1 _ _ ey)), fun f2 hf2 => ?_⟩
    have S2 := Same.new (o := .lst ys) hf2
    have ef2 := upd_same (H := H1) (a := f2) (o := HO.lst ys)
    have hf2n : H f2 = none := same_none S1 hf2
    have hfh : f2 ≠ h2 := Ne.symm (ne_of_none eh2 hf2)
    generalize upd H1 f2 (.lst ys) = H2 at S2 ef2
    have e2 := S2 _ _ e1
    refine ⟨_, rfl, _, rfl, lp, _, _, _, rfl, rfl, SqL.of e2, at_of' (j := 3) rfl rfl, _, rfl, lp, _, _, _, rfl, rfl, SqL.of e2, at_of' (j := 4) rfl rfl, _, rfl, lp, _, _, _, rfl, rfl, SqL.of e2, at_of' (j := 5) rfl rfl, _, rfl, lp, _, _, _, rfl, rfl, SqL.of e2, at_of' (j := 6) rfl rfl, _, rfl, lp, _, _, _, rfl, rfl, SqL.of e2, at_of' (j := 7) rfl rfl, ?_⟩
    intro m dx nm ndx ne
    have S4 : Same H2 (upd (upd H2 dx (.own m)) m (.ins C dx [])) := fun b o e => by rw [upd_ne (ne_of_none e nm), upd_ne (ne_of_none e ndx)]; exact e
    refine ⟨m, dx, _, _, _, _, _, _, _, _, rfl, upd_same, fun H3 hm keep => ⟨rfl, ?_⟩⟩
    have S5 : Same H2 H3 := fun b o e => keep _ _ (S4 _ _ e) (ne_of_none e nm)
    have S25 := S2.trans S5
    have S15 := S1.trans S25
    exact k m f2 h2 H3 ⟨⟨_, ⟨dx, hm⟩, dvc.mono S15⟩, ⟨ys, S5 _ _ ef2, ay.mono S15⟩, ⟨xs, S25 _ _ eh2, ax.mono S15⟩⟩ S15 (same_none (S1.trans S2) nm) hf2n hh2 hfh
def spMis (K : PySem.W.Frag) (C : Addr) : Sp := fun vs H Q _ => ∃ (ma fl hl lp fl' hl' : Addr) (P : Pt) (m : Nat), vs = [.ref ma, .ref lp] ∧ MacAt K C H ma fl hl P ∧ PtAt K H lp fl' hl' P ∧ PtSm m P ∧ m ≤ 500 ∧ ∀ H', Same H H' → Q (.bl true) H'
theorem ok_mis {C : Addr} {f : Addr} {fd : FuncData} (F : Fun K "_law_machine_is" "_law_machine_is" s_law_machine_is f fd) (T : Txt K mg) (UC_Machine : UseC K mg "Machine" fM C) (U_law_same : Use P w K mg base CX0 "_law_same" 9 P_law_same (spSameD K 7)) : FnG P w K mg base CX0 10 f fd P_law_machine_is (spMis K C) := by
  refine okG0 F sc_law_machine_is (fun vs H Q E h => ?_) fun cdv A outer s H vs Q E hr hg h => ?_
  · obtain ⟨ma, fl, hl, lp, fl', hl', P, m, rfl, _⟩ := h
    rfl
  · obtain ⟨ma, fl, hl, lp, fl', hl', P, m, rfl, MA, PA, sm, hm, k⟩ := h
    refine ⟨_, (pss_cons (ps_if (pt_not (pt_val (pe_use U_law_same (hr.mono (by decide)) hg rfl (pa_cons (pe_fd UC_Machine (by decide +kernel) (pv 0)) (pa_cons (pe_ix ix_list (pv 1) pe_int (fun _ _ => rfl)) pa_nil)))))
   (pss_one (ps_ret pe_bl))
   pss_nil)
  (pss_cons (ps_if (PW.pt (pw_or (pt_not (pt_val (pe_callB call_isi (by rfl) T.b_isinstance (by decide +kernel) (pa_cons (pe_fd UC_Machine (by decide +kernel) (pv 0)) (pa_cons (pe_bltn (v := .ty "list") (by rfl) T.b_list (by decide +kernel) rfl) pa_nil))))) (pw_or1 (pt_not (pt_val (pe_use U_law_same (hr.mono (by decide)) hg rfl (pa_cons (pe_callTy call_tuple_of (by rfl) T.b_tuple (by decide +kernel) (pa_cons (pe_fd UC_Machine (by decide +kernel) (pv 0)) pa_nil)) (pa_cons (pe_callTy call_tuple_of (by rfl) T.b_tuple (by decide +kernel) (pa_cons (pe_ix ix_list (pv 1) pe_int (fun _ _ => rfl)) pa_nil)) pa_nil))))))))
   (pss_one (ps_ret pe_bl))
   pss_nil)
  (pss_cons (ps_if (PW.pt (pw_or (pt_not (pt_val (pe_callB call_isi (by rfl) T.b_isinstance (by decide +kernel) (pa_cons (pe_fd UC_Machine (by decide +kernel) (pv 0)) (pa_cons (pe_bltn (v := .ty "list") (by rfl) T.b_list (by decide +kernel) rfl) pa_nil))))) (pw_or1 (pt_not (pt_val (pe_use U_law_same (hr.mono (by decide)) hg rfl (pa_cons (pe_callTy call_tuple_of (by rfl) T.b_tuple (by decide +kernel) (pa_cons (pe_fd UC_Machine (by decide +kernel) (pv 0)) pa_nil)) (pa_cons (pe_callTy call_tuple_of (by rfl) T.b_tuple (by decide +kernel) (pa_cons (pe_ix ix_list (pv 1) pe_int (fun _ _ => rfl)) pa_nil)) pa_nil))))))))
   (pss_one (ps_ret pe_bl))
   pss_nil)
  (pss_cons (ps_set (i := 2) sc_law_machine_is.nd rfl (Or.inl rfl) (pe_tup (pa_cons (pe_fd UC_Machine (by decide +kernel) (pv 0)) (pa_cons (pe_fd UC_Machine (by decide +kernel) (pv 0)) (pa_cons (pe_fd UC_Machine (by decide +kernel) (pv 0)) (pa_cons (pe_fd UC_Machine (by decide +kernel) (pv 0)) (pa_cons (pe_fd UC_Machine (by decide +kernel) (pv 0)) pa_nil)))))))
  (pss_one (ps_ret (pe_use U_law_same (hr.mono (by decide)) hg rfl (pa_cons (pv 2) (pa_cons (pe_tup (pa_cons (pe_ix ix_list (pv 1) pe_int (fun _ _ => rfl)) (pa_cons (pe_ix ix_list (pv 1) pe_int (fun _ _ => rfl)) (pa_cons (pe_ix ix_list (pv 1) pe_int (fun _ _ => rfl)) (pa_cons (pe_ix ix_list (pv 1) pe_int (fun _ _ => rfl)) (pa_cons (pe_ix ix_list (pv 1) pe_int (fun _ _ => rfl)) pa_nil)))))) pa_nil))))))))), ?_⟩
    obtain ⟨vc, ⟨dx, em⟩, dvc⟩ := MA.ex
    obtain ⟨vc', e, dvc'⟩ := PA.ex
    obtain ⟨xs, ex, ax⟩ := MA.h
    obtain ⟨ys, ey, ay⟩ := MA.f
    obtain ⟨xs', ex', ax'⟩ := PA.h
    obtain ⟨ys', ey', ay'⟩ := PA.f
    refine ⟨_, rfl, ma, dx, _, _, rfl, em, mf_control, _, rfl, lp, _, _, _, rfl, rfl, SqL.of e, at0, vc, vc', frD P.c, rfl, dvc, dvc', ?_, true, rfl, iteFb rfl ?_⟩
    · exact (wd_fr (by have := coTab_len sm.c.1; rw [List.length_map] at this; omega) sm.c.2).up (by decide)
    refine ⟨_, rfl, ma, dx, _, _, rfl, em, mf_frames, _, _, _, _, true, rfl, .ty _, .base (.lst ey), if_pos (beq_self_eq_true _), _, rfl, iteFb rfl ?_⟩
    refine ⟨_, rfl, ma, dx, _, _, rfl, em, mf_frames, fl, ys, rfl, .inl ⟨SqL.of ey, fun t1 h1 => ?_⟩⟩
    have S1 := Same.new (o := .tup ys) h1
    refine ⟨_, rfl, lp, _, _, _, rfl, rfl, SqL.of (S1 _ _ e), at1, fl', ys', rfl, .inl ⟨SqL.of (S1 _ _ ey'), fun t2 h2 => ?_⟩⟩
    have S2 := Same.new (o := .tup ys') h2
    have S12 := S1.trans S2
    refine ⟨.ref t1, .ref t2, .tuple (P.frs.map frD), rfl, (Dt.made h1 ay).mono S2, Dt.made h2 (ay'.mono S1), ?_, true, rfl, iteFb rfl ?_⟩
    · exact (Wd.tup (n := 4) (by rw [List.length_map]; have := sm.fl; omega) fun d hd => by obtain ⟨x, hx, rfl⟩ := List.mem_map.mp hd; exact (sm.f x hx).wd).up (by decide)
    have em2 := S12 _ _ em
    have e2 := S12 _ _ e
    have ex2 := S12 _ _ ex
    have ex2' := S12 _ _ ex'
    have ax2 := ax.mono S12
    have ax2' := ax'.mono S12
    generalize upd (upd H t1 (.tup ys)) t2 (.tup ys') = H2 at S12 em2 e2 ex2 ex2' ax2 ax2'
    clear S1 S2 h1 h2
    refine ⟨_, rfl, ma, dx, _, _, rfl, em2, mf_heap, _, _, _, _, true, rfl, .ty _, .base (.lst ex2), if_pos (beq_self_eq_true _), _, rfl, iteFb rfl ?_⟩
    refine ⟨_, rfl, ma, dx, _, _, rfl, em2, mf_heap, hl, xs, rfl, .inl ⟨SqL.of ex2, fun t1 h1 => ?_⟩⟩
    have S1 := Same.new (o := .tup xs) h1
    refine ⟨_, rfl, lp, _, _, _, rfl, rfl, SqL.of (S1 _ _ e2), at2, hl', xs', rfl, .inl ⟨SqL.of (S1 _ _ ex2'), fun t2 h2 => ?_⟩⟩
    have S2 := Same.new (o := .tup xs') h2
    have S13 := S1.trans S2
    refine ⟨.ref t1, .ref t2, .tuple (P.obs.map obD), rfl, (Dt.made h1 ax2).mono S2, Dt.made h2 (ax2'.mono S1), ?_, true, rfl, iteFb rfl ?_⟩
    · exact Wd.tup (n := 6) (by rw [List.length_map, sm.ol]; omega) fun d hd => by obtain ⟨x, hx, rfl⟩ := List.mem_map.mp hd; exact (sm.o x hx).wd
    have em3 := S13 _ _ em2
    have e3 := S13 _ _ e2
    have S03 := S12.trans S13
    generalize upd (upd H2 t1 (.tup xs)) t2 (.tup xs') = H3 at S03 em3 e3
    refine ⟨_, rfl, ma, dx, _, _, rfl, em3, mf_out, _, rfl, ma, dx, _, _, rfl, em3, mf_active, _, rfl, ma, dx, _, _, rfl, em3, mf_here, _, rfl, ma, dx, _, _, rfl, em3, mf_line, _, rfl, ma, dx, _, _, rfl, em3, mf_steps, sz_5, fun u hu => ?_⟩
    have S4 := Same.new (o := .tup [.str P.out, .int P.act, .str P.here, .int P.line, .int P.steps]) hu
    have e4 := S4 _ _ e3
    have d4 := Dt.made (K := K) hu (.cons (.str P.out) (.cons (.int P.act) (.cons (.str P.here) (.cons (.int P.line) (.cons (.int P.steps) .nil)))))
    refine ⟨_, rfl, _, rfl, lp, _, _, _, rfl, rfl, SqL.of e4, at_of' (j := 3) rfl rfl, _, rfl, lp, _, _, _, rfl, rfl, SqL.of e4, at_of' (j := 4) rfl rfl, _, rfl, lp, _, _, _, rfl, rfl, SqL.of e4, at_of' (j := 5) rfl rfl, _, rfl, lp, _, _, _, rfl, rfl, SqL.of e4, at_of' (j := 6) rfl rfl, _, rfl, lp, _, _, _, rfl, rfl, SqL.of e4, at_of' (j := 7) rfl rfl, sz_5, fun u2 hu2 => ?_⟩
    have S5 := Same.new (o := .tup [.str P.out, .int P.act, .str P.here, .int P.line, .int P.steps]) hu2
    refine ⟨.ref u, .ref u2, _, rfl, d4.mono S5, Dt.made (K := K) hu2 (.cons (.str P.out) (.cons (.int P.act) (.cons (.str P.here) (.cons (.int P.line) (.cons (.int P.steps) .nil))))), ?_, k _ ((S03.trans S4).trans S5)⟩
    refine (Wd.tup (n := 0) (by simp) fun d hd => ?_).up (by decide)
    simp only [List.mem_cons, List.not_mem_nil, or_false] at hd
    rcases hd with rfl | rfl | rfl | rfl | rfl
    · exact .str _
    · exact .int _
    · exact .str _
    · exact .int _
    · exact .int _
--SPLIT
end

abbrev s_add_new : Stmt := top 13
abbrev N_add_new : List Str := ["found", "known", "references", "k"]
abbrev P_add_new : List Str := ["found", "known", "references"]
theorem sc_add_new : FnScope N_add_new P_add_new (defScope s_add_new) := ⟨rfl, rfl, rfl, by decide +kernel, rfl, by decide +kernel, by decide +kernel⟩
abbrev s_reached : Stmt := top 10
abbrev N_reached : List Str := ["machine", "found", "known", "k", "frame", "at"]
abbrev P_reached : List Str := ["machine"]
theorem sc_reached : FnScope N_reached P_reached (defScope s_reached) := ⟨rfl, rfl, rfl, by decide +kernel, rfl, by decide +kernel, by decide +kernel⟩
abbrev s_law_reached : Stmt := top 48
abbrev N_law_reached : List Str := ["parts", "order", "news", "frame", "at", "k"]
abbrev P_law_reached : List Str := ["parts"]
theorem sc_law_reached : FnScope N_law_reached P_law_reached (defScope s_law_reached) := ⟨rfl, rfl, rfl, by decide +kernel, rfl, by decide +kernel, by decide +kernel⟩
section
variable {P : Program} {w : World} {K : PySem.W.Frag} {mg : Str → Option Value} {base : Heap}
def spAddNew (K : PySem.W.Frag) : Sp := fun vs H Q _ => ∃ (fa ka ra : Addr) (fnd rs : List Int), vs = [.ref fa, .ref ka, .ref ra] ∧ H fa = some (.lst (fnd.map V.int)) ∧ KnAt H ka fnd ∧ H ra = some (.lst (rs.map V.int)) ∧ ra ≠ fa ∧ fnd.length + rs.length ≤ 1000000 ∧
  ∀ H', H' fa = some (.lst ((addN fnd rs).map V.int)) → KnAt H' ka (addN fnd rs) → (∀ b o, H b = some o → b ≠ fa → b ≠ ka → H' b = some o) → Q .non H'
theorem ok_addnew {f : Addr} {fd : FuncData} (F : Fun K "_add_new" "_add_new" s_add_new f fd) (T : Txt K mg) : FnG P w K mg base CX0 1 f fd P_add_new (spAddNew K) := by
  refine okG0 F sc_add_new (fun vs H Q E h => ?_) fun cdv A outer s H vs Q E hr hg h => ?_
  · obtain ⟨fa, ka, ra, fnd, rs, rfl, _⟩ := h
    rfl
  · obtain ⟨fa, ka, ra, fnd, rs, rfl, ef, KA, er, hne, hl, k⟩ := h
    have hu : (A.deeper (envOfC "_add_new" (defScope s_add_new) s.heap.objs.size f cdv)).units + 1 < cLine := Nat.lt_of_le_of_lt (by omega) hr.units
    refine ⟨_, (pss_one (ps_for PassesOwn.never rfl (pi_list (pv 2)) (pg_name (i := 3) sc_add_new.nd rfl (Or.inl rfl))
   (pss_one (ps_if (pt_cmp (pc_dnotin hu (pv 3) (pv 1)))
   (pss_cons (ps_dput hu (pv 1) (pv 3) pe_bl rfl)
  (pss_one (ps_expr (pe_bm PySem.F.plainAttrs_list PySem.F.slot_list_append PySem.F.type_list_append mt_append (pv 0) (pa_cons (pv 3) pa_nil)))))
   pss_nil)))), ?_⟩
    have hfk : fa ≠ ka := fun e => by obtain ⟨kvs, e1, _⟩ := KA; subst e; rw [ef] at e1; cases e1
    have hrk : ra ≠ ka := fun e => by obtain ⟨kvs, e1, _⟩ := KA; subst e; rw [er] at e1; cases e1
    refine ⟨_, rfl, ra, rfl, ⟨_, SqL.of er⟩, ?_⟩
    refine for_list (xs := rs.map V.int) (fun i σ H1 => ∃ x3, σ = [some (.ref fa), some (.ref ka), some (.ref ra), x3] ∧ H1 fa = some (.lst ((addN fnd (rs.take i)).map V.int)) ∧ KnAt H1 ka (addN fnd (rs.take i)) ∧ H1 ra = some (.lst (rs.map V.int)) ∧ (∀ b o, H b = some o → b ≠ fa → b ≠ ka → H1 b = some o)) ⟨none, rfl, ef, KA, er, fun _ _ h _ _ => h⟩ ?_ ?_ ?_
    · rintro i σ H1 _ ⟨x3, rfl, _, _, e3, _⟩
      exact SqL.of e3
    · rintro i x σ H1 hx ⟨x3, rfl, e1, KA1, e3, kp⟩
      rw [List.getElem?_map] at hx
      obtain ⟨z, hz, rfl⟩ := Option.map_eq_some_iff.mp hx
      have hil : i < rs.length := (List.getElem?_eq_some_iff.mp hz).1
      have hstep : addN fnd (rs.take (i + 1)) = if z ∈ addN fnd (rs.take i) then addN fnd (rs.take i) else addN fnd (rs.take i) ++ [z] := by
        rw [List.take_succ, hz, addN_app]
        rfl
      obtain ⟨kvs, ek, hkl, hk⟩ := id KA1
      have hlen := addN_len fnd (rs.take i)
      rw [List.length_take] at hlen
      refine ⟨_, rfl, _, rfl, ka, _, rfl, DGet.k (k := .inl z) ek, ?_⟩
      rw [hk z]
      by_cases c : z ∈ addN fnd (rs.take i)
      · rw [decide_eq_true c]
        rw [if_pos c] at hstep
        exact ⟨_, rfl, _, rfl, by rw [hstep]; exact e1, by rw [hstep]; exact KA1, e3, kp⟩
      · rw [decide_eq_false c]
        rw [if_neg c] at hstep
        refine ⟨_, rfl, ?_⟩
        refine ⟨_, rfl, _, rfl, ka, _, rfl, DPut.k (k := .inl z) ek (Nat.lt_of_le_of_lt (show _ ≤ 1000000 by omega) (by decide)), ?_⟩
        have e1' : upd H1 ka (.dK (putK kvs (.inl z) (.bl true))) fa = some (.lst ((addN fnd (rs.take i)).map V.int)) := by rw [upd_ne hfk]; exact e1
        refine ⟨_, rfl, .inl ⟨rfl, _, SqL.of e1'⟩, _, rfl, fa, _, _, rfl, rfl, e1', by rw [List.length_map]; exact Nat.lt_of_le_of_lt (show _ ≤ 1000000 by omega) (by decide), ?_⟩
        refine ⟨_, rfl, ?_, ?_, ?_, fun b o hb h1 h2 => ?_⟩
        · rw [upd_same, hstep, List.map_append]; rfl
        · rw [hstep]
          obtain ⟨kv2, a1, a2, a3⟩ := KA1.put (v := .bl true) (k := z) ek
          exact ⟨kv2, by rw [upd_ne (Ne.symm hfk)]; exact a1, a2, a3⟩
        · rw [upd_ne hne, upd_ne hrk]; exact e3
        · rw [upd_ne h1, upd_ne h2]; exact kp b o hb h1 h2
    · rintro σ H1 ⟨x3, rfl, e1, KA1, e3, kp⟩
      rw [List.length_map, List.take_length] at e1 KA1
      exact k _ e1 KA1 kp
def Pt.R (P : Pt) (k : Int) : List Int := match P.obs[k.toNat]? with
  | some o => obR o
  | none => []
def Pt.roots (P : Pt) : List Int := P.c.fs.flatMap fldR ++ P.frs.flatMap frR
theorem FldSm.r {m : Nat} {x : Fld} (h : FldSm m x) : ∀ k ∈ fldR x, 0 ≤ k ∧ k < (m : Int) := by
  have vr : ∀ {y : Val}, ValSm m y → ∀ k ∈ valR y, 0 ≤ k ∧ k < (m : Int) := fun {y} hy k hk => by
    cases y with
    | ref n =>
      rw [show valR (.ref n) = [(n : Int)] from rfl, List.mem_singleton] at hk
      have : n < m := hy
      omega
    | _ => cases hk
  have fv : (∀ y ∈ fldVs x, ValSm m y) → ∀ k ∈ (fldVs x).flatMap valR, 0 ≤ k ∧ k < (m : Int) := fun hv k hk => by
    obtain ⟨y, hy, hk⟩ := List.mem_flatMap.mp hk
    exact vr (hv y hy) k hk
  cases x with
  | v x => exact fv fun y hy => by rw [List.mem_singleton.mp (show y ∈ [x] from hy)]; exact h
  | V xs => exact fv h.2
  | W ps =>
    refine fv fun y hy => ?_
    · obtain ⟨p, hp, hy⟩ := List.mem_flatMap.mp (show y ∈ ps.flatMap fun p => [p.1, p.2] from hy)
      simp only [List.mem_cons, List.not_mem_nil, or_false] at hy
      rcases hy with rfl | rfl
      · exact (h.2 p hp).1
      · exact (h.2 p hp).2
  | X ps =>
    refine fv fun y hy => ?_
    · obtain ⟨p, hp, rfl⟩ := List.mem_map.mp (show y ∈ ps.map (·.2) from hy)
      exact (h.2 p hp).2
  | s2 z x => exact fv fun y hy => by rw [List.mem_singleton.mp (show y ∈ [x] from hy)]; exact h.2
  | a k => intro j hj; rw [List.mem_singleton.mp (show j ∈ [(k : Int)] from hj)]; have : k < m := h; omega
  | b k =>
    intro j hj
    have hj : j ∈ (if 0 ≤ k then [k] else []) := hj
    split at hj
    · rw [List.mem_singleton.mp hj]; exact ⟨by assumption, h.2⟩
    · cases hj
  | _ => intro j hj; cases hj
theorem FrSm.r {m : Nat} {f : Fr} (h : ∀ x ∈ f.fs, FldSm m x) : ∀ k ∈ frR f, 0 ≤ k ∧ k < (m : Int) := fun k hk => by
  obtain ⟨x, hx, hk⟩ := List.mem_flatMap.mp hk
  exact (h x hx).r k hk
theorem ObSm.r {m : Nat} {o : Ob} (h : ObSm m o) : ∀ k ∈ obR o, 0 ≤ k ∧ k < (m : Int) := fun k hk => by
  obtain ⟨x, hx, hk⟩ := List.mem_flatMap.mp hk
  have := h.2 x hx
  cases x with
  | one y => exact FldSm.r this k hk
  | fr l =>
    obtain ⟨g, hg, hk⟩ := List.mem_flatMap.mp (show k ∈ l.flatMap frR from hk)
    exact FrSm.r (this.2 g hg).2 k hk
theorem PtSm.R {m : Nat} {P : Pt} (h : PtSm m P) : ∀ j k, k ∈ P.R j → 0 ≤ k ∧ k < (m : Int) := fun j k hk => by
  unfold Pt.R at hk
  split at hk
  · rename_i o e
    exact (h.o o (List.mem_of_getElem? e)).r k hk
  · cases hk
theorem PtSm.roots {m : Nat} {P : Pt} (h : PtSm m P) : ∀ k ∈ P.roots, 0 ≤ k ∧ k < (m : Int) := fun k hk => by
  rcases List.mem_append.mp hk with hk | hk
  · obtain ⟨x, hx, hk⟩ := List.mem_flatMap.mp hk
    exact (h.c.2 x hx).r k hk
  · obtain ⟨g, hg, hk⟩ := List.mem_flatMap.mp hk
    exact FrSm.r (h.f g hg).2 k hk
theorem FrSm.n {m : Nat} {f : Fr} (h : FrSm m f) : (f.kd, f.fs.map ltr) ∈ frTab ∧ ∀ x ∈ f.fs, FldN x := ⟨h.1, fun x hx => (h.2 x hx).n⟩
theorem Fl2Sm.n {m : Nat} : ∀ {x : Fl2}, Fl2Sm m x → Fl2N x
  | .one _, h => FldSm.n h
  | .fr _, h => ⟨h.1, fun f hf => (h.2 f hf).n⟩
/-- what is found after t rounds -/
abbrev Pt.st (P : Pt) (t : Nat) : List Int := St P.R P.roots t
theorem obR_len {m : Nat} {o : Ob} (h : ObSm m o) : (obR o).length ≤ 2000 := by
  have h1 := take_len2 o.fs (fun x hx => (h.2 x hx).n) o.fs.length (Nat.le_refl _)
  rw [List.take_length] at h1
  have := obTab_len10 h.1
  rw [List.length_map] at this
  exact Nat.le_trans h1 (by omega)
theorem PtSm.Rlen {m : Nat} {P : Pt} (h : PtSm m P) (j : Int) : (P.R j).length ≤ 2000 := by
  unfold Pt.R
  split
  · rename_i o e
    exact obR_len (h.o o (List.mem_of_getElem? e))
  · simp
theorem PtSm.stlen {m : Nat} {P : Pt} (h : PtSm m P) (hm : 17 ≤ m) (t : Nat) : (P.st t).length ≤ m := nodup_len m _ (St_nodup t) (St_lt_m hm h.R h.roots t)
theorem PtSm.at {m : Nat} {P : Pt} (h : PtSm m P) (hm : 17 ≤ m) {t i : Nat} {k : Int} (e : (P.st t)[i]? = some k) : ∃ (j : Nat) (o : Ob), k = (j : Int) ∧ P.obs[j]? = some o ∧ ObSm m o ∧ P.R k = obR o := by
  obtain ⟨h0, h1⟩ := St_lt_m hm h.R h.roots t k (List.mem_of_getElem? e)
  obtain ⟨j, rfl⟩ := Int.eq_ofNat_of_zero_le h0
  have hj : j < P.obs.length := by rw [h.ol]; omega
  have ho : P.obs[j]? = some P.obs[j] := List.getElem?_eq_getElem hj
  refine ⟨j, _, rfl, ho, h.o _ (List.getElem_mem hj), ?_⟩
  unfold Pt.R
  rw [Int.toNat_natCast, ho]
def spReached (K : PySem.W.Frag) (C : Addr) : Sp := fun vs H Q _ => ∃ (ma fl hl : Addr) (P : Pt) (m : Nat), vs = [.ref ma] ∧ MacAt K C H ma fl hl P ∧ PtSm m P ∧ 17 ≤ m ∧ m ≤ 500 ∧
  ∀ l H' t, H l = none → Same H H' → StEnd P.R P.roots t → H' l = some (.lst ((P.st t).map V.int)) → Q (.ref l) H'
theorem ok_reached {C : Addr} {f : Addr} {fd : FuncData} (F : Fun K "reached" "reached" s_reached f fd) (T : Txt K mg) (UC_Machine : UseC K mg "Machine" fM C) (U_add_new : Use P w K mg base CX0 "_add_new" 1 P_add_new (spAddNew K)) (U_control_references : Use P w K mg base CX0 "control_references" 3 P_control_references (spRefsOf K coTab))
    (U_frame_references : Use P w K mg base CX0 "frame_references" 3 P_frame_references (spRefsOf K frTab)) (U_object_references : Use P w K mg base CX0 "object_references" 5 P_object_references (spORefs K)) : FnG P w K mg base CX0 6 f fd P_reached (spReached K C) := by
  refine okG0 F sc_reached (fun vs H Q E h => ?_) fun cdv A outer s H vs Q E hr hg h => ?_
  · obtain ⟨ma, fl, hl, P, m, rfl, _⟩ := h
    rfl
  · obtain ⟨ma, fl, hl, P, m, rfl, MA, sm, hm, hm2, k⟩ := h
    have hu : (A.deeper (envOfC "reached" (defScope s_reached) s.heap.objs.size f cdv)).units + 1 < cLine := Nat.lt_of_le_of_lt (by omega) hr.units
    refine ⟨_, (pss_cons (ps_set (i := 1) sc_reached.nd rfl (Or.inl rfl) (pe_listRg rfl (by rfl) T.b_list (prg_1 (by rfl) T.b_range (pe_globI T.c_FIRST_OBJECTS (by rfl)))))
  (pss_cons (ps_setDc (i := 2) (own := [("k", 3)]) (g := (gName 3)) rfl sc_reached.nd rfl rfl (swd_true rfl rfl rfl (by decide +kernel)) (pi_list (pv 1)) (blkOk_by (N := N_reached) (sc := defScope s_reached) (by decide +kernel)) (fun _ _ _ _ _ => (pg_name (i := 3) sc_reached.nd rfl (Or.inl rfl))) (fun _ _ _ _ _ => pts_nil) (fun _ _ _ _ _ => (pv 3)) (fun _ _ _ _ _ => pe_bl))
  (pss_cons (ps_expr (pe_use U_add_new (hr.mono (by decide)) hg rfl (pa_cons (pv 1) (pa_cons (pv 2) (pa_cons (pe_use U_control_references (hr.mono (by decide)) hg rfl (pa_cons (pe_fd UC_Machine (by decide +kernel) (pv 0)) pa_nil)) pa_nil)))))
  (pss_cons (ps_for PassesOwn.never rfl (pi_list (pe_fd UC_Machine (by decide +kernel) (pv 0))) (pg_name (i := 4) sc_reached.nd rfl (Or.inl rfl))
   (pss_one (ps_expr (pe_use U_add_new (hr.mono (by decide)) hg rfl (pa_cons (pv 1) (pa_cons (pv 2) (pa_cons (pe_use U_frame_references (hr.mono (by decide)) hg rfl (pa_cons (pv 4) pa_nil)) pa_nil)))))))
  (pss_cons (ps_set (i := 5) sc_reached.nd rfl (Or.inl rfl) pe_int)
  (pss_cons (ps_while PassesOwn.never (pt_up (pt_cmpR op_lt (pv 5) (pe_callB call_len (by rfl) T.b_len PySem.boot_len (pa_cons (pv 1) pa_nil)) (nomark _)))
   (pss_cons (ps_expr (pe_use U_add_new (hr.mono (by decide)) hg rfl (pa_cons (pv 1) (pa_cons (pv 2) (pa_cons (pe_use U_object_references (hr.mono (by decide)) hg rfl (pa_cons (pe_ix ix_list (pe_fd UC_Machine (by decide +kernel) (pv 0)) (pe_ix ix_list (pv 1) (pv 5) (fun _ _ => rfl)) (fun _ _ => rfl)) pa_nil)) pa_nil)))))
  (pss_one (ps_aug (i := 5) sc_reached.nd rfl (Or.inl rfl) pe_int ip_add))))
  (pss_one (ps_ret (pv 1))))))))), ?_⟩
    obtain ⟨vc, ⟨dx, em⟩, dvc⟩ := MA.ex
    obtain ⟨ys, ey, ay⟩ := id MA.f
    obtain ⟨xs, ex, ax⟩ := id MA.h
    -- found, known
    refine ⟨_, rfl, RgOk.of_le (by decide) (by decide) (by decide) (by decide), fun fa hfa => ?_⟩
    have S1 := Same.new (o := .lst (rgV 0 17)) hfa
    have ef := upd_same (H := H) (a := fa) (o := HO.lst (rgV 0 17))
    have erg : rgV 0 17 = (((List.range 17).map fun (i : Nat) => (i : Int))).map V.int := by decide
    generalize upd H fa (.lst (rgV 0 17)) = H1 at S1 ef
    rw [erg] at ef
    generalize hf17 : ((List.range 17).map fun (i : Nat) => (i : Int)) = f17 at ef
    have l17 : f17.length = 17 := by subst hf17; rfl
    refine ⟨_, rfl, fa, rfl, ⟨_, SqL.of ef⟩, fun ka hka => ?_⟩
    have hfk : fa ≠ ka := ne_of_none ef hka
    have hkn : H ka = none := same_none S1 hka
    refine dc_it (walk_list (xs := f17.map V.int)) (fun i H' => KnAt H' ka (f17.take i) ∧ (∀ b o, H1 b = some o → b ≠ ka → H' b = some o)) ⟨KnAt.nil, fun b o hb hn => by rw [upd_ne hn]; exact hb⟩ (fun i H' _ h => SqL.of (h.2 fa _ ef hfk)) ?_ ?_
    · rintro i x H5 H6 hi ⟨KA, kp⟩ ⟨rfl, hx⟩
      rw [List.getElem?_map] at hx
      obtain ⟨z, hz, rfl⟩ := Option.map_eq_some_iff.mp hx
      obtain ⟨kvs, ek, hkl, hk⟩ := id KA
      rw [List.length_take] at hkl
      refine ⟨rfl, tYes_of ⟨_, rfl, kvs, .inl z, rfl, ek, Nat.lt_of_le_of_lt (show _ ≤ 17 by omega) (by decide), ?_, fun b o hb hn => by rw [upd_ne hn]; exact kp b o hb hn⟩⟩
      have := KA.put (k := z) (v := .bl true) ek
      rw [List.take_succ, hz]
      exact this
    rintro H5 ⟨KA, kp⟩
    rw [List.length_map, List.take_length] at KA
    have ef5 := kp _ _ ef hfk
    have S5 : Same H H5 := fun b o hb => kp b o (S1 _ _ hb) (ne_of_none hb hkn)
    clear kp S1 ef hka
    have hc10 := coTab_len sm.c.1
    rw [List.length_map] at hc10
    have hcl : (P.c.fs.flatMap fldR).length ≤ 200 := by
      have := take_len P.c.fs (fun x hx => (sm.c.2 x hx).n) P.c.fs.length (Nat.le_refl _)
      rw [List.take_length] at this
      omega
    -- one more row of references
    have add : ∀ {H6 : Hp} {fnd : List Int}, H6 fa = some (.lst (fnd.map V.int)) → KnAt H6 ka fnd → Same H H6 → ∀ {H7 : Hp} {rl : Addr} {rs : List Int}, H6 rl = none → Same H6 H7 → H7 rl = some (.lst (rs.map V.int)) → fnd.length + rs.length ≤ 1000000 → ∀ (Q' : VK),
        (∀ H', H' fa = some (.lst ((addN fnd rs).map V.int)) → KnAt H' ka (addN fnd rs) → Same H H' → Q' .non H') → spAddNew K [.ref fa, .ref ka, .ref rl] H7 Q' E0 := by
      intro H6 fnd e6 k6 s6 H7 rl rs nl s7 el hln Q' kq
      exact ⟨fa, ka, rl, _, rs, rfl, s7 _ _ e6, k6.same s7, el, Ne.symm (ne_of_none e6 nl), hln, fun H' a b c => kq H' a b fun q o hq => c q o (s7 _ _ (s6 _ _ hq)) (ne_of_none hq hfa) (ne_of_none hq hkn)⟩
    refine ⟨_, rfl, _, rfl, _, rfl, ma, dx, _, _, rfl, S5 _ _ em, mf_control, vc, P.c.kd, P.c.fs, rfl, dvc.mono S5, sm.c.1, fun x hx => (sm.c.2 x hx).n, fun rl H6 hrl S6 erl => ?_⟩
    dsimp only [tNil]
    refine add ef5 KA S5 hrl S6 erl (by omega) _ fun H7 ef7 KA7 S7 => ?_
    clear hrl S6 erl H6 S5 ef5 KA H5
    -- frames
    refine ⟨_, rfl, ma, dx, _, _, rfl, S7 _ _ em, mf_frames, fl, rfl, ⟨_, SqL.of (S7 _ _ ey)⟩, ?_⟩
    have hfrl : ∀ i, ((P.frs.take i).flatMap frR).length ≤ 2000 := fun i => by
      have key : ∀ l : List Fr, (∀ f ∈ l, FrSm m f) → (l.flatMap frR).length ≤ 200 * l.length := fun l => by
        induction l with
        | nil => intro _; simp
        | cons f r ih =>
          intro h
          have h1 := ih fun g hg => h g (List.mem_cons_of_mem _ hg)
          have h2 : (frR f).length ≤ 200 := by
            have h3 := frTab_len10 (h f (by simp)).1
            have h4 := take_len f.fs (fun x hx => ((h f (by simp)).2 x hx).n) f.fs.length (Nat.le_refl _)
            rw [List.take_length] at h4
            rw [List.length_map] at h3
            exact Nat.le_trans h4 (by omega)
          rw [List.flatMap_cons, List.length_append, List.length_cons]; omega
      have h1 := key (P.frs.take i) fun f hf => sm.f f (List.mem_of_mem_take hf)
      have := sm.fl
      rw [List.length_take] at h1
      omega
    refine for_list (xs := ys) (fun i σ H' => ∃ x4, σ = [some (.ref ma), some (.ref fa), some (.ref ka), none, x4, none] ∧ H' fa = some (.lst ((addN (addN f17 (P.c.fs.flatMap fldR)) ((P.frs.take i).flatMap frR)).map V.int)) ∧ KnAt H' ka (addN (addN f17 (P.c.fs.flatMap fldR)) ((P.frs.take i).flatMap frR)) ∧ Same H H') ⟨none, rfl, ef7, KA7, S7⟩ ?_ ?_ ?_
    · rintro i σ H' _ ⟨x4, rfl, _, _, S'⟩
      exact SqL.of (S' _ _ ey)
    · rintro i v σ H8 hv ⟨x4, rfl, e8, K8, S8⟩
      obtain ⟨d, hd, dv⟩ := ay.getV hv
      rw [List.getElem?_map] at hd
      obtain ⟨g, hg', rfl⟩ := Option.map_eq_some_iff.mp hd
      have hgm := List.mem_of_getElem? hg'
      have hgs := sm.f g hgm
      refine ⟨_, rfl, _, rfl, _, rfl, v, g.kd, g.fs, rfl, dv.mono S8, hgs.1, fun x hx => (hgs.2 x hx).n, fun rl H6 hrl S6 erl => ?_⟩
      dsimp only [tNil]
      have hst : (P.frs.take (i + 1)).flatMap frR = (P.frs.take i).flatMap frR ++ g.fs.flatMap fldR := by
        rw [List.take_succ, hg', List.flatMap_append]
        simp [frR]
      have h1 := addN_len (addN f17 (P.c.fs.flatMap fldR)) ((P.frs.take i).flatMap frR)
      have h2 := addN_len f17 (P.c.fs.flatMap fldR)
      have h3 := hfrl i
      have h4 : (g.fs.flatMap fldR).length ≤ 2000 := by
        have h4 := hfrl (i + 1)
        rw [hst, List.length_append] at h4
        omega
      refine add e8 K8 S8 hrl S6 erl (by omega) _ fun H9 e9 K9 S9 => ⟨_, rfl, ?_, ?_, S9⟩
      · rw [hst, addN_app]; exact e9
      · rw [hst, addN_app]; exact K9
    rintro σ H8 ⟨x4, rfl, e8, K8, S8⟩
    have hyl : ys.length = P.frs.length := by rw [ay.length, List.length_map]
    rw [hyl, List.take_length, ← addN_app] at e8 K8
    have hst0 : addN f17 (P.c.fs.flatMap fldR ++ P.frs.flatMap frR) = P.st 0 := by subst hf17; rfl
    rw [hst0] at e8 K8
    -- the objects
    refine while_up (fun σ H' => ∃ (t : Nat), σ = [some (.ref ma), some (.ref fa), some (.ref ka), none, x4, some (.int (t : Int))] ∧ H' fa = some (.lst ((P.st t).map V.int)) ∧ KnAt H' ka (P.st t) ∧ Same H H' ∧ ∀ j < t, j < (P.st j).length) (fun (σ : L2.St) (_ : Hp) => match σ[5]? with | some (some (V.int j)) => (m + 1 - j).toNat | _ => 0) ⟨0, rfl, e8, K8, S8, by simp⟩ ?_
    rintro σ H9 ⟨t, rfl, e9, K9, S9, hgo⟩
    refine ⟨_, rfl, _, rfl, _, _, rfl, .inl ⟨_, SqL.of e9, rfl⟩, _, _, rfl, rfl, _, rfl, ?_⟩
    rw [List.length_map]
    refine ite3 (fun c => ?_) fun c => ?_
    · have c : t < (P.st t).length := by have := of_decide_eq_true c; omega
      have hz : (P.st t)[t]? = some (P.st t)[t] := List.getElem?_eq_getElem c
      generalize (P.st t)[t] = z at hz
      obtain ⟨j, o, rfl, ho, hos, hR⟩ := sm.at hm hz
      have hlm := sm.stlen hm t
      obtain ⟨v, hv, dv⟩ := ax.get (i := j) (d := obD o) (by rw [List.getElem?_map, ho]; rfl)
      refine ⟨_, rfl, _, rfl, _, rfl, ma, dx, _, _, rfl, S9 _ _ em, mf_heap, _, rfl, _, rfl, fa, _, _, _, rfl, rfl, SqL.of e9, atI_nat (by rw [List.getElem?_map, hz]; rfl), hl, _, _, _, rfl, rfl, SqL.of (S9 _ _ ex), atI_nat hv, ?_⟩
      refine ⟨v, o.kd, o.fs, rfl, dv.mono S9, hos.1, fun x hx => (hos.2 x hx).n, fun rl H6 hrl S6 erl => ?_⟩
      dsimp only [tNil]
      have hol := obR_len hos
      have hst := St_lt hz
      rw [hR] at hst
      refine add e9 K9 S9 hrl S6 (rs := obR o) erl (by omega) _ fun H10 e10 K10 S10 => ?_
      rw [← hst] at e10 K10
      refine ⟨_, rfl, _, _, rfl, rfl, ⟨t + 1, rfl, e10, K10, S10, fun i hi => ?_⟩, ?_⟩
      · by_cases h : i = t
        · subst h; exact c
        · exact hgo i (by omega)
      · show (m + 1 - ((t : Int) + 1)).toNat < (m + 1 - (t : Int)).toNat
        omega
    · have c : (P.st t).length ≤ t := by have := of_decide_eq_false c; omega
      exact ⟨_, rfl, k fa H9 t hfa S9 ⟨c, hgo⟩ e9⟩
--SPLIT
theorem ones_D (gs : List Fld) : (gs.map Fl2.one).map fl2D = gs.map fldD := by rw [List.map_map]; rfl
theorem ones_R (gs : List Fld) : (gs.map Fl2.one).flatMap fl2R = gs.flatMap fldR := by rw [List.flatMap_map]; rfl
theorem ones_l (gs : List Fld) : (gs.map Fl2.one).map ltr2 = gs.map ltr := by rw [List.map_map]; rfl
theorem ones_N {gs : List Fld} (h : ∀ x ∈ gs, FldN x) : ∀ x ∈ gs.map Fl2.one, Fl2N x := fun x hx => by
  obtain ⟨y, hy, rfl⟩ := List.mem_map.mp hx
  exact h y hy
theorem obTab_nd : (obTab.map (·.1)).Nodup := by decide +kernel
theorem coTab_nd : (coTab.map (·.1)).Nodup := by decide +kernel
theorem tabOk_up {tab : Tab} (h : TabOk flds tab) : TabOk (70 :: flds) tab := fun t ht => ⟨fun c hc => List.mem_cons_of_mem _ ((h t ht).1 c hc), (h t ht).2⟩
theorem inV_int (z : Int) (l : List Int) : inV (.int z) (l.map V.int) = decide (z ∈ l) := by
  induction l with
  | nil => simp [inV]
  | cons a r ih =>
    have h : inV (.int z) ((a :: r).map V.int) = (eqV (.int a) (.int z) || inV (.int z) (r.map V.int)) := by simp [inV]
    rw [h, ih]
    by_cases e : a = z
    · subst e; simp [eqV]
    · have : eqV (.int a) (.int z) = false := by simpa [eqV] using e
      rw [this]
      simp [Ne.symm e]
theorem flat_int (l : List Int) : (l.map V.int).all flatV = true := by
  rw [List.all_map]; exact List.all_eq_true.mpr fun x _ => rfl
theorem PtSm.rootlen {m : Nat} {P : Pt} (sm : PtSm m P) : P.roots.length ≤ 5000 ∧ (P.c.fs.flatMap fldR).length ≤ 200 ∧ ∀ i, ((P.frs.take i).flatMap frR).length ≤ 2000 := by
  have hc10 := coTab_len sm.c.1
  rw [List.length_map] at hc10
  have hcl : (P.c.fs.flatMap fldR).length ≤ 200 := by
    have := take_len P.c.fs (fun x hx => (sm.c.2 x hx).n) P.c.fs.length (Nat.le_refl _)
    rw [List.take_length] at this
    omega
  have hfrl : ∀ i, ((P.frs.take i).flatMap frR).length ≤ 2000 := fun i => by
    have key : ∀ l : List Fr, (∀ f ∈ l, FrSm m f) → (l.flatMap frR).length ≤ 200 * l.length := fun l => by
      induction l with
      | nil => intro _; simp
      | cons f r ih =>
        intro h
        have h1 := ih fun g hg => h g (List.mem_cons_of_mem _ hg)
        have h2 : (frR f).length ≤ 200 := by
          have h3 := frTab_len10 (h f (by simp)).1
          have h4 := take_len f.fs (fun x hx => ((h f (by simp)).2 x hx).n) f.fs.length (Nat.le_refl _)
          rw [List.take_length] at h4
          rw [List.length_map] at h3
          exact Nat.le_trans h4 (by omega)
        rw [List.flatMap_cons, List.length_append, List.length_cons]; omega
    have h1 := key (P.frs.take i) fun f hf => sm.f f (List.mem_of_mem_take hf)
    have := sm.fl
    rw [List.length_take] at h1
    omega
  refine ⟨?_, hcl, hfrl⟩
  have := hfrl P.frs.length
  rw [List.take_length] at this
  show (P.c.fs.flatMap fldR ++ P.frs.flatMap frR).length ≤ _
  rw [List.length_append]; omega
def spLReached (K : PySem.W.Frag) : Sp := fun vs H Q _ => ∃ (lp fl hl : Addr) (P : Pt) (m : Nat), vs = [.ref lp] ∧ PtAt K H lp fl hl P ∧ PtSm m P ∧ 17 ≤ m ∧ m ≤ 500 ∧
  ∀ l H' t, H l = none → Same H H' → StEnd P.R P.roots t → H' l = some (.lst ((P.st t).map V.int)) → Q (.ref l) H'
theorem ok_lreached {f : Addr} {fd : FuncData} (F : Fun K "_law_reached" "_law_reached" s_law_reached f fd) (T : Txt K mg) (U_law_controls : Use P w K mg base CX0 "_law_controls" 1 P_law_controls (spTab coTab)) (U_law_frames : Use P w K mg base CX0 "_law_frames" 1 P_law_frames (spTab frTab)) (U_law_objects : Use P w K mg base CX0 "_law_objects" 1 P_law_objects (spTab obTab))
    (U_law_refs : Use P w K mg base CX0 "_law_refs" 3 P_law_refs (spLRefs K)) : FnG P w K mg base CX0 4 f fd P_law_reached (spLReached K) := by
  refine okG0 F sc_law_reached (fun vs H Q E h => ?_) fun cdv A outer s H vs Q E hr hg h => ?_
  · obtain ⟨lp, fl, hl, P, m, rfl, _⟩ := h
    rfl
  · obtain ⟨lp, fl, hl, P, m, rfl, PA, sm, hm, hm2, k⟩ := h
    refine ⟨_, (pss_cons (ps_set (i := 1) sc_law_reached.nd rfl (Or.inl rfl) (pe_listRg rfl (by rfl) T.b_list (prg_1 (by rfl) T.b_range pe_int)))
  (pss_cons (ps_set (i := 2) sc_law_reached.nd rfl (Or.inl rfl) (pe_use U_law_refs (hr.mono (by decide)) hg rfl (pa_cons (pe_use0 U_law_controls (hr.mono (by decide)) hg rfl) (pa_cons (pe_ix ix_list (pv 0) pe_int (fun _ _ => rfl)) pa_nil))))
  (pss_cons (ps_for PassesOwn.never rfl (pi_list (pe_ix ix_list (pv 0) pe_int (fun _ _ => rfl))) (pg_name (i := 3) sc_law_reached.nd rfl (Or.inl rfl))
   (pss_one (ps_set (i := 2) sc_law_reached.nd rfl (Or.inl rfl) (pe_op op_cat (pv 2) (pe_use U_law_refs (hr.mono (by decide)) hg rfl (pa_cons (pe_use0 U_law_frames (hr.mono (by decide)) hg rfl) (pa_cons (pv 3) pa_nil)))))))
  (pss_cons (ps_for PassesOwn.never rfl (pi_range1 (by rfl) T.b_range (pa_cons (pe_op op_add (pe_callB call_len (by rfl) T.b_len PySem.boot_len (pa_cons (pe_ix ix_list (pv 0) pe_int (fun _ _ => rfl)) pa_nil)) pe_int) pa_nil)) (pg_name (i := 4) sc_law_reached.nd rfl (Or.inl rfl))
   (pss_cons (ps_for PassesOwn.never rfl (pi_list (pv 2)) (pg_name (i := 5) sc_law_reached.nd rfl (Or.inl rfl))
   (pss_one (ps_if (pt_cmpR op_notIn_seq (pv 5) (pv 1) (by rfl))
   (pss_one (ps_expr (pe_bm PySem.F.plainAttrs_list PySem.F.slot_list_append PySem.F.type_list_append mt_append (pv 1) (pa_cons (pv 5) pa_nil))))
   pss_nil)))
  (pss_cons (ps_if (pt_cmpR op_ge (pv 4) (pe_callB call_len (by rfl) T.b_len PySem.boot_len (pa_cons (pv 1) pa_nil)) (nomark _))
   (pss_one ps_break)
   pss_nil)
  (pss_one (ps_set (i := 2) sc_law_reached.nd rfl (Or.inl rfl) (pe_use U_law_refs (hr.mono (by decide)) hg rfl (pa_cons (pe_use0 U_law_objects (hr.mono (by decide)) hg rfl) (pa_cons (pe_ix ix_list (pe_ix ix_list (pv 0) pe_int (fun _ _ => rfl)) (pe_ix ix_list (pv 1) (pv 4) (fun _ _ => rfl)) (fun _ _ => rfl)) pa_nil))))))))
  (pss_one (ps_ret (pv 1))))))), ?_⟩
    obtain ⟨vc, el, dvc⟩ := PA.ex
    obtain ⟨ys, ey, ay⟩ := id PA.f
    obtain ⟨xs, ex, ax⟩ := id PA.h
    obtain ⟨hrl, hcl, hfrl⟩ := sm.rootlen
    refine ⟨_, rfl, RgOk.of_le (by decide) (by decide) (by decide) (by decide), fun oa hoa => ?_⟩
    have S1 := Same.new (o := .lst (rgV 0 17)) hoa
    have eo := upd_same (H := H) (a := oa) (o := HO.lst (rgV 0 17))
    have erg : rgV 0 17 = (((List.range 17).map fun (i : Nat) => (i : Int))).map V.int := by decide
    generalize upd H oa (.lst (rgV 0 17)) = H1 at S1 eo
    rw [erg] at eo
    generalize hf17 : ((List.range 17).map fun (i : Nat) => (i : Int)) = f17 at eo
    have l17 : f17.length = 17 := by subst hf17; rfl
    -- news
    refine ⟨rfl, fun tl H2 S2 T2 => ?_⟩
    have S12 := S1.trans S2
    refine ⟨_, rfl, lp, _, _, _, rfl, rfl, SqL.of (S12 _ _ el), at0, tl, vc, coTab, P.c.kd, P.c.fs.map .one, rfl, T2, coTab_nd, tabOk_up coTab_ok, ?_, by rw [ones_l]; exact sm.c.1, ones_N fun x hx => (sm.c.2 x hx).n, fun na H3 hna S3 ena => ?_⟩
    · rw [ones_D]; exact dvc.mono S12
    rw [ones_R] at ena
    have S13 := S12.trans S3
    have eo3 := (S2.trans S3) _ _ eo
    have hno : na ≠ oa := Ne.symm (ne_of_none (S2 _ _ eo) hna)
    clear S2 S3 T2 S12 hna
    -- frames
    refine ⟨_, rfl, lp, _, _, _, rfl, rfl, SqL.of (S13 _ _ el), at1, fl, rfl, ⟨_, SqL.of (S13 _ _ ey)⟩, ?_⟩
    refine for_list (xs := ys) (fun i σ H' => ∃ (x3 : Option V) (na : Addr), σ = [some (.ref lp), some (.ref oa), some (.ref na), x3, none, none] ∧ H' oa = some (.lst (f17.map V.int)) ∧ H' na = some (.lst ((P.c.fs.flatMap fldR ++ (P.frs.take i).flatMap frR).map V.int)) ∧ Same H H' ∧ na ≠ oa) ⟨none, na, rfl, eo3, by rw [List.take_zero]; simpa using ena, S13, hno⟩ ?_ ?_ ?_
    · rintro i σ H' _ ⟨x3, na, rfl, _, _, S', _⟩
      exact SqL.of (S' _ _ ey)
    · rintro i v σ H4 hv ⟨x3, na, rfl, e4, n4, S4, hno⟩
      obtain ⟨d, hd, dv⟩ := ay.getV hv
      rw [List.getElem?_map] at hd
      obtain ⟨g, hg', rfl⟩ := Option.map_eq_some_iff.mp hd
      have hgs := sm.f g (List.mem_of_getElem? hg')
      refine ⟨_, rfl, rfl, fun tl H5 S5 T5 => ?_⟩
      have S45 := S4.trans S5
      refine ⟨_, rfl, tl, v, frTab, g.kd, g.fs.map .one, rfl, T5, frTab_nd, tabOk_up frTab_ok, ?_, by rw [ones_l]; exact hgs.1, ones_N fun x hx => (hgs.2 x hx).n, fun ra H6 hra S6 era => ?_⟩
      · rw [ones_D]; exact dv.mono S45
      rw [ones_R] at era
      have S46 := S45.trans S6
      have n6 := (S5.trans S6) _ _ n4
      have hst : (P.frs.take (i + 1)).flatMap frR = (P.frs.take i).flatMap frR ++ g.fs.flatMap fldR := by
        rw [List.take_succ, hg', List.flatMap_append]
        simp [frR]
      refine ⟨na, ra, _, _, rfl, rfl, n6, era, ?_, fun np hnp => ?_⟩
      · rw [List.length_map, List.length_map]
        have h4 := hfrl (i + 1)
        rw [hst, List.length_append] at h4
        rw [List.length_append]
        exact Nat.le_trans (show _ ≤ 5000 by omega) (by decide)
      refine ⟨_, np, rfl, ?_, ?_, S46.trans (Same.new hnp), ?_⟩
      · exact (Same.new hnp) _ _ ((S5.trans S6) _ _ e4)
      · rw [upd_same, hst, ← List.append_assoc, List.map_append (l₂ := g.fs.flatMap fldR)]
      · exact Ne.symm (ne_of_none ((S5.trans S6) _ _ e4) hnp)
    rintro σ H4 ⟨x3, na, rfl, e4, n4, S4, hno⟩
    have hyl : ys.length = P.frs.length := by rw [ay.length, List.length_map]
    rw [hyl, List.take_length] at n4
    have hxl : xs.length = m := by rw [ax.length, List.length_map, sm.ol]
    -- rounds
    refine ⟨_, rfl, lp, _, _, _, rfl, rfl, SqL.of (S4 _ _ el), at2, _, _, rfl, .inl ⟨_, SqL.of (S4 _ _ ex), rfl⟩, _, _, rfl, rfl, _, rfl, by omega, by omega, ?_⟩
    have hst0 : addN f17 P.roots = P.st 0 := by subst hf17; rfl
    refine for_range (lo := 0) (n := (((xs.length : Nat) : Int) + 1).toNat) (fun i σ H' => ∃ (x4 x5 : Option V) (na : Addr) (prev rs : List Int), σ = [some (.ref lp), some (.ref oa), some (.ref na), x3, x4, x5] ∧ H' oa = some (.lst (prev.map V.int)) ∧ H' na = some (.lst (rs.map V.int)) ∧ addN prev rs = P.st i ∧ prev.length ≤ 500 ∧ rs.length ≤ 5000 ∧ Same H H' ∧ na ≠ oa ∧ ∀ j < i, j < (P.st j).length) ⟨none, none, na, f17, P.roots, rfl, e4, n4, hst0, by omega, hrl, S4, hno, by simp⟩ ?_ ?_
    · rintro i σ H5 hi ⟨x4, x5, na, prev, rs, rfl, e5, n5, hadd, hpl, hrsl, S5, hno, hgo⟩
      rw [Int.zero_add]
      have hlm := sm.stlen hm i
      refine ⟨_, rfl, na, rfl, ⟨_, SqL.of n5⟩, ?_⟩
      refine for_list (xs := rs.map V.int) (fun j σ H' => ∃ x5, σ = [some (.ref lp), some (.ref oa), some (.ref na), x3, some (.int (i : Int)), x5] ∧ H' oa = some (.lst ((addN prev (rs.take j)).map V.int)) ∧ H' na = some (.lst (rs.map V.int)) ∧ Same H H') ⟨x5, rfl, e5, n5, S5⟩ ?_ ?_ ?_
      · rintro j σ H' _ ⟨x5, rfl, _, n', _⟩
        exact SqL.of n'
      · rintro j x σ H6 hx ⟨x5, rfl, e6, n6, S6⟩
        rw [List.getElem?_map] at hx
        obtain ⟨z, hz, rfl⟩ := Option.map_eq_some_iff.mp hx
        have hstep : addN prev (rs.take (j + 1)) = if z ∈ addN prev (rs.take j) then addN prev (rs.take j) else addN prev (rs.take j) ++ [z] := by
          rw [List.take_succ, hz, addN_app]
          rfl
        have hlen := addN_len prev (rs.take j)
        rw [List.length_take] at hlen
        refine ⟨_, rfl, _, rfl, oa, _, rfl, .inl (SqL.of e6), rfl, flat_int _, _, rfl, ?_⟩
        rw [inV_int]
        by_cases c : z ∈ addN prev (rs.take j)
        · rw [if_pos c] at hstep
          refine iteFb (by rw [decide_eq_true c]; rfl) ⟨_, rfl, by rw [hstep]; exact e6, n6, S6⟩
        · rw [if_neg c] at hstep
          refine iteTb (by rw [decide_eq_false c]; rfl) ?_
          refine ⟨_, rfl, .inl ⟨rfl, _, SqL.of e6⟩, _, rfl, oa, _, _, rfl, rfl, e6, by rw [List.length_map]; exact Nat.lt_of_le_of_lt (show _ ≤ 10000 by omega) (by decide), ?_⟩
          refine ⟨_, rfl, by rw [upd_same, hstep, List.map_append]; rfl, by rw [upd_ne hno]; exact n6, fun b o hb => by rw [upd_ne (ne_of_none hb hoa)]; exact S6 _ _ hb⟩
      rintro σ H6 ⟨x5, rfl, e6, n6, S6⟩
      rw [List.length_map, List.take_length, hadd] at e6
      refine ⟨_, rfl, _, rfl, _, _, rfl, .inl ⟨_, SqL.of e6, rfl⟩, _, _, rfl, rfl, _, rfl, ?_⟩
      rw [List.length_map]
      refine ite3 (fun c => ?_) fun c => ?_
      · have c : (P.st i).length ≤ i := by have := of_decide_eq_true c; omega
        exact ⟨_, rfl, k oa H6 i hoa S6 ⟨c, hgo⟩ e6⟩
      · have c : i < (P.st i).length := by have := of_decide_eq_false c; omega
        have hz : (P.st i)[i]? = some (P.st i)[i] := List.getElem?_eq_getElem c
        generalize (P.st i)[i] = z at hz
        obtain ⟨j, o, rfl, ho, hos, hR⟩ := sm.at hm hz
        obtain ⟨v, hv, dv⟩ := ax.get (i := j) (d := obD o) (by rw [List.getElem?_map, ho]; rfl)
        refine ⟨rfl, fun tl H7 S7 T7 => ?_⟩
        have S57 := S6.trans S7
        refine ⟨_, rfl, lp, _, _, _, rfl, rfl, SqL.of (S57 _ _ el), at2, _, rfl, _, rfl, oa, _, _, _, rfl, rfl, SqL.of (S7 _ _ e6), atI_nat (by rw [List.getElem?_map, hz]; rfl), hl, _, _, _, rfl, rfl, SqL.of (S57 _ _ ex), atI_nat hv, ?_⟩
        refine ⟨tl, v, obTab, o.kd, o.fs, rfl, T7, obTab_nd, obTab_ok, dv.mono S57, hos.1, fun x hx => (hos.2 x hx).n, fun ra H8 hra S8 era => ?_⟩
        have hst := St_lt hz
        rw [hR] at hst
        have e8 := (S7.trans S8) _ _ e6
        exact ⟨_, _, ra, P.st i, obR o, rfl, e8, era, hst.symm, by omega, by have := obR_len hos; omega, S57.trans S8, Ne.symm (ne_of_none (S7 _ _ e6) hra), fun q hq => by
          by_cases h : q = i
          · subst h; exact c
          · exact hgo q (by omega)⟩
    · rintro σ H5 ⟨x4, x5, na, prev, rs, rfl, _, _, _, _, _, _, _, hgo⟩
      have h1 := hgo m (by omega)
      have h2 := sm.stlen hm m
      omega
--SPLIT
end

abbrev s_new_value : Stmt := top 20
abbrev N_new_value : List Str := ["value", "numbers"]
abbrev P_new_value : List Str := ["value", "numbers"]
theorem sc_new_value : FnScope N_new_value P_new_value (defScope s_new_value) := ⟨rfl, rfl, rfl, by decide +kernel, rfl, by decide +kernel, by decide +kernel⟩
abbrev s_with_numbers : Stmt := top 19
abbrev N_with_numbers : List Str := ["letter", "field", "numbers", "value", "key", "worth", "name", "frame"]
abbrev P_with_numbers : List Str := ["letter", "field", "numbers"]
theorem sc_with_numbers : FnScope N_with_numbers P_with_numbers (defScope s_with_numbers) := ⟨rfl, rfl, rfl, by decide +kernel, rfl, by decide +kernel, by decide +kernel⟩
abbrev s_renumbered : Stmt := top 18
abbrev N_renumbered : List Str := ["letters", "item", "numbers", "fields", "letter", "field"]
abbrev P_renumbered : List Str := ["letters", "item", "numbers"]
theorem sc_renumbered : FnScope N_renumbered P_renumbered (defScope s_renumbered) := ⟨rfl, rfl, rfl, by decide +kernel, rfl, by decide +kernel, by decide +kernel⟩
section
variable {P : Program} {w : World} {K : PySem.W.Frag} {mg : Str → Option Value} {base : Heap}
/-! new numbers: the place of a number in a row -/
def tv (l : List Int) : Val → Val
  | .ref n => .ref (l.idxOf (n : Int))
  | x => x
def tf (l : List Int) : Fld → Fld
  | .v x => .v (tv l x)
  | .V xs => .V (xs.map (tv l))
  | .W ps => .W (ps.map fun p => (tv l p.1, tv l p.2))
  | .X ps => .X (ps.map fun p => (p.1, tv l p.2))
  | .a k => .a (l.idxOf (k : Int))
  | .b k => .b (if 0 ≤ k then ((l.idxOf k : Nat) : Int) else k)
  | .s2 z x => .s2 z (tv l x)
  | x => x
theorem ltr_tf (l : List Int) (x : Fld) : ltr (tf l x) = ltr x := by cases x <;> rfl
def NumAt (H : Hp) (na : Addr) (l : List Int) : Prop := ∃ kvs : List (Key × V), H na = some (.dK kvs) ∧ ∀ k ∈ l, valV kvs (.inl k) = some (.int ((l.idxOf k : Nat) : Int))
theorem NumAt.same {H H' : Hp} {na : Addr} {l : List Int} (h : NumAt H na l) (e : Same H H') : NumAt H' na l := let ⟨x, a, b⟩ := h; ⟨x, e _ _ a, b⟩
theorem NumAt.get {H : Hp} {na : Addr} {l : List Int} (h : NumAt H na l) {k : Int} (hk : k ∈ l) : DGet H na (.int k) (some (.int ((l.idxOf k : Nat) : Int))) := by
  obtain ⟨kvs, e, p⟩ := h
  rw [← p k hk]
  exact DGet.k (k := .inl k) e
def spNewV (K : PySem.W.Frag) : Sp := fun vs H Q _ => ∃ (v : V) (na : Addr) (l : List Int) (x : Val), vs = [v, .ref na] ∧ NumAt H na l ∧ Dt K H v (valD x) ∧ (∀ k ∈ valR x, k ∈ l) ∧ ∀ r H', Same H H' → Dt K H' r (valD (tv l x)) → Q r H'
theorem ok_newv {f : Addr} {fd : FuncData} (F : Fun K "_new_value" "_new_value" s_new_value f fd) (T : Txt K mg) : FnG P w K mg base CX0 1 f fd P_new_value (spNewV K) := by
  refine okG0 F sc_new_value (fun vs H Q E h => ?_) fun cdv A outer s H vs Q E hr hg h => ?_
  · obtain ⟨v, na, l, x, rfl, _⟩ := h
    rfl
  · obtain ⟨v, na, l, x, rfl, NA, dv, hm, k⟩ := h
    have hu : (A.deeper (envOfC "_new_value" (defScope s_new_value) s.heap.objs.size f cdv)).units + 1 < cLine := Nat.lt_of_le_of_lt (by omega) hr.units
    refine ⟨_, (pss_cons (ps_if (pt_cmpR op_eq (pe_ix ix_tup (pv 0) pe_int (fun _ _ => rfl)) pe_str (nomark _))
   (pss_one (ps_ret (pe_tup (pa_cons pe_str (pa_cons (pe_dget hu (pv 1) (pe_ix ix_tup (pv 0) pe_int (fun _ _ => rfl)) (fun _ _ => rfl)) pa_nil)))))
   pss_nil)
  (pss_one (ps_ret (pv 0)))), ?_⟩
    have dv0 := dv
    obtain ⟨kv, rv, ev, hkv⟩ := valD_hd x
    rw [ev] at dv
    obtain ⟨q, ws, rfl, hq, hw⟩ := dv.head
    refine ⟨_, rfl, q, _, _, _, rfl, rfl, hq, at0, rfl, _, rfl, ?_⟩
    rcases hkv with ⟨hne, hnil⟩ | ⟨rfl, n, rfl, rfl⟩
    · refine iteFb (decide_eq_false fun e => hne (V.str.inj e)) ?_
      have : tv l x = x := by
        cases x with
        | ref n => cases hnil
        | _ => rfl
      exact ⟨_, rfl, k _ _ (Same.refl _) (by rw [this]; exact dv0)⟩
    · refine iteTb (decide_eq_true rfl) ?_
      obtain ⟨y1, w1, rfl, d1, hw1⟩ := hw.cons_inv
      cases hw1.nil_inv
      cases d1.int_inv
      refine ⟨_, rfl, _, rfl, q, _, _, _, rfl, rfl, hq, at1, na, _, rfl, NA.get (hm _ (by simp [valR])), sz_2, fun u hu => ?_⟩
      exact k _ _ (Same.new hu) (Dt.made hu (.cons (.str _) (.cons (.int _) .nil)))
/-- a row that a comprehension makes -/
def LAcc (K : PySem.W.Frag) (H1 : Hp) (D : Addr) (ds : List PyData) (H : Hp) : Prop := ∃ acc, H D = some (.lst acc) ∧ DtAll K H acc ds ∧ Same H1 H
theorem LAcc.start {H1 : Hp} {D : Addr} (hD : H1 D = none) : LAcc K H1 D [] (upd H1 D (.lst [])) := ⟨[], upd_same, .nil, Same.new hD⟩
theorem LAcc.put {H1 H5 H7 : Hp} {D : Addr} {ds : List PyData} {v : V} {d : PyData} (A : LAcc K H1 D ds H5) (hD : H1 D = none) (S : Same H5 H7) (dv : Dt K H7 v d) (hl : ds.length ≤ 1000) :
    ∃ acc, H7 D = some (.lst acc) ∧ acc.length < sizeLine ∧ LAcc K H1 D (ds ++ [d]) (upd H7 D (.lst (acc ++ [v]))) := by
  obtain ⟨acc, e, a, S1⟩ := A
  have e7 := S _ _ e
  have := a.length
  exact ⟨acc, e7, Nat.lt_of_le_of_lt (show _ ≤ 1000 by omega) (by decide), acc ++ [v], upd_same, DtAll.app (DtAll.keepT (KeepT.upd e7) (a.mono S)) (.cons (Dt.keepT (KeepT.upd e7) dv) .nil), fun b o hb => by rw [upd_ne (ne_of_none hb hD)]; exact S _ _ (S1 _ _ hb)⟩
theorem LAcc.fin {H1 H : Hp} {D : Addr} {ds : List PyData} (A : LAcc K H1 D ds H) : ∃ acc, H D = some (.lst acc) ∧ DtAll K H acc ds ∧ Same H1 H := A
theorem cut_l1 {α : Type} (a b : α) : cutG [a, b] none (some 1) = [a] ∧ cutG [a, b] (some 1) none = [b] ∧ cutG [a] none (some 1) = [a] ∧ cutG [a] (some 1) none = [] ∧ cutG ([] : List α) none (some 1) = [] ∧ cutG ([] : List α) (some 1) none = [] := ⟨rfl, rfl, rfl, rfl, rfl, rfl⟩
def FldL (l : List Int) (x : Fld) : Prop := ∀ k ∈ fldR x, k ∈ l
def spWithN0 (K : PySem.W.Frag) : Sp := fun vs H Q _ => ∃ (v : V) (na : Addr) (l : List Int) (x : Fld) (c : Nat), vs = [.str (S [c]), v, .ref na] ∧ ltr x = c ∧ NumAt H na l ∧ Dt K H v (fldD x) ∧ FldN x ∧ FldL l x ∧ ∀ r H', Same H H' → Dt K H' r (fldD (tf l x)) → Q r H'
theorem ok_withn0 {f : Addr} {fd : FuncData} (F : Fun K "_with_numbers" "_with_numbers" s_with_numbers f fd) (T : Txt K mg) (U_new_value : Use P w K mg base CX0 "_new_value" 1 P_new_value (spNewV K)) : FnG P w K mg base CX0 2 f fd P_with_numbers (spWithN0 K) := by
  refine okG0 F sc_with_numbers (fun vs H Q E h => ?_) fun cdv A outer s H vs Q E hr hg h => ?_
  · obtain ⟨v, na, l, x, c, rfl, _⟩ := h
    rfl
  · obtain ⟨v, na, l, x, c, rfl, hc, NA, dv, hN, hL, k⟩ := h
    have hu : (A.deeper (envOfC "_with_numbers" (defScope s_with_numbers) s.heap.objs.size f cdv)).units + 1 < cLine := Nat.lt_of_le_of_lt (by omega) hr.units
    refine ⟨_, (pss_cons (ps_if (pt_cmpR op_eq (pv 0) pe_str (nomark _))
   (pss_one (ps_ret (pe_use U_new_value (hr.mono (by decide)) hg rfl (pa_cons (pv 1) (pa_cons (pv 2) pa_nil)))))
   pss_nil)
  (pss_cons (ps_if (pt_cmpR op_eq (pv 0) pe_str (nomark _))
   (pss_one (ps_ret (pe_callTy call_tuple_of (by rfl) T.b_tuple (by decide +kernel) (pa_cons (pe_lc (own := [("value", 3)]) (g := (gName 3)) rfl sc_with_numbers.nd (pi_tup (pv 1)) (blkOk_by (N := N_with_numbers) (sc := defScope s_with_numbers) (by decide +kernel)) (fun _ _ _ _ _ => (pg_name (i := 3) sc_with_numbers.nd rfl (Or.inl rfl))) (fun _ _ _ _ _ => pts_nil) (fun _ _ _ _ _ => (pe_use U_new_value (hr.mono (by decide)) hg rfl (pa_cons (pv 3) (pa_cons (pv 2) pa_nil))))) pa_nil))))
   pss_nil)
  (pss_cons (ps_if (pt_cmpR op_eq (pv 0) pe_str (nomark _))
   (pss_one (ps_ret (pe_callTy call_tuple_of (by rfl) T.b_tuple (by decide +kernel) (pa_cons (pe_lc (own := [("key", 4), ("worth", 5)]) (g := (gTup K 2 (gCons (gName 4) (gCons (gName 5) gNil)))) rfl sc_with_numbers.nd (pi_tup (pv 1)) (blkOk_by (N := N_with_numbers) (sc := defScope s_with_numbers) (by decide +kernel)) (fun _ _ _ _ _ => (pg_tup (by rfl) (pgs_cons (pg_name (i := 4) sc_with_numbers.nd rfl (Or.inl rfl)) (pgs_cons (pg_name (i := 5) sc_with_numbers.nd rfl (Or.inl rfl)) pgs_nil)))) (fun _ _ _ _ _ => pts_nil) (fun _ _ _ _ _ => (pe_tup (pa_cons (pe_use U_new_value (hr.mono (by decide)) hg rfl (pa_cons (pv 4) (pa_cons (pv 2) pa_nil))) (pa_cons (pe_use U_new_value (hr.mono (by decide)) hg rfl (pa_cons (pv 5) (pa_cons (pv 2) pa_nil))) pa_nil))))) pa_nil))))
   pss_nil)
  (pss_cons (ps_if (pt_cmpR op_eq (pv 0) pe_str (nomark _))
   (pss_one (ps_ret (pe_callTy call_tuple_of (by rfl) T.b_tuple (by decide +kernel) (pa_cons (pe_lc (own := [("name", 6), ("value", 3)]) (g := (gTup K 2 (gCons (gName 6) (gCons (gName 3) gNil)))) rfl sc_with_numbers.nd (pi_tup (pv 1)) (blkOk_by (N := N_with_numbers) (sc := defScope s_with_numbers) (by decide +kernel)) (fun _ _ _ _ _ => (pg_tup (by rfl) (pgs_cons (pg_name (i := 6) sc_with_numbers.nd rfl (Or.inl rfl)) (pgs_cons (pg_name (i := 3) sc_with_numbers.nd rfl (Or.inl rfl)) pgs_nil)))) (fun _ _ _ _ _ => pts_nil) (fun _ _ _ _ _ => (pe_tup (pa_cons (pv 6) (pa_cons (pe_use U_new_value (hr.mono (by decide)) hg rfl (pa_cons (pv 3) (pa_cons (pv 2) pa_nil))) pa_nil))))) pa_nil))))
   pss_nil)
  (pss_cons (ps_if (pt_cmpR op_eq (pv 0) pe_str (nomark _))
   (pss_one (ps_ret (pe_op op_catTD (pe_slice sl_row (pv 1) po_none (po_some pe_int)) (pe_callTy call_tuple_of (by rfl) T.b_tuple (by decide +kernel) (pa_cons (pe_lc (own := [("value", 3)]) (g := (gName 3)) rfl sc_with_numbers.nd (pi_tup (pe_slice sl_row (pv 1) (po_some pe_int) po_none)) (blkOk_by (N := N_with_numbers) (sc := defScope s_with_numbers) (by decide +kernel)) (fun _ _ _ _ _ => (pg_name (i := 3) sc_with_numbers.nd rfl (Or.inl rfl))) (fun _ _ _ _ _ => pts_nil) (fun _ _ _ _ _ => (pe_use U_new_value (hr.mono (by decide)) hg rfl (pa_cons (pv 3) (pa_cons (pv 2) pa_nil))))) pa_nil)))))
   pss_nil)
  (pss_cons (ps_if (pt_cmpR op_eq (pv 0) pe_str (nomark _))
   pss_never
   pss_nil)
  (pss_cons (ps_if (PW.pt (pw_and (pt_cmpR op_in_seq (pv 0) (pe_tup (pa_cons pe_str (pa_cons pe_str pa_nil))) (by rfl)) (pw_and1 (pt_cmpR op_ge (pv 1) pe_int (nomark _)))))
   (pss_one (ps_ret (pe_dget hu (pv 2) (pv 1) (fun _ _ => rfl))))
   pss_nil)
  (pss_one (ps_ret (pv 1)))))))))), ?_⟩
    cases x with
    | v x =>
      obtain rfl : 118 = c := hc
      refine ⟨_, rfl, rfl, _, rfl, iteTb (by decide +kernel) ?_⟩
      exact ⟨_, rfl, _, rfl, v, na, l, x, rfl, NA, dv, fun j hj => hL j (by simpa [fldR, fldVs] using hj), k⟩
    | V xs =>
      obtain rfl : 86 = c := hc
      refine ⟨_, rfl, rfl, _, rfl, iteFb (by decide +kernel) ?_⟩
      refine ⟨_, rfl, rfl, _, rfl, iteTb (by decide +kernel) ?_⟩
      obtain ⟨q, ws, rfl, hq, ha⟩ := (show Dt K H v (.tuple (xs.map valD)) from dv).tuple_inv
      have hal := ha.length
      rw [List.length_map] at hal
      have hN : xs.length ≤ 10 := hN
      refine ⟨_, rfl, q, rfl, ⟨_, hq⟩, fun D hD => ?_⟩
      refine lc_it (walk_tup (xs := ws)) (fun j H' => LAcc K H D ((xs.take j).map fun x => valD (tv l x)) H') (LAcc.start hD) (fun j H' _ h => let ⟨_, _, _, S'⟩ := h; Same.tupl S' hq) ?_ ?_
      · rintro j y H5 H6 hj Z ⟨rfl, hy⟩
        obtain ⟨_, _, _, S5⟩ := id Z
        obtain ⟨d, hd, dy⟩ := ha.getV hy
        rw [List.getElem?_map] at hd
        obtain ⟨vx, hvx, rfl⟩ := Option.map_eq_some_iff.mp hd
        refine ⟨rfl, tYes_of ⟨_, rfl, _, rfl, y, na, l, vx, rfl, NA.same S5, dy.mono S5, fun z hz => hL z ?_, fun r H7 S7 dr => ?_⟩⟩
        · exact List.mem_flatMap.mpr ⟨vx, List.mem_of_getElem? hvx, hz⟩
        · obtain ⟨acc, e7, hl7, Z7⟩ := Z.put hD S7 dr (by rw [List.length_map, List.length_take]; omega)
          refine ⟨acc, e7, hl7, ?_⟩
          rw [List.take_succ, hvx, List.map_append]
          exact Z7
      · rintro H5 ⟨acc, e5, a5, S5⟩
        rw [hal, List.take_length] at a5
        refine ⟨D, _, rfl, .inl ⟨SqL.of e5, fun t ht => k _ _ (S5.trans (Same.new ht)) (Dt.made ht ?_)⟩⟩
        show DtAll K H5 acc ((xs.map (tv l)).map valD)
        rw [List.map_map]
        exact a5
    | W ps =>
      obtain rfl : 87 = c := hc
      refine ⟨_, rfl, rfl, _, rfl, iteFb (by decide +kernel) ?_⟩
      refine ⟨_, rfl, rfl, _, rfl, iteFb (by decide +kernel) ?_⟩
      refine ⟨_, rfl, rfl, _, rfl, iteTb (by decide +kernel) ?_⟩
      obtain ⟨q, ws, rfl, hq, ha⟩ := (show Dt K H v (.tuple (ps.map fun p => .tuple [valD p.1, valD p.2])) from dv).tuple_inv
      have hal := ha.length
      rw [List.length_map] at hal
      have hN : (ps.flatMap fun p => [p.1, p.2]).length ≤ 10 := hN
      rw [fm_len] at hN
      refine ⟨_, rfl, q, rfl, ⟨_, hq⟩, fun D hD => ?_⟩
      refine lc_it (walk_tup (xs := ws)) (fun j H' => LAcc K H D ((ps.take j).map fun p => PyData.tuple [valD (tv l p.1), valD (tv l p.2)]) H') (LAcc.start hD) (fun j H' _ h => let ⟨_, _, _, S'⟩ := h; Same.tupl S' hq) ?_ ?_
      · rintro j y H5 H6 hj Z ⟨rfl, hy⟩
        obtain ⟨_, _, _, S5⟩ := id Z
        obtain ⟨d, hd, dy⟩ := ha.getV hy
        rw [List.getElem?_map] at hd
        obtain ⟨pr, hpr, rfl⟩ := Option.map_eq_some_iff.mp hd
        obtain ⟨q2, xs2, rfl, hq2, h2⟩ := (dy.mono S5).tuple_inv
        obtain ⟨y1, w1, rfl, dk, h3⟩ := h2.cons_inv
        obtain ⟨y2, w2, rfl, dw, h4⟩ := h3.cons_inv
        cases h4.nil_inv
        have hin : ∀ z, z ∈ valR pr.1 ∨ z ∈ valR pr.2 → z ∈ l := fun z hz => hL z (by
          show z ∈ (ps.flatMap fun p => [p.1, p.2]).flatMap valR
          rcases hz with hz | hz
          · exact List.mem_flatMap.mpr ⟨pr.1, List.mem_flatMap.mpr ⟨pr, List.mem_of_getElem? hpr, by simp⟩, hz⟩
          · exact List.mem_flatMap.mpr ⟨pr.2, List.mem_flatMap.mpr ⟨pr, List.mem_of_getElem? hpr, by simp⟩, hz⟩)
        refine ⟨q2, _, rfl, hq2, rfl, _, _, rfl, _, _, rfl, rfl, rfl, tYes_of ?_⟩
        refine ⟨_, rfl, _, rfl, y1, na, l, pr.1, rfl, NA.same S5, dk, fun z hz => hin z (.inl hz), fun r1 H7 S7 d1 => ?_⟩
        refine ⟨_, rfl, _, rfl, y2, na, l, pr.2, rfl, NA.same (S5.trans S7), dw.mono S7, fun z hz => hin z (.inr hz), fun r2 H8 S8 d2 => ⟨sz_2, fun u hu => ?_⟩⟩
        obtain ⟨acc, e7, hl7, Z7⟩ := Z.put hD ((S7.trans S8).trans (Same.new hu)) (Dt.made hu (.cons (d1.mono S8) (.cons d2 .nil))) (by rw [List.length_map, List.length_take]; omega)
        refine ⟨acc, e7, hl7, ?_⟩
        rw [List.take_succ, hpr, List.map_append]
        exact Z7
      · rintro H5 ⟨acc, e5, a5, S5⟩
        rw [hal, List.take_length] at a5
        refine ⟨D, _, rfl, .inl ⟨SqL.of e5, fun t ht => k _ _ (S5.trans (Same.new ht)) (Dt.made ht ?_)⟩⟩
        show DtAll K H5 acc ((ps.map fun p => (tv l p.1, tv l p.2)).map fun p => PyData.tuple [valD p.1, valD p.2])
        rw [List.map_map]
        exact a5
    | X ps =>
      obtain rfl : 88 = c := hc
      refine ⟨_, rfl, rfl, _, rfl, iteFb (by decide +kernel) ?_⟩
      refine ⟨_, rfl, rfl, _, rfl, iteFb (by decide +kernel) ?_⟩
      refine ⟨_, rfl, rfl, _, rfl, iteFb (by decide +kernel) ?_⟩
      refine ⟨_, rfl, rfl, _, rfl, iteTb (by decide +kernel) ?_⟩
      obtain ⟨q, ws, rfl, hq, ha⟩ := (show Dt K H v (.tuple (ps.map fun p => .tuple [.str (tx p.1), valD p.2])) from dv).tuple_inv
      have hal := ha.length
      rw [List.length_map] at hal
      have hN : (ps.map (·.2)).length ≤ 10 := hN
      rw [List.length_map] at hN
      refine ⟨_, rfl, q, rfl, ⟨_, hq⟩, fun D hD => ?_⟩
      refine lc_it (walk_tup (xs := ws)) (fun j H' => LAcc K H D ((ps.take j).map fun p => PyData.tuple [.str (tx p.1), valD (tv l p.2)]) H') (LAcc.start hD) (fun j H' _ h => let ⟨_, _, _, S'⟩ := h; Same.tupl S' hq) ?_ ?_
      · rintro j y H5 H6 hj Z ⟨rfl, hy⟩
        obtain ⟨_, _, _, S5⟩ := id Z
        obtain ⟨d, hd, dy⟩ := ha.getV hy
        rw [List.getElem?_map] at hd
        obtain ⟨pr, hpr, rfl⟩ := Option.map_eq_some_iff.mp hd
        obtain ⟨q2, xs2, rfl, hq2, h2⟩ := (dy.mono S5).tuple_inv
        obtain ⟨y1, w1, rfl, dk, h3⟩ := h2.cons_inv
        obtain ⟨y2, w2, rfl, dw, h4⟩ := h3.cons_inv
        cases h4.nil_inv
        cases dk.str_inv
        have hin : ∀ z, z ∈ valR pr.2 → z ∈ l := fun z hz => hL z (List.mem_flatMap.mpr ⟨pr.2, List.mem_map.mpr ⟨pr, List.mem_of_getElem? hpr, rfl⟩, hz⟩)
        refine ⟨q2, _, rfl, hq2, rfl, _, _, rfl, _, _, rfl, rfl, rfl, tYes_of ?_⟩
        refine ⟨_, rfl, _, rfl, _, rfl, y2, na, l, pr.2, rfl, NA.same S5, dw, hin, fun r2 H8 S8 d2 => ⟨sz_2, fun u hu => ?_⟩⟩
        obtain ⟨acc, e7, hl7, Z7⟩ := Z.put hD (S8.trans (Same.new hu)) (Dt.made hu (.cons (.str (tx pr.1)) (.cons d2 .nil))) (by rw [List.length_map, List.length_take]; omega)
        refine ⟨acc, e7, hl7, ?_⟩
        rw [List.take_succ, hpr, List.map_append]
        exact Z7
      · rintro H5 ⟨acc, e5, a5, S5⟩
        rw [hal, List.take_length] at a5
        refine ⟨D, _, rfl, .inl ⟨SqL.of e5, fun t ht => k _ _ (S5.trans (Same.new ht)) (Dt.made ht ?_)⟩⟩
        show DtAll K H5 acc ((ps.map fun p => (p.1, tv l p.2)).map fun p => PyData.tuple [.str (tx p.1), valD p.2])
        rw [List.map_map]
        exact a5
    | s2 z x =>
      obtain rfl : 115 = c := hc
      iterate 4 refine ⟨_, rfl, rfl, _, rfl, iteFb (by decide +kernel) ?_⟩
      refine ⟨_, rfl, rfl, _, rfl, iteTb (by decide +kernel) ?_⟩
      have dv : Dt K H v (.tuple [.str z, valD x]) := dv
      refine ⟨_, rfl, _, rfl, .tup [.str z, valD x], dv, Nat.le_of_ble_eq_true rfl, fun v1 H1 S1 d1 => ?_⟩
      refine ⟨_, rfl, _, rfl, .tup [.str z, valD x], dv.mono S1, Nat.le_of_ble_eq_true rfl, fun v2 H2 S2 d2 => ?_⟩
      obtain ⟨q2, ws, rfl, hq2, ha2⟩ := (show Dt K H2 v2 (.tuple [valD x]) from d2).tuple_inv
      obtain ⟨y, w1, rfl, dy, h3⟩ := ha2.cons_inv
      cases h3.nil_inv
      have S12 := S1.trans S2
      refine ⟨q2, rfl, ⟨_, hq2⟩, fun D hD => ?_⟩
      refine lc_it (walk_tup (xs := [y])) (fun j H' => LAcc K H2 D (([valD (tv l x)] : List PyData).take j) H') (LAcc.start hD) (fun j H' _ h => let ⟨_, _, _, S'⟩ := h; Same.tupl S' hq2) ?_ ?_
      · rintro j y' H5 H6 hj Z ⟨rfl, hy⟩
        obtain rfl : j = 0 := by simp at hj; omega
        cases hy
        obtain ⟨_, _, _, S5⟩ := id Z
        refine ⟨rfl, tYes_of ⟨_, rfl, _, rfl, y, na, l, x, rfl, NA.same (S12.trans S5), dy.mono S5, fun z hz => hL z (by simpa [fldR, fldVs] using hz), fun r H7 S7 dr => ?_⟩⟩
        exact Z.put hD S7 dr (Nat.zero_le _)
      · rintro H5 ⟨acc, e5, a5, S5⟩
        refine ⟨D, _, rfl, .inl ⟨SqL.of e5, fun t ht => ?_⟩⟩
        have S6 := Same.new (o := .tup acc) ht
        exact ⟨[.str z], [valD (tv l x)], (d1.mono (S2.trans S5)).mono S6, Dt.made ht a5, Nat.le_of_ble_eq_true rfl, fun v3 H7 S7 d7 => k _ _ (((S12.trans S5).trans S6).trans S7) d7⟩
    | s1 z =>
      obtain rfl : 115 = c := hc
      iterate 4 refine ⟨_, rfl, rfl, _, rfl, iteFb (by decide +kernel) ?_⟩
      refine ⟨_, rfl, rfl, _, rfl, iteTb (by decide +kernel) ?_⟩
      have dv : Dt K H v (.tuple [.str z]) := dv
      refine ⟨_, rfl, _, rfl, .tup [.str z], dv, Nat.le_of_ble_eq_true rfl, fun v1 H1 S1 d1 => ?_⟩
      refine ⟨_, rfl, _, rfl, .tup [.str z], dv.mono S1, Nat.le_of_ble_eq_true rfl, fun v2 H2 S2 d2 => ?_⟩
      obtain ⟨q2, ws, rfl, hq2, ha2⟩ := (show Dt K H2 v2 (.tuple []) from d2).tuple_inv
      cases ha2.nil_inv
      have S12 := S1.trans S2
      refine ⟨q2, rfl, ⟨_, hq2⟩, fun D hD => ?_⟩
      refine lc_it (walk_tup (xs := [])) (fun j H' => LAcc K H2 D [] H') (LAcc.start hD) (fun j H' _ h => let ⟨_, _, _, S'⟩ := h; Same.tupl S' hq2) (fun j y H5 H6 hj _ _ => absurd hj (by simp)) ?_
      rintro H5 ⟨acc, e5, a5, S5⟩
      refine ⟨D, _, rfl, .inl ⟨SqL.of e5, fun t ht => ?_⟩⟩
      have S6 := Same.new (o := .tup acc) ht
      exact ⟨[.str z], [], (d1.mono (S2.trans S5)).mono S6, Dt.made ht a5, Nat.le_of_ble_eq_true rfl, fun v3 H7 S7 d7 => k _ _ (((S12.trans S5).trans S6).trans S7) d7⟩
    | s0 =>
      obtain rfl : 115 = c := hc
      iterate 4 refine ⟨_, rfl, rfl, _, rfl, iteFb (by decide +kernel) ?_⟩
      refine ⟨_, rfl, rfl, _, rfl, iteTb (by decide +kernel) ?_⟩
      have dv : Dt K H v (.tuple []) := dv
      refine ⟨_, rfl, _, rfl, .tup [], dv, by decide, fun v1 H1 S1 d1 => ?_⟩
      refine ⟨_, rfl, _, rfl, .tup [], dv.mono S1, by decide, fun v2 H2 S2 d2 => ?_⟩
      obtain ⟨q2, ws, rfl, hq2, ha2⟩ := (show Dt K H2 v2 (.tuple []) from d2).tuple_inv
      cases ha2.nil_inv
      have S12 := S1.trans S2
      refine ⟨q2, rfl, ⟨_, hq2⟩, fun D hD => ?_⟩
      refine lc_it (walk_tup (xs := [])) (fun j H' => LAcc K H2 D [] H') (LAcc.start hD) (fun j H' _ h => let ⟨_, _, _, S'⟩ := h; Same.tupl S' hq2) (fun j y H5 H6 hj _ _ => absurd hj (by simp)) ?_
      rintro H5 ⟨acc, e5, a5, S5⟩
      refine ⟨D, _, rfl, .inl ⟨SqL.of e5, fun t ht => ?_⟩⟩
      have S6 := Same.new (o := .tup acc) ht
      exact ⟨[], [], (d1.mono (S2.trans S5)).mono S6, Dt.made ht a5, Nat.le_of_ble_eq_true rfl, fun v3 H7 S7 d7 => k _ _ (((S12.trans S5).trans S6).trans S7) d7⟩
    | a n =>
      obtain rfl : 97 = c := hc
      iterate 6 refine ⟨_, rfl, rfl, _, rfl, iteFb (by decide +kernel) ?_⟩
      cases (show Dt K H v (.int (n : Int)) from dv).int_inv
      refine ⟨_, rfl, sz_2, fun u hu' => ⟨u, _, rfl, .inr (SqT.of upd_same), rfl, rfl, _, rfl, iteTb (by decide +kernel) ?_⟩⟩
      have S1 := Same.new (o := .tup [.str "a", .str "b"]) hu'
      refine ⟨_, rfl, _, _, rfl, rfl, _, rfl, iteTb (decide_eq_true (by omega)) ?_⟩
      exact ⟨_, rfl, _, rfl, na, _, rfl, (NA.same S1).get (hL _ (by simp [fldR])), k _ _ S1 (.int _)⟩
    | b n =>
      obtain rfl : 98 = c := hc
      iterate 6 refine ⟨_, rfl, rfl, _, rfl, iteFb (by decide +kernel) ?_⟩
      cases (show Dt K H v (.int n) from dv).int_inv
      refine ⟨_, rfl, sz_2, fun u hu' => ⟨u, _, rfl, .inr (SqT.of upd_same), rfl, rfl, _, rfl, iteTb (by decide +kernel) ?_⟩⟩
      have S1 := Same.new (o := .tup [.str "a", .str "b"]) hu'
      refine ⟨_, rfl, _, _, rfl, rfl, _, rfl, ?_⟩
      by_cases c : 0 ≤ n
      · refine iteTb (decide_eq_true c) ?_
        refine ⟨_, rfl, _, rfl, na, _, rfl, (NA.same S1).get (hL _ (by simp [fldR, c])), k _ _ S1 ?_⟩
        show Dt K _ _ (.int (if 0 ≤ n then ((l.idxOf n : Nat) : Int) else n))
        rw [if_pos c]
        exact .int _
      · refine iteFb (decide_eq_false c) ?_
        refine ⟨_, rfl, k _ _ S1 ?_⟩
        show Dt K _ _ (.int (if 0 ≤ n then ((l.idxOf n : Nat) : Int) else n))
        rw [if_neg c]
        exact .int _
    | t d =>
      obtain rfl : 116 = c := hc
      iterate 6 refine ⟨_, rfl, rfl, _, rfl, iteFb (by decide +kernel) ?_⟩
      refine ⟨_, rfl, sz_2, fun u hu' => ⟨u, _, rfl, .inr (SqT.of upd_same), rfl, rfl, _, rfl, iteFb (by decide +kernel) ?_⟩⟩
      have S1 := Same.new (o := .tup [.str "a", .str "b"]) hu'
      exact ⟨_, rfl, k _ _ S1 (dv.mono S1)⟩
    | n d =>
      obtain rfl : 110 = c := hc
      iterate 6 refine ⟨_, rfl, rfl, _, rfl, iteFb (by decide +kernel) ?_⟩
      refine ⟨_, rfl, sz_2, fun u hu' => ⟨u, _, rfl, .inr (SqT.of upd_same), rfl, rfl, _, rfl, iteFb (by decide +kernel) ?_⟩⟩
      have S1 := Same.new (o := .tup [.str "a", .str "b"]) hu'
      exact ⟨_, rfl, k _ _ S1 (dv.mono S1)⟩
    | x d =>
      obtain rfl : 120 = c := hc
      iterate 6 refine ⟨_, rfl, rfl, _, rfl, iteFb (by decide +kernel) ?_⟩
      refine ⟨_, rfl, sz_2, fun u hu' => ⟨u, _, rfl, .inr (SqT.of upd_same), rfl, rfl, _, rfl, iteFb (by decide +kernel) ?_⟩⟩
      have S1 := Same.new (o := .tup [.str "a", .str "b"]) hu'
      exact ⟨_, rfl, k _ _ S1 (dv.mono S1)⟩
--SPLIT
def spRenumd0 (K : PySem.W.Frag) : Sp := fun vs H Q _ => ∃ (v : V) (na : Addr) (l : List Int) (kd : Str) (fs : List Fld) (ls : List Nat), vs = [.str (S ls), v, .ref na] ∧ fs.map ltr = ls ∧ ls.length ≤ 10 ∧ NumAt H na l ∧ Dt K H v (.tuple (.str kd :: fs.map fldD)) ∧ (∀ x ∈ fs, FldN x ∧ FldL l x) ∧
  ∀ r H', Same H H' → Dt K H' r (.tuple (.str kd :: (fs.map (tf l)).map fldD)) → Q r H'
theorem ok_renumd0 {f : Addr} {fd : FuncData} (F : Fun K "_renumbered" "_renumbered" s_renumbered f fd) (T : Txt K mg) (U_with_numbers : Use P w K mg base CX0 "_with_numbers" 2 P_with_numbers (spWithN0 K)) : FnG P w K mg base CX0 3 f fd P_renumbered (spRenumd0 K) := by
  refine okG0 F sc_renumbered (fun vs H Q E h => ?_) fun cdv A outer s H vs Q E hr hg h => ?_
  · obtain ⟨v, na, l, kd, fs, ls, rfl, _⟩ := h
    rfl
  · obtain ⟨v, na, l, kd, fs, ls, rfl, hls, hll, NA, dv, hN, k⟩ := h
    refine ⟨_, (pss_cons (ps_setLc (i := 3) (own := [("letter", 4), ("field", 5)]) (g := (gTup K 2 (gCons (gName 4) (gCons (gName 5) gNil)))) rfl sc_renumbered.nd rfl rfl (sw_true rfl rfl rfl (by decide +kernel)) (pi_zipST (by rfl) T.b_zip (pa_cons (pv 0) (pa_cons (pe_slice sl_tupA (pv 1) (po_some pe_int) po_none) pa_nil))) (blkOk_by (N := N_renumbered) (sc := defScope s_renumbered) (by decide +kernel)) (fun _ _ _ _ _ => (pg_tup (by rfl) (pgs_cons (pg_name (i := 4) sc_renumbered.nd rfl (Or.inl rfl)) (pgs_cons (pg_name (i := 5) sc_renumbered.nd rfl (Or.inl rfl)) pgs_nil)))) (fun _ _ _ _ _ => pts_nil) (fun _ _ _ _ _ => (pe_use U_with_numbers (hr.mono (by decide)) hg rfl (pa_cons (pv 4) (pa_cons (pv 5) (pa_cons (pv 2) pa_nil))))))
  (pss_one (ps_ret (pe_op op_catTD (pe_tup (pa_cons (pe_ix ix_tup (pv 1) pe_int (fun _ _ => rfl)) pa_nil)) (pe_callTy call_tuple_of (by rfl) T.b_tuple (by decide +kernel) (pa_cons (pv 3) pa_nil)))))), ?_⟩
    obtain ⟨q0, ws, rfl, hq0, ha⟩ := dv.head
    have hal := ha.length
    rw [List.length_map] at hal
    have hfsl : fs.length = ls.length := by rw [← hls, List.length_map]
    refine ⟨_, rfl, _, rfl, _, rfl, ?_⟩
    refine ⟨q0, _, rfl, hq0, fun e => absurd e.1 (tail_no _ _), fun _ q hq => ?_⟩
    rw [cut_one]
    refine ⟨S ls, q, ws, rfl, SqT.of upd_same, fun D hD => ?_⟩
    have S1 := Same.new (o := .tup ws) hq
    have hq1 : SqT K (upd H q (.tup ws)) q ws := SqT.of upd_same
    generalize upd H q (.tup ws) = H1 at S1 hq1 hD
    refine lc_it (walk_zipST (z := ls) (b := q) (ys := ws) (by omega)) (fun i H' => LAcc K H1 D ((fs.take i).map fun x => fldD (tf l x)) H') (LAcc.start hD) (fun j H' _ h => let ⟨_, _, _, S'⟩ := h; Same.tupl S' hq1) ?_ ?_
    · rintro i y H5 H6 hi Z ⟨T, a1, a2, rfl, hT, rfl, e1, e2⟩
      obtain ⟨_, _, _, S5⟩ := id Z
      have hif : i < fs.length := by omega
      have hx : fs[i]? = some fs[i] := List.getElem?_eq_getElem hif
      obtain ⟨hNx, hLx⟩ := hN _ (List.getElem_mem hif)
      generalize fs[i] = x at hx hNx hLx
      have hlc : ls[i]? = some (ltr x) := by rw [← hls, List.getElem?_map, hx]; rfl
      obtain rfl : V.str (S [ltr x]) = a1 := by
        have e1 : (ls[i]?).map (fun c => V.str (S [c])) = some a1 := e1
        rw [hlc] at e1
        exact Option.some.inj e1
      obtain ⟨d, hd, dx⟩ := ha.getV (show ws[i]? = some a2 from e2)
      rw [List.getElem?_map, hx] at hd
      cases hd
      have S6 := Same.new (o := .tup [.str (S [ltr x]), a2]) hT
      have S16 := (S1.trans S5).trans S6
      refine ⟨T, _, rfl, SqT.of upd_same, rfl, _, _, rfl, _, _, rfl, rfl, rfl, tYes_of ?_⟩
      refine ⟨_, rfl, _, rfl, _, rfl, a2, na, l, x, ltr x, rfl, rfl, NA.same S16, dx.mono S16, hNx, hLx, fun r H7 S7 dr => ?_⟩
      obtain ⟨acc, e7, hl7, Z7⟩ := Z.put hD (S6.trans S7) dr (by rw [List.length_map, List.length_take]; omega)
      refine ⟨acc, e7, hl7, ?_⟩
      rw [List.take_succ, hx, List.map_append]
      exact Z7
    rintro H5 ⟨acc, e5, a5, S5⟩
    have hw : fs.take ws.length = fs := by rw [hal]; exact List.take_length
    rw [hw] at a5
    have S15 := S1.trans S5
    refine ⟨_, rfl, q0, _, _, _, rfl, rfl, Same.tupl S15 hq0, at0, sz_1, fun u hu => ⟨_, rfl, D, _, rfl, .inl ⟨SqL.of ((Same.new hu) _ _ e5), fun t ht => ?_⟩⟩⟩
    have S6 := Same.new (o := .tup [.str kd]) hu
    have S7 := Same.new (o := .tup acc) ht
    refine ⟨[.str kd], fs.map fun x => fldD (tf l x), (Dt.made hu (.cons (.str kd) .nil)).mono S7, Dt.made ht (a5.mono S6), by rw [List.length_map]; simp; omega, fun v H8 S8 d8 => ?_⟩
    refine k _ _ (((S15.trans S6).trans S7).trans S8) ?_
    rw [List.map_map]
    exact d8
def tfr (l : List Int) (f : Fr) : Fr := ⟨f.kd, f.fs.map (tf l)⟩
def tf2 (l : List Int) : Fl2 → Fl2
  | .one x => .one (tf l x)
  | .fr fl => .fr (fl.map (tfr l))
theorem ltr2_tf (l : List Int) (x : Fl2) : ltr2 (tf2 l x) = ltr2 x := by
  cases x with
  | one x => exact ltr_tf l x
  | fr _ => rfl
def Fl2L (l : List Int) (x : Fl2) : Prop := ∀ k ∈ fl2R x, k ∈ l
theorem frD_t (l : List Int) (f : Fr) : frD (tfr l f) = .tuple (.str f.kd :: (f.fs.map (tf l)).map fldD) := rfl
def spWithNF (K : PySem.W.Frag) : Sp := fun vs H Q _ => ∃ (v : V) (na : Addr) (l : List Int) (fl : List Fr), vs = [.str (S [70]), v, .ref na] ∧ NumAt H na l ∧ Dt K H v (.tuple (fl.map frD)) ∧ Fl2N (.fr fl) ∧ Fl2L l (.fr fl) ∧ ∀ r H', Same H H' → Dt K H' r (.tuple ((fl.map (tfr l)).map frD)) → Q r H'
theorem ok_withnf {f : Addr} {fd : FuncData} (F : Fun K "_with_numbers" "_with_numbers" s_with_numbers f fd) (T : Txt K mg) (U_new_value : Use P w K mg base CX0 "_new_value" 1 P_new_value (spNewV K)) (U_renumbered : Use P w K mg base CX0 "_renumbered" 3 P_renumbered (spRenumd0 K)) (U_FIELDS : UseD P w K mg "FIELDS" (txtKV fieldsL)) : FnG P w K mg base CX0 4 f fd P_with_numbers (spWithNF K) := by
  refine okG0 F sc_with_numbers (fun vs H Q E h => ?_) fun cdv A outer s H vs Q E hr hg h => ?_
  · obtain ⟨v, na, l, fl, rfl, _⟩ := h
    rfl
  · obtain ⟨v, na, l, fl, rfl, NA, dv, hN, hL, k⟩ := h
    have hu : (A.deeper (envOfC "_with_numbers" (defScope s_with_numbers) s.heap.objs.size f cdv)).units + 1 < cLine := Nat.lt_of_le_of_lt (by omega) hr.units
    obtain ⟨aD_FIELDS, gD_FIELDS, kD⟩ := U_FIELDS.ex
    refine ⟨_, (pss_cons (ps_if (pt_cmpR op_eq (pv 0) pe_str (nomark _))
   (pss_one (ps_ret (pe_use U_new_value (hr.mono (by decide)) hg rfl (pa_cons (pv 1) (pa_cons (pv 2) pa_nil)))))
   pss_nil)
  (pss_cons (ps_if (pt_cmpR op_eq (pv 0) pe_str (nomark _))
   (pss_one (ps_ret (pe_callTy call_tuple_of (by rfl) T.b_tuple (by decide +kernel) (pa_cons (pe_lc (own := [("value", 3)]) (g := (gName 3)) rfl sc_with_numbers.nd (pi_tup (pv 1)) (blkOk_by (N := N_with_numbers) (sc := defScope s_with_numbers) (by decide +kernel)) (fun _ _ _ _ _ => (pg_name (i := 3) sc_with_numbers.nd rfl (Or.inl rfl))) (fun _ _ _ _ _ => pts_nil) (fun _ _ _ _ _ => (pe_use U_new_value (hr.mono (by decide)) hg rfl (pa_cons (pv 3) (pa_cons (pv 2) pa_nil))))) pa_nil))))
   pss_nil)
  (pss_cons (ps_if (pt_cmpR op_eq (pv 0) pe_str (nomark _))
   (pss_one (ps_ret (pe_callTy call_tuple_of (by rfl) T.b_tuple (by decide +kernel) (pa_cons (pe_lc (own := [("key", 4), ("worth", 5)]) (g := (gTup K 2 (gCons (gName 4) (gCons (gName 5) gNil)))) rfl sc_with_numbers.nd (pi_tup (pv 1)) (blkOk_by (N := N_with_numbers) (sc := defScope s_with_numbers) (by decide +kernel)) (fun _ _ _ _ _ => (pg_tup (by rfl) (pgs_cons (pg_name (i := 4) sc_with_numbers.nd rfl (Or.inl rfl)) (pgs_cons (pg_name (i := 5) sc_with_numbers.nd rfl (Or.inl rfl)) pgs_nil)))) (fun _ _ _ _ _ => pts_nil) (fun _ _ _ _ _ => (pe_tup (pa_cons (pe_use U_new_value (hr.mono (by decide)) hg rfl (pa_cons (pv 4) (pa_cons (pv 2) pa_nil))) (pa_cons (pe_use U_new_value (hr.mono (by decide)) hg rfl (pa_cons (pv 5) (pa_cons (pv 2) pa_nil))) pa_nil))))) pa_nil))))
   pss_nil)
  (pss_cons (ps_if (pt_cmpR op_eq (pv 0) pe_str (nomark _))
   (pss_one (ps_ret (pe_callTy call_tuple_of (by rfl) T.b_tuple (by decide +kernel) (pa_cons (pe_lc (own := [("name", 6), ("value", 3)]) (g := (gTup K 2 (gCons (gName 6) (gCons (gName 3) gNil)))) rfl sc_with_numbers.nd (pi_tup (pv 1)) (blkOk_by (N := N_with_numbers) (sc := defScope s_with_numbers) (by decide +kernel)) (fun _ _ _ _ _ => (pg_tup (by rfl) (pgs_cons (pg_name (i := 6) sc_with_numbers.nd rfl (Or.inl rfl)) (pgs_cons (pg_name (i := 3) sc_with_numbers.nd rfl (Or.inl rfl)) pgs_nil)))) (fun _ _ _ _ _ => pts_nil) (fun _ _ _ _ _ => (pe_tup (pa_cons (pv 6) (pa_cons (pe_use U_new_value (hr.mono (by decide)) hg rfl (pa_cons (pv 3) (pa_cons (pv 2) pa_nil))) pa_nil))))) pa_nil))))
   pss_nil)
  (pss_cons (ps_if (pt_cmpR op_eq (pv 0) pe_str (nomark _))
   (pss_one (ps_ret (pe_op op_catTD (pe_slice sl_row (pv 1) po_none (po_some pe_int)) (pe_callTy call_tuple_of (by rfl) T.b_tuple (by decide +kernel) (pa_cons (pe_lc (own := [("value", 3)]) (g := (gName 3)) rfl sc_with_numbers.nd (pi_tup (pe_slice sl_row (pv 1) (po_some pe_int) po_none)) (blkOk_by (N := N_with_numbers) (sc := defScope s_with_numbers) (by decide +kernel)) (fun _ _ _ _ _ => (pg_name (i := 3) sc_with_numbers.nd rfl (Or.inl rfl))) (fun _ _ _ _ _ => pts_nil) (fun _ _ _ _ _ => (pe_use U_new_value (hr.mono (by decide)) hg rfl (pa_cons (pv 3) (pa_cons (pv 2) pa_nil))))) pa_nil)))))
   pss_nil)
  (pss_cons (ps_if (pt_cmpR op_eq (pv 0) pe_str (nomark _))
   (pss_one (ps_ret (pe_callTy call_tuple_of (by rfl) T.b_tuple (by decide +kernel) (pa_cons (pe_lc (own := [("frame", 7)]) (g := (gName 7)) rfl sc_with_numbers.nd (pi_tup (pv 1)) (blkOk_by (N := N_with_numbers) (sc := defScope s_with_numbers) (by decide +kernel)) (fun _ _ _ _ _ => (pg_name (i := 7) sc_with_numbers.nd rfl (Or.inl rfl))) (fun _ _ _ _ _ => pts_nil) (fun _ _ _ _ _ => (pe_use U_renumbered (hr.mono (by decide)) hg rfl (pa_cons (pe_dgetK (pe_glob (v := .ref aD_FIELDS) (by rfl) gD_FIELDS rfl) (pe_ix (ix_tup : IxR _ (rIxT K)) (pv 7) pe_int (fun _ _ => rfl)) (fun _ _ => rfl) : PE _ _ (tDGetK P w K _ _)) (pa_cons (pv 7) (pa_cons (pv 2) pa_nil)))))) pa_nil))))
   pss_nil)
  (pss_cons (ps_if (PW.pt (pw_and (pt_cmpR op_in_seq (pv 0) (pe_tup (pa_cons pe_str (pa_cons pe_str pa_nil))) (by rfl)) (pw_and1 (pt_cmpR op_ge (pv 1) pe_int (nomark _)))))
   (pss_one (ps_ret (pe_dget hu (pv 2) (pv 1) (fun _ _ => rfl))))
   pss_nil)
  (pss_one (ps_ret (pv 1)))))))))), ?_⟩
    iterate 5 refine ⟨_, rfl, rfl, _, rfl, iteFb (by decide +kernel) ?_⟩
    refine ⟨_, rfl, rfl, _, rfl, iteTb (by decide +kernel) ?_⟩
    obtain ⟨q, ws, rfl, hq, ha⟩ := dv.tuple_inv
    have hal := ha.length
    rw [List.length_map] at hal
    refine ⟨_, rfl, q, rfl, ⟨_, hq⟩, fun D hD => ?_⟩
    refine lc_it (walk_tup (xs := ws)) (fun j H' => LAcc K H D ((fl.take j).map fun f => frD (tfr l f)) H') (LAcc.start hD) (fun j H' _ h => let ⟨_, _, _, S'⟩ := h; Same.tupl S' hq) ?_ ?_
    · rintro j y H5 H6 hj Z ⟨rfl, hy⟩
      obtain ⟨_, _, _, S5⟩ := id Z
      obtain ⟨d, hd, dy⟩ := ha.getV hy
      rw [List.getElem?_map] at hd
      obtain ⟨g, hgm, rfl⟩ := Option.map_eq_some_iff.mp hd
      have hg1 := List.mem_of_getElem? hgm
      obtain ⟨hgt, hgN⟩ := hN.2 g hg1
      have dy5 := dy.mono S5
      obtain ⟨q2, w2, rfl, hq2, _⟩ := (show Dt K _ y (.tuple (.str g.kd :: g.fs.map fldD)) from dy5).head
      refine ⟨rfl, tYes_of ⟨_, rfl, q2, _, _, _, rfl, rfl, hq2, at0, aD_FIELDS, _, .inr g.kd, _, rfl, kD, rfl, tab_val fields_at hgt, _, rfl, _, rfl, _, na, l, g.kd, g.fs, _, rfl, rfl, frTab_len10 hgt, NA.same S5, dy5, fun x hx => ⟨hgN x hx, fun z hz => hL z ?_⟩, fun r H7 S7 dr => ?_⟩⟩
      · exact List.mem_flatMap.mpr ⟨g, hg1, List.mem_flatMap.mpr ⟨x, hx, hz⟩⟩
      · obtain ⟨acc, e7, hl7, Z7⟩ := Z.put hD S7 (d := frD (tfr l g)) dr (by rw [List.length_map, List.length_take]; have := hN.1; omega)
        refine ⟨acc, e7, hl7, ?_⟩
        rw [List.take_succ, hgm, List.map_append]
        exact Z7
    · rintro H5 ⟨acc, e5, a5, S5⟩
      rw [hal, List.take_length] at a5
      refine ⟨D, _, rfl, .inl ⟨SqL.of e5, fun t ht => k _ _ (S5.trans (Same.new ht)) (Dt.made ht ?_)⟩⟩
      rw [List.map_map]
      exact a5
def spWithN (K : PySem.W.Frag) : Sp := fun vs H Q _ => ∃ (v : V) (na : Addr) (l : List Int) (x : Fl2) (c : Nat), vs = [.str (S [c]), v, .ref na] ∧ ltr2 x = c ∧ NumAt H na l ∧ Dt K H v (fl2D x) ∧ Fl2N x ∧ Fl2L l x ∧ ∀ r H', Same H H' → Dt K H' r (fl2D (tf2 l x)) → Q r H'
theorem ok_withn {f : Addr} {fd : FuncData} (F : Fun K "_with_numbers" "_with_numbers" s_with_numbers f fd) (T : Txt K mg) (U_new_value : Use P w K mg base CX0 "_new_value" 1 P_new_value (spNewV K)) (U_renumbered : Use P w K mg base CX0 "_renumbered" 3 P_renumbered (spRenumd0 K)) (U_FIELDS : UseD P w K mg "FIELDS" (txtKV fieldsL)) : FnG P w K mg base CX0 4 f fd P_with_numbers (spWithN K) :=
  ((FnG.up (ok_withn0 F T U_new_value) (by decide)).or (ok_withnf F T U_new_value U_renumbered U_FIELDS)).imp fun vs H Q E h => by
    obtain ⟨v, na, l, x, c, rfl, hc, NA, dv, hN, hL, k⟩ := h
    cases x with
    | one y => exact .inl ⟨v, na, l, y, c, rfl, hc, NA, dv, hN, hL, k⟩
    | fr fl =>
      obtain rfl : 70 = c := hc
      exact .inr ⟨v, na, l, fl, rfl, NA, dv, hN, hL, k⟩
def spRenumd (K : PySem.W.Frag) : Sp := fun vs H Q _ => ∃ (v : V) (na : Addr) (l : List Int) (kd : Str) (fs : List Fl2) (ls : List Nat), vs = [.str (S ls), v, .ref na] ∧ fs.map ltr2 = ls ∧ ls.length ≤ 10 ∧ NumAt H na l ∧ Dt K H v (.tuple (.str kd :: fs.map fl2D)) ∧ (∀ x ∈ fs, Fl2N x ∧ Fl2L l x) ∧
  ∀ r H', Same H H' → Dt K H' r (.tuple (.str kd :: (fs.map (tf2 l)).map fl2D)) → Q r H'
theorem ok_renumd {f : Addr} {fd : FuncData} (F : Fun K "_renumbered" "_renumbered" s_renumbered f fd) (T : Txt K mg) (U_with_numbers : Use P w K mg base CX0 "_with_numbers" 4 P_with_numbers (spWithN K)) : FnG P w K mg base CX0 5 f fd P_renumbered (spRenumd K) := by
  refine okG0 F sc_renumbered (fun vs H Q E h => ?_) fun cdv A outer s H vs Q E hr hg h => ?_
  · obtain ⟨v, na, l, kd, fs, ls, rfl, _⟩ := h
    rfl
  · obtain ⟨v, na, l, kd, fs, ls, rfl, hls, hll, NA, dv, hN, k⟩ := h
    refine ⟨_, (pss_cons (ps_setLc (i := 3) (own := [("letter", 4), ("field", 5)]) (g := (gTup K 2 (gCons (gName 4) (gCons (gName 5) gNil)))) rfl sc_renumbered.nd rfl rfl (sw_true rfl rfl rfl (by decide +kernel)) (pi_zipST (by rfl) T.b_zip (pa_cons (pv 0) (pa_cons (pe_slice sl_tupA (pv 1) (po_some pe_int) po_none) pa_nil))) (blkOk_by (N := N_renumbered) (sc := defScope s_renumbered) (by decide +kernel)) (fun _ _ _ _ _ => (pg_tup (by rfl) (pgs_cons (pg_name (i := 4) sc_renumbered.nd rfl (Or.inl rfl)) (pgs_cons (pg_name (i := 5) sc_renumbered.nd rfl (Or.inl rfl)) pgs_nil)))) (fun _ _ _ _ _ => pts_nil) (fun _ _ _ _ _ => (pe_use U_with_numbers (hr.mono (by decide)) hg rfl (pa_cons (pv 4) (pa_cons (pv 5) (pa_cons (pv 2) pa_nil))))))
  (pss_one (ps_ret (pe_op op_catTD (pe_tup (pa_cons (pe_ix ix_tup (pv 1) pe_int (fun _ _ => rfl)) pa_nil)) (pe_callTy call_tuple_of (by rfl) T.b_tuple (by decide +kernel) (pa_cons (pv 3) pa_nil)))))), ?_⟩
    obtain ⟨q0, ws, rfl, hq0, ha⟩ := dv.head
    have hal := ha.length
    rw [List.length_map] at hal
    have hfsl : fs.length = ls.length := by rw [← hls, List.length_map]
    refine ⟨_, rfl, _, rfl, _, rfl, ?_⟩
    refine ⟨q0, _, rfl, hq0, fun e => absurd e.1 (tail_no _ _), fun _ q hq => ?_⟩
    rw [cut_one]
    refine ⟨S ls, q, ws, rfl, SqT.of upd_same, fun D hD => ?_⟩
    have S1 := Same.new (o := .tup ws) hq
    have hq1 : SqT K (upd H q (.tup ws)) q ws := SqT.of upd_same
    generalize upd H q (.tup ws) = H1 at S1 hq1 hD
    refine lc_it (walk_zipST (z := ls) (b := q) (ys := ws) (by omega)) (fun i H' => LAcc K H1 D ((fs.take i).map fun x => fl2D (tf2 l x)) H') (LAcc.start hD) (fun j H' _ h => let ⟨_, _, _, S'⟩ := h; Same.tupl S' hq1) ?_ ?_
    · rintro i y H5 H6 hi Z ⟨T, a1, a2, rfl, hT, rfl, e1, e2⟩
      obtain ⟨_, _, _, S5⟩ := id Z
      have hif : i < fs.length := by omega
      have hx : fs[i]? = some fs[i] := List.getElem?_eq_getElem hif
      obtain ⟨hNx, hLx⟩ := hN _ (List.getElem_mem hif)
      generalize fs[i] = x at hx hNx hLx
      have hlc : ls[i]? = some (ltr2 x) := by rw [← hls, List.getElem?_map, hx]; rfl
      obtain rfl : V.str (S [ltr2 x]) = a1 := by
        have e1 : (ls[i]?).map (fun c => V.str (S [c])) = some a1 := e1
        rw [hlc] at e1
        exact Option.some.inj e1
      obtain ⟨d, hd, dx⟩ := ha.getV (show ws[i]? = some a2 from e2)
      rw [List.getElem?_map, hx] at hd
      cases hd
      have S6 := Same.new (o := .tup [.str (S [ltr2 x]), a2]) hT
      have S16 := (S1.trans S5).trans S6
      refine ⟨T, _, rfl, SqT.of upd_same, rfl, _, _, rfl, _, _, rfl, rfl, rfl, tYes_of ?_⟩
      refine ⟨_, rfl, _, rfl, _, rfl, a2, na, l, x, ltr2 x, rfl, rfl, NA.same S16, dx.mono S16, hNx, hLx, fun r H7 S7 dr => ?_⟩
      obtain ⟨acc, e7, hl7, Z7⟩ := Z.put hD (S6.trans S7) dr (by rw [List.length_map, List.length_take]; omega)
      refine ⟨acc, e7, hl7, ?_⟩
      rw [List.take_succ, hx, List.map_append]
      exact Z7
    rintro H5 ⟨acc, e5, a5, S5⟩
    have hw : fs.take ws.length = fs := by rw [hal]; exact List.take_length
    rw [hw] at a5
    have S15 := S1.trans S5
    refine ⟨_, rfl, q0, _, _, _, rfl, rfl, Same.tupl S15 hq0, at0, sz_1, fun u hu => ⟨_, rfl, D, _, rfl, .inl ⟨SqL.of ((Same.new hu) _ _ e5), fun t ht => ?_⟩⟩⟩
    have S6 := Same.new (o := .tup [.str kd]) hu
    have S7 := Same.new (o := .tup acc) ht
    refine ⟨[.str kd], fs.map fun x => fl2D (tf2 l x), (Dt.made hu (.cons (.str kd) .nil)).mono S7, Dt.made ht (a5.mono S6), by rw [List.length_map]; simp; omega, fun v H8 S8 d8 => ?_⟩
    refine k _ _ (((S15.trans S6).trans S7).trans S8) ?_
    rw [List.map_map]
    exact d8
--SPLIT
end

abbrev s_renumber : Stmt := top 12
abbrev N_renumber : List Str := ["machine", "order", "numbers", "at", "k", "control", "frames", "frame", "items", "heap", "item"]
abbrev P_renumber : List Str := ["machine"]
theorem sc_renumber : FnScope N_renumber P_renumber (defScope s_renumber) := ⟨rfl, rfl, rfl, by decide +kernel, rfl, by decide +kernel, by decide +kernel⟩
section
variable {P : Program} {w : World} {K : PySem.W.Frag} {mg : Str → Option Value} {base : Heap}
def gx (l : List Int) (k : Int) : Int := ((l.idxOf k : Nat) : Int)
theorem idx_at {l : List Int} {k : Int} (h : k ∈ l) : l[l.idxOf k]? = some k := by
  have h1 := List.idxOf_lt_length_of_mem h
  rw [List.getElem?_eq_getElem h1, List.getElem_idxOf h1]
theorem gx_inj {l : List Int} {x y : Int} (hx : x ∈ l) (hy : y ∈ l) (h : gx l x = gx l y) : x = y := by
  have h1 : l.idxOf x = l.idxOf y := Int.ofNat_inj.mp h
  have a := idx_at hx
  rw [h1, idx_at hy] at a
  exact (Option.some.inj a).symm
theorem idx_of {l : List Int} (hn : l.Nodup) {i : Nat} {k : Int} (h : l[i]? = some k) : l.idxOf k = i := by
  have hm := List.mem_of_getElem? h
  have a := idx_at hm
  have h1 := List.getElem?_eq_some_iff.mp a
  have h2 := List.getElem?_eq_some_iff.mp h
  rcases Nat.lt_trichotomy (l.idxOf k) i with c | c | c
  · exact absurd (h1.2.trans h2.2.symm) (List.pairwise_iff_getElem.mp hn _ _ h1.1 h2.1 c)
  · exact c
  · exact absurd (h2.2.trans h1.2.symm) (List.pairwise_iff_getElem.mp hn _ _ h2.1 h1.1 c)
theorem map_gx {l : List Int} (hn : l.Nodup) : l.map (gx l) = (List.range l.length).map fun (i : Nat) => (i : Int) := by
  refine List.ext_getElem? fun i => ?_
  rw [List.getElem?_map, List.getElem?_map]
  by_cases c : i < l.length
  · have h : l[i]? = some l[i] := List.getElem?_eq_getElem c
    rw [h, List.getElem?_range c]
    show some (gx l l[i]) = some (i : Int)
    unfold gx
    rw [idx_of hn h]
  · rw [List.getElem?_eq_none (by omega), List.getElem?_eq_none (by rw [List.length_range]; omega)]
    rfl
theorem valR_tv (l : List Int) (x : Val) : valR (tv l x) = (valR x).map (gx l) := by cases x <;> rfl
theorem vals_tv (l : List Int) (xs : List Val) : (xs.map (tv l)).flatMap valR = (xs.flatMap valR).map (gx l) := by
  rw [List.flatMap_map, List.map_flatMap]
  congr 1
  funext x
  exact valR_tv l x
theorem fldR_tf (l : List Int) (x : Fld) : fldR (tf l x) = (fldR x).map (gx l) := by
  cases x with
  | v x => simp [fldR, tf, fldVs, valR_tv]
  | V xs => exact vals_tv l xs
  | W ps =>
    show ((ps.map fun p => (tv l p.1, tv l p.2)).flatMap fun p => [p.1, p.2]).flatMap valR = ((ps.flatMap fun p => [p.1, p.2]).flatMap valR).map (gx l)
    rw [← vals_tv, List.flatMap_map, List.map_flatMap]
    rfl
  | X ps =>
    show ((ps.map fun p => (p.1, tv l p.2)).map (·.2)).flatMap valR = ((ps.map (·.2)).flatMap valR).map (gx l)
    rw [← vals_tv, List.map_map, List.map_map]
    rfl
  | s2 z x => simp [fldR, tf, fldVs, valR_tv]
  | a k => rfl
  | b k =>
    show (if 0 ≤ (if 0 ≤ k then ((l.idxOf k : Nat) : Int) else k) then [if 0 ≤ k then ((l.idxOf k : Nat) : Int) else k] else []) = (if 0 ≤ k then [k] else []).map (gx l)
    by_cases c : 0 ≤ k
    · rw [if_pos c, if_pos c, if_pos (by omega)]; rfl
    · rw [if_neg c, if_neg c]; rfl
  | _ => rfl
theorem frR_tf (l : List Int) (f : Fr) : frR (tfr l f) = (frR f).map (gx l) := by
  show (f.fs.map (tf l)).flatMap fldR = (f.fs.flatMap fldR).map (gx l)
  rw [List.flatMap_map, List.map_flatMap]
  congr 1
  funext x
  exact fldR_tf l x
theorem fl2R_tf (l : List Int) (x : Fl2) : fl2R (tf2 l x) = (fl2R x).map (gx l) := by
  cases x with
  | one x => exact fldR_tf l x
  | fr fl =>
    show (fl.map (tfr l)).flatMap frR = (fl.flatMap frR).map (gx l)
    rw [List.flatMap_map, List.map_flatMap]
    congr 1
    funext x
    exact frR_tf l x
def tob (l : List Int) (o : Ob) : Ob := ⟨o.kd, o.fs.map (tf2 l)⟩
theorem obR_tf (l : List Int) (o : Ob) : obR (tob l o) = (obR o).map (gx l) := by
  show (o.fs.map (tf2 l)).flatMap fl2R = (o.fs.flatMap fl2R).map (gx l)
  rw [List.flatMap_map, List.map_flatMap]
  congr 1
  funext x
  exact fl2R_tf l x
def Pt.ob (M : Pt) (k : Int) : Ob := (M.obs[k.toNat]?).getD ⟨"", []⟩
def renP (M : Pt) (l : List Int) : Pt := ⟨tfr l M.c, M.frs.map (tfr l), l.map fun k => tob l (M.ob k), M.out, M.act, M.here, M.line, M.steps⟩
theorem ValSm.t {m : Nat} {l : List Int} {x : Val} (h : ValSm m x) (hl : ∀ k ∈ valR x, k ∈ l) : ValSm l.length (tv l x) := by
  cases x with
  | ref n => exact List.idxOf_lt_length_of_mem (hl _ (by simp [valR]))
  | _ => exact h
theorem FldSm.t {m : Nat} {l : List Int} {x : Fld} (h : FldSm m x) (hl : FldL l x) : FldSm l.length (tf l x) := by
  have hv : ∀ y ∈ fldVs x, fldR x = (fldVs x).flatMap valR → ∀ k ∈ valR y, k ∈ l := fun y hy e k hk => hl k (by rw [e]; exact List.mem_flatMap.mpr ⟨y, hy, hk⟩)
  cases x with
  | v x => exact ValSm.t h (hv x (by simp [fldVs]) rfl)
  | V xs =>
    refine ⟨by rw [List.length_map]; exact h.1, fun y hy => ?_⟩
    obtain ⟨z, hz, rfl⟩ := List.mem_map.mp hy
    exact (h.2 z hz).t (hv z hz rfl)
  | W ps =>
    refine ⟨by rw [List.length_map]; exact h.1, fun y hy => ?_⟩
    obtain ⟨z, hz, rfl⟩ := List.mem_map.mp hy
    exact ⟨(h.2 z hz).1.t (hv z.1 (List.mem_flatMap.mpr ⟨z, hz, by simp⟩) rfl), (h.2 z hz).2.t (hv z.2 (List.mem_flatMap.mpr ⟨z, hz, by simp⟩) rfl)⟩
  | X ps =>
    refine ⟨by rw [List.length_map]; exact h.1, fun y hy => ?_⟩
    obtain ⟨z, hz, rfl⟩ := List.mem_map.mp hy
    exact ⟨(h.2 z hz).1, (h.2 z hz).2.t (hv z.2 (List.mem_map.mpr ⟨z, hz, rfl⟩) rfl)⟩
  | s2 z x => exact ⟨h.1, h.2.t (hv x (by simp [fldVs]) rfl)⟩
  | a k => exact List.idxOf_lt_length_of_mem (hl _ (by simp [fldR]))
  | b k =>
    show -1 ≤ (if 0 ≤ k then ((l.idxOf k : Nat) : Int) else k) ∧ (if 0 ≤ k then ((l.idxOf k : Nat) : Int) else k) < l.length
    by_cases c : 0 ≤ k
    · rw [if_pos c]
      have := List.idxOf_lt_length_of_mem (hl k (by simp [fldR, c]))
      omega
    · rw [if_neg c]
      exact ⟨h.1, by omega⟩
  | _ => exact h
theorem map_ltr (l : List Int) (fs : List Fld) : (fs.map (tf l)).map ltr = fs.map ltr := by
  rw [List.map_map]; exact List.map_congr_left fun x _ => ltr_tf l x
theorem map_ltr2 (l : List Int) (fs : List Fl2) : (fs.map (tf2 l)).map ltr2 = fs.map ltr2 := by
  rw [List.map_map]; exact List.map_congr_left fun x _ => ltr2_tf l x
theorem FrSm.t {m : Nat} {l : List Int} {f : Fr} (h : FrSm m f) (hl : ∀ k ∈ frR f, k ∈ l) : FrSm l.length (tfr l f) := by
  refine ⟨by show (f.kd, (f.fs.map (tf l)).map ltr) ∈ frTab; rw [map_ltr]; exact h.1, fun x hx => ?_⟩
  obtain ⟨y, hy, rfl⟩ := List.mem_map.mp hx
  exact (h.2 y hy).t fun k hk => hl k (List.mem_flatMap.mpr ⟨y, hy, hk⟩)
theorem Fl2Sm.t {m : Nat} {l : List Int} {x : Fl2} (h : Fl2Sm m x) (hl : Fl2L l x) : Fl2Sm l.length (tf2 l x) := by
  cases x with
  | one x => exact FldSm.t h hl
  | fr fl =>
    refine ⟨by rw [List.length_map]; exact h.1, fun f hf => ?_⟩
    obtain ⟨g, hg, rfl⟩ := List.mem_map.mp hf
    exact (h.2 g hg).t fun k hk => hl k (List.mem_flatMap.mpr ⟨g, hg, hk⟩)
theorem ObSm.t {m : Nat} {l : List Int} {o : Ob} (h : ObSm m o) (hl : ∀ k ∈ obR o, k ∈ l) : ObSm l.length (tob l o) := by
  refine ⟨by show (o.kd, (o.fs.map (tf2 l)).map ltr2) ∈ obTab; rw [map_ltr2]; exact h.1, fun x hx => ?_⟩
  obtain ⟨y, hy, rfl⟩ := List.mem_map.mp hx
  exact (h.2 y hy).t fun k hk => hl k (List.mem_flatMap.mpr ⟨y, hy, hk⟩)
/-- what is found, and that all is there -/
structure Full (M : Pt) (m : Nat) (t : Nat) : Prop where
  sm : PtSm m M
  hm : 17 ≤ m
  e : StEnd M.R M.roots t
theorem Full.at {M : Pt} {m t : Nat} (h : Full M m t) {k : Int} (hk : k ∈ M.st t) : ∃ j : Nat, k = (j : Int) ∧ M.obs[j]? = some (M.ob k) ∧ ObSm m (M.ob k) ∧ M.R k = obR (M.ob k) ∧ ∀ z ∈ obR (M.ob k), z ∈ M.st t := by
  obtain ⟨i, hi⟩ := List.getElem?_of_mem hk
  obtain ⟨j, o, rfl, ho, hos, hR⟩ := h.sm.at h.hm hi
  have e : M.ob (j : Int) = o := by unfold Pt.ob; rw [Int.toNat_natCast, ho]; rfl
  rw [e]
  exact ⟨j, rfl, ho, hos, hR, fun z hz => h.e.closed.2 i _ hi z (by rw [hR]; exact hz)⟩
theorem Full.ren {M : Pt} {m t : Nat} (h : Full M m t) : PtSm (M.st t).length (renP M (M.st t)) := by
  have hr := h.e.closed.1
  refine ⟨⟨?_, fun x hx => ?_⟩, by show (M.frs.map _).length ≤ 5; rw [List.length_map]; exact h.sm.fl, fun f hf => ?_, by show (List.map _ _).length = _; rw [List.length_map], fun o ho => ?_⟩
  · show (M.c.kd, (M.c.fs.map (tf _)).map ltr) ∈ coTab
    rw [map_ltr]; exact h.sm.c.1
  · obtain ⟨y, hy, rfl⟩ := List.mem_map.mp hx
    exact (h.sm.c.2 y hy).t fun k hk => hr k (List.mem_append_left _ (List.mem_flatMap.mpr ⟨y, hy, hk⟩))
  · obtain ⟨g, hg, rfl⟩ := List.mem_map.mp hf
    exact (h.sm.f g hg).t fun k hk => hr k (List.mem_append_right _ (List.mem_flatMap.mpr ⟨g, hg, hk⟩))
  · obtain ⟨k, hk, rfl⟩ := List.mem_map.mp ho
    obtain ⟨j, _, _, hos, _, hz⟩ := h.at hk
    exact hos.t hz
theorem addN_map {l : List Int} : ∀ (rs f : List Int), (∀ x ∈ f, x ∈ l) → (∀ x ∈ rs, x ∈ l) → addN (f.map (gx l)) (rs.map (gx l)) = (addN f rs).map (gx l)
  | [], f, _, _ => rfl
  | k :: r, f, hf, hr => by
    have hk := hr k (by simp)
    have hr' : ∀ x ∈ r, x ∈ l := fun x hx => hr x (List.mem_cons_of_mem _ hx)
    have hm : gx l k ∈ f.map (gx l) ↔ k ∈ f := ⟨fun h => by
      obtain ⟨y, hy, e⟩ := List.mem_map.mp h
      rw [gx_inj hk (hf y hy) e.symm]; exact hy, fun h => List.mem_map.mpr ⟨k, h, rfl⟩⟩
    rw [List.map_cons, addN, addN]
    by_cases c : k ∈ f
    · rw [if_pos c, if_pos (hm.mpr c)]
      exact addN_map r f hf hr'
    · rw [if_neg c, if_neg (fun h => c (hm.mp h)), show f.map (gx l) ++ [gx l k] = (f ++ [k]).map (gx l) by rw [List.map_append]; rfl]
      exact addN_map r (f ++ [k]) (fun x hx => by
        rcases List.mem_append.mp hx with h | h
        · exact hf x h
        · rw [List.mem_singleton.mp h]; exact hk) hr'
theorem roots_ren (M : Pt) (l : List Int) : (renP M l).roots = M.roots.map (gx l) := by
  show (M.c.fs.map (tf l)).flatMap fldR ++ (M.frs.map (tfr l)).flatMap frR = (M.c.fs.flatMap fldR ++ M.frs.flatMap frR).map (gx l)
  rw [List.map_append]
  congr 1
  · exact frR_tf l M.c
  · rw [List.flatMap_map, List.map_flatMap]
    congr 1
    funext x
    exact frR_tf l x
theorem Full.st_ren {M : Pt} {m t : Nat} (h : Full M m t) : ∀ s ≤ t, (renP M (M.st t)).st s = (M.st s).map (gx (M.st t))
  | 0, _ => by
    show addN _ _ = (addN _ _).map _
    rw [roots_ren]
    have h17 : ((List.range 17).map fun (i : Nat) => (i : Int)).map (gx (M.st t)) = (List.range 17).map fun (i : Nat) => (i : Int) := by
      rw [List.map_map]
      refine List.map_congr_left fun i hi => ?_
      have hi := List.mem_range.mp hi
      show gx (M.st t) (i : Int) = i
      unfold gx
      obtain ⟨more, em⟩ := St_first (R := M.R) (roots := M.roots) t
      rw [idx_of (St_nodup t) (i := i)]
      show (St M.R M.roots t)[i]? = _
      rw [em, List.getElem?_append_left (by simpa using hi), List.getElem?_map, List.getElem?_range hi]
      rfl
    rw [← addN_map _ _ ?_ fun x hx => h.e.closed.1 x hx, h17]
    intro x hx
    obtain ⟨more, em⟩ := St_first (R := M.R) (roots := M.roots) t
    show x ∈ St M.R M.roots t
    rw [em]
    exact List.mem_append_left _ hx
  | s + 1, hs => by
    have ih := Full.st_ren h s (by omega)
    have hin : ∀ x ∈ M.st s, x ∈ M.st t := fun x hx => by
      obtain ⟨more, em⟩ := St_le (R := M.R) (roots := M.roots) (show s ≤ t by omega)
      show x ∈ St M.R M.roots t
      rw [em]; exact List.mem_append_left _ hx
    have hlt := h.e.go s (by omega)
    have hz : (M.st s)[s]? = some (M.st s)[s] := List.getElem?_eq_getElem hlt
    generalize (M.st s)[s] = z at hz
    have hzt := hin z (List.mem_of_getElem? hz)
    obtain ⟨j, rfl, ho, hos, hR, hsub⟩ := h.at hzt
    have h2 : ((renP M (M.st t)).st s)[s]? = some (gx (M.st t) (j : Int)) := by rw [ih, List.getElem?_map, hz]; rfl
    have hRg : (renP M (M.st t)).R (gx (M.st t) (j : Int)) = (M.R (j : Int)).map (gx (M.st t)) := by
      unfold Pt.R
      have e1 : (renP M (M.st t)).obs[(gx (M.st t) (j : Int)).toNat]? = some (tob (M.st t) (M.ob (j : Int))) := by
        show ((M.st t).map fun k => tob (M.st t) (M.ob k))[((((M.st t).idxOf (j : Int) : Nat) : Int)).toNat]? = _
        rw [Int.toNat_natCast, List.getElem?_map, idx_at hzt]
        rfl
      rw [e1, Int.toNat_natCast, ho]
      exact obR_tf _ _
    show St _ _ (s + 1) = (St _ _ (s + 1)).map _
    rw [St_lt h2, St_lt hz, hRg]
    rw [show St (renP M (M.st t)).R (renP M (M.st t)).roots s = _ from ih]
    exact addN_map _ _ hin fun x hx => hsub x (by rw [← hR]; exact hx)
theorem Full.again {M : Pt} {m t : Nat} (h : Full M m t) : Full (renP M (M.st t)) (M.st t).length t := by
  refine ⟨h.ren, St_len17 t, ⟨?_, fun j hj => ?_⟩⟩
  · have := h.e.fin
    rw [show St (renP M (M.st t)).R (renP M (M.st t)).roots t = _ from h.st_ren t (Nat.le_refl t), List.length_map]
    exact this
  · have := h.e.go j hj
    rw [show St (renP M (M.st t)).R (renP M (M.st t)).roots j = _ from h.st_ren j (by omega), List.length_map]
    exact this
theorem Full.st2 {M : Pt} {m t : Nat} (h : Full M m t) : (renP M (M.st t)).st t = (List.range (M.st t).length).map fun (i : Nat) => (i : Int) := by
  rw [h.st_ren t (Nat.le_refl t), map_gx (St_nodup t)]
/-! a row that is 0, 1, .. changes nothing -/
def rg (n : Nat) : List Int := (List.range n).map fun (i : Nat) => (i : Int)
theorem rg_at {n i : Nat} (h : i < n) : (rg n)[i]? = some (i : Int) := by unfold rg; rw [List.getElem?_map, List.getElem?_range h]; rfl
theorem rg_nodup (n : Nat) : (rg n).Nodup := by
  unfold rg
  refine List.pairwise_map.mpr ?_
  exact List.Pairwise.imp (fun h e => h (Int.ofNat_inj.mp e)) List.nodup_range
theorem rg_idx {n i : Nat} (h : i < n) : (rg n).idxOf (i : Int) = i := idx_of (rg_nodup n) (rg_at h)
theorem tv_id {n : Nat} {x : Val} (h : ValSm n x) : tv (rg n) x = x := by
  cases x with
  | ref k => show Val.ref ((rg n).idxOf (k : Int)) = .ref k; rw [rg_idx h]
  | _ => rfl
theorem map_id_of {α : Type} {f : α → α} : ∀ {xs : List α}, (∀ x ∈ xs, f x = x) → xs.map f = xs
  | [], _ => rfl
  | x :: r, h => by rw [List.map_cons, h x (by simp), map_id_of fun y hy => h y (List.mem_cons_of_mem _ hy)]
theorem tf_id {n : Nat} {x : Fld} (h : FldSm n x) : tf (rg n) x = x := by
  cases x with
  | v x => exact congrArg Fld.v (tv_id h)
  | V xs => exact congrArg Fld.V (map_id_of fun x hx => tv_id (h.2 x hx))
  | W ps => exact congrArg Fld.W (map_id_of fun p hp => by show (tv _ p.1, tv _ p.2) = p; rw [tv_id (h.2 p hp).1, tv_id (h.2 p hp).2])
  | X ps => exact congrArg Fld.X (map_id_of fun p hp => by show (p.1, tv _ p.2) = p; rw [tv_id (h.2 p hp).2])
  | s2 z x => exact congrArg (Fld.s2 z) (tv_id h.2)
  | a k => show Fld.a ((rg n).idxOf (k : Int)) = .a k; rw [rg_idx h]
  | b k =>
    show Fld.b (if 0 ≤ k then (((rg n).idxOf k : Nat) : Int) else k) = .b k
    by_cases c : 0 ≤ k
    · obtain ⟨j, rfl⟩ := Int.eq_ofNat_of_zero_le c
      have : j < n := by have := h.2; omega
      rw [if_pos c, rg_idx this]
    · rw [if_neg c]
  | _ => rfl
theorem tfr_id {n : Nat} {f : Fr} (h : ∀ x ∈ f.fs, FldSm n x) : tfr (rg n) f = f := by
  show Fr.mk f.kd (f.fs.map _) = f
  rw [map_id_of fun x hx => tf_id (h x hx)]
theorem tf2_id {n : Nat} {x : Fl2} (h : Fl2Sm n x) : tf2 (rg n) x = x := by
  cases x with
  | one x => exact congrArg Fl2.one (tf_id h)
  | fr fl => exact congrArg Fl2.fr (map_id_of fun f hf => tfr_id (h.2 f hf).2)
theorem tob_id {n : Nat} {o : Ob} (h : ObSm n o) : tob (rg n) o = o := by
  show Ob.mk o.kd (o.fs.map _) = o
  rw [map_id_of fun x hx => tf2_id (h.2 x hx)]
theorem renP_id {n : Nat} {M : Pt} (h : PtSm n M) : renP M (rg n) = M := by
  have h1 : tfr (rg n) M.c = M.c := tfr_id h.c.2
  have h2 : M.frs.map (tfr (rg n)) = M.frs := map_id_of fun f hf => tfr_id (h.f f hf).2
  have h3 : ((rg n).map fun k => tob (rg n) (M.ob k)) = M.obs := by
    refine List.ext_getElem? fun i => ?_
    rw [List.getElem?_map]
    by_cases c : i < n
    · have ho : M.obs[i]? = some (M.obs[i]'(by rw [h.ol]; exact c)) := List.getElem?_eq_getElem _
      rw [rg_at c, ho]
      show some (tob (rg n) (M.ob (i : Int))) = _
      have : M.ob (i : Int) = M.obs[i]'(by rw [h.ol]; exact c) := by unfold Pt.ob; rw [Int.toNat_natCast, ho]; rfl
      rw [this, tob_id (h.o _ (List.getElem_mem _))]
    · rw [List.getElem?_eq_none (by unfold rg; simp; omega), List.getElem?_eq_none (by rw [h.ol]; omega)]
      rfl
  show Pt.mk _ _ _ _ _ _ _ _ = M
  rw [h1, h2, h3]
--SPLIT
theorem NumAt.of_kn {H : Hp} {na : Addr} {l : List Int} (hn : l.Nodup) (h : ∃ kvs : List (Key × V), H na = some (.dK kvs) ∧ kvs.length ≤ l.length ∧ ∀ (j : Nat) (k : Int), l[j]? = some k → valV kvs (.inl k) = some (.int ((j : Nat) : Int))) : NumAt H na l := by
  obtain ⟨kvs, e, _, p⟩ := h
  refine ⟨kvs, e, fun k hk => ?_⟩
  exact p _ k (idx_at hk)
def spRenumber (K : PySem.W.Frag) (C : Addr) : Sp := fun vs H Q _ => ∃ (ma fl hl : Addr) (M : Pt) (m : Nat), vs = [.ref ma] ∧ MacAt K C H ma fl hl M ∧ PtSm m M ∧ 17 ≤ m ∧ m ≤ 500 ∧
  ∀ mb fl' hl' t H', Full M m t → MacAt K C H' mb fl' hl' (renP M (M.st t)) → Same H H' → H mb = none → H fl' = none → H hl' = none → fl' ≠ hl' → Q (.ref mb) H'
theorem ok_renumber {C : Addr} {f : Addr} {fd : FuncData} (F : Fun K "renumber" "renumber" s_renumber f fd) (T : Txt K mg) (UC_Machine : UseC K mg "Machine" fM C) (U_Machine___init__ : UseK P w K mg base "Machine" C 1 P_Machine___init__ (spMInit C)) (U_CONTROLS : UseD P w K mg "CONTROLS" (txtKV controlsL)) (U_FIELDS : UseD P w K mg "FIELDS" (txtKV fieldsL)) (U_OBJECTS : UseD P w K mg "OBJECTS" (txtKV objectsL))
    (U_reached : Use P w K mg base CX0 "reached" 6 P_reached (spReached K C)) (U_renumbered : Use P w K mg base CX0 "_renumbered" 5 P_renumbered (spRenumd K)) : FnG P w K mg base CX0 7 f fd P_renumber (spRenumber K C) := by
  refine okG0 F sc_renumber (fun vs H Q E h => ?_) fun cdv A outer s H vs Q E hr hg h => ?_
  · obtain ⟨ma, fl, hl, M, m, rfl, _⟩ := h
    rfl
  · obtain ⟨ma, fl, hl, M, m, rfl, MA, sm, hm, hm2, k⟩ := h
    have hu : (A.deeper (envOfC "renumber" (defScope s_renumber) s.heap.objs.size f cdv)).units + 1 < cLine := Nat.lt_of_le_of_lt (by omega) hr.units
    obtain ⟨aD_FIELDS, gD_FIELDS, kDF⟩ := U_FIELDS.ex
    obtain ⟨aD_OBJECTS, gD_OBJECTS, kDO⟩ := U_OBJECTS.ex
    obtain ⟨aD_CONTROLS, gD_CONTROLS, kDC⟩ := U_CONTROLS.ex
    refine ⟨_, (pss_cons (ps_set (i := 1) sc_renumber.nd rfl (Or.inl rfl) (pe_use U_reached (hr.mono (by decide)) hg rfl (pa_cons (pv 0) pa_nil)))
  (pss_cons (ps_set (i := 2) sc_renumber.nd rfl (Or.inr rfl) (pe_dc (own := [("at", 3), ("k", 4)]) (g := (gTup K 2 (gCons (gName 3) (gCons (gName 4) gNil)))) rfl sc_renumber.nd (pi_enum (by rfl) T.b_enumerate (pa_cons (pv 1) pa_nil)) (blkOk_by (N := N_renumber) (sc := defScope s_renumber) (by decide +kernel)) (fun _ _ _ _ _ => (pg_tup (by rfl) (pgs_cons (pg_name (i := 3) sc_renumber.nd rfl (Or.inl rfl)) (pgs_cons (pg_name (i := 4) sc_renumber.nd rfl (Or.inl rfl)) pgs_nil)))) (fun _ _ _ _ _ => pts_nil) (fun _ _ _ _ _ => (pv 4)) (fun _ _ _ _ _ => (pv 3))))
  (pss_cons (ps_set (i := 5) sc_renumber.nd rfl (Or.inl rfl) (pe_use U_renumbered (hr.mono (by decide)) hg rfl (pa_cons (pe_dgetK (pe_glob (v := .ref aD_CONTROLS) (by rfl) gD_CONTROLS rfl) (pe_ix ix_tup (pe_fd UC_Machine (by decide +kernel) (pv 0)) pe_int (fun _ _ => rfl)) (fun _ _ => rfl)) (pa_cons (pe_fd UC_Machine (by decide +kernel) (pv 0)) (pa_cons (pv 2) pa_nil)))))
  (pss_cons (ps_setLc (i := 6) (own := [("frame", 7)]) (g := (gName 7)) rfl sc_renumber.nd rfl rfl (sw_true rfl rfl rfl (by decide +kernel)) (pi_list (pe_fd UC_Machine (by decide +kernel) (pv 0))) (blkOk_by (N := N_renumber) (sc := defScope s_renumber) (by decide +kernel)) (fun _ _ _ _ _ => (pg_name (i := 7) sc_renumber.nd rfl (Or.inl rfl))) (fun _ _ _ _ _ => pts_nil) (fun _ _ _ _ _ => (pe_use U_renumbered (hr.mono (by decide)) hg rfl (pa_cons (pe_dgetK (pe_glob (v := .ref aD_FIELDS) (by rfl) gD_FIELDS rfl) (pe_ix (ix_tup : IxR _ (rIxT K)) (pv 7) pe_int (fun _ _ => rfl)) (fun _ _ => rfl) : PE _ _ (tDGetK P w K _ _)) (pa_cons (pv 7) (pa_cons (pv 2) pa_nil))))))
  (pss_cons (ps_setLc (i := 8) (own := [("k", 4)]) (g := (gName 4)) rfl sc_renumber.nd rfl rfl (sw_true rfl rfl rfl (by decide +kernel)) (pi_list (pv 1)) (blkOk_by (N := N_renumber) (sc := defScope s_renumber) (by decide +kernel)) (fun _ _ _ _ _ => (pg_name (i := 4) sc_renumber.nd rfl (Or.inl rfl))) (fun _ _ _ _ _ => pts_nil) (fun _ _ _ _ _ => (pe_ix (ix_list : IxR _ (rIxL K)) (pe_fd UC_Machine (by decide +kernel) (pv 0)) (pv 4) (fun _ _ => rfl))))
  (pss_cons (ps_setLc (i := 9) (own := [("item", 10)]) (g := (gName 10)) rfl sc_renumber.nd rfl rfl (sw_true rfl rfl rfl (by decide +kernel)) (pi_list (pv 8)) (blkOk_by (N := N_renumber) (sc := defScope s_renumber) (by decide +kernel)) (fun _ _ _ _ _ => (pg_name (i := 10) sc_renumber.nd rfl (Or.inl rfl))) (fun _ _ _ _ _ => pts_nil) (fun _ _ _ _ _ => (pe_use U_renumbered (hr.mono (by decide)) hg rfl (pa_cons (pe_dgetK (pe_glob (v := .ref aD_OBJECTS) (by rfl) gD_OBJECTS rfl) (pe_ix (ix_tup : IxR _ (rIxT K)) (pv 10) pe_int (fun _ _ => rfl)) (fun _ _ => rfl) : PE _ _ (tDGetK P w K _ _)) (pa_cons (pv 10) (pa_cons (pv 2) pa_nil))))))
  (pss_one (ps_ret (pe_mk U_Machine___init__ (hr.mono (by decide)) rfl (pa_cons (pv 5) (pa_cons (pv 6) (pa_cons (pv 9) (pa_cons (pe_fd UC_Machine (by decide +kernel) (pv 0)) (pa_cons (pe_fd UC_Machine (by decide +kernel) (pv 0)) (pa_cons (pe_fd UC_Machine (by decide +kernel) (pv 0)) (pa_cons (pe_fd UC_Machine (by decide +kernel) (pv 0)) (pa_cons (pe_fd UC_Machine (by decide +kernel) (pv 0)) pa_nil))))))))))))))))), ?_⟩
    obtain ⟨vc, ⟨dx, em⟩, dvc⟩ := MA.ex
    obtain ⟨ys, ey, ay⟩ := id MA.f
    obtain ⟨xs, ex, ax⟩ := id MA.h
    refine ⟨_, rfl, ma, fl, hl, M, m, rfl, MA, sm, hm, hm2, fun oa H1 t hoa S1 hend e1 => ?_⟩
    have full : Full M m t := ⟨sm, hm, hend⟩
    have hlm := sm.stlen hm t
    have hnd : (M.st t).Nodup := St_nodup t
    have hfr := full.e.closed.1
    -- numbers
    refine ⟨_, rfl, oa, _, rfl, SqL.of e1, fun na hna => ?_⟩
    refine dc_it walk_enum (fun i H' => (∃ kvs : List (Key × V), H' na = some (.dK kvs) ∧ kvs.length ≤ i ∧ ∀ (j : Nat) (k : Int), j < i → (M.st t)[j]? = some k → valV kvs (.inl k) = some (.int ((j : Nat) : Int))) ∧ Same H1 H') ⟨⟨[], upd_same, Nat.le_refl _, fun j k hj => by omega⟩, Same.new hna⟩ (fun i H' _ h => SqL.of (h.2 _ _ e1)) ?_ ?_
    · rintro i y H5 H6 hi ⟨⟨kvs, ek, hkl, hk⟩, S5⟩ ⟨T, a1, a2, rfl, hT, rfl, b1, b2⟩
      have b2 : ((M.st t).map V.int)[i]? = some a2 := b2
      rw [List.getElem?_map] at b2
      obtain ⟨z, hz, rfl⟩ := Option.map_eq_some_iff.mp b2
      cases b1
      rw [List.length_map] at hi
      have S6 := Same.new (o := .tup [.int (i : Nat), .int z]) hT
      refine ⟨T, _, rfl, SqT.of upd_same, rfl, _, _, rfl, _, _, rfl, rfl, rfl, tYes_of ⟨_, rfl, _, rfl, kvs, .inl z, rfl, S6 _ _ ek, Nat.lt_of_le_of_lt (show _ ≤ 1000 by omega) (by decide), ⟨_, upd_same, ?_, fun j k' hj hk' => ?_⟩, fun b o hb => by rw [upd_ne (ne_of_none hb hna)]; exact (S5.trans S6) _ _ hb⟩⟩
      · have := length_putK kvs (.inl z) (.int (i : Nat))
        omega
      · rw [valV_put]
        by_cases c : j = i
        · subst c
          rw [hz] at hk'
          obtain rfl := Option.some.inj hk'
          rw [if_pos rfl]
        · have hne : (Sum.inl k' : Key) ≠ .inl z := fun e => by
            obtain rfl := Sum.inl.inj e
            exact c ((idx_of hnd hk').symm.trans (idx_of hnd hz))
          rw [if_neg hne]
          exact hk j k' (by omega) hk'
    rintro H5 ⟨⟨kvs, ek, hkl, hk⟩, S15⟩
    rw [List.length_map] at hkl hk
    have NA : NumAt H5 na (M.st t) := NumAt.of_kn hnd ⟨kvs, ek, hkl, fun j k' h' => hk j k' (List.getElem?_eq_some_iff.mp h').1 h'⟩
    have S5 := S1.trans S15
    have e5 := S15 _ _ e1
    clear ek hkl hk kvs S1 S15 e1
    have onesT : ∀ gs : List Fld, ((gs.map Fl2.one).map (tf2 (M.st t))).map fl2D = (gs.map (tf (M.st t))).map fldD := fun gs => by rw [List.map_map, List.map_map, List.map_map]; rfl
    -- control
    obtain ⟨qc, wc, evc, hqc, _⟩ := (show Dt K H5 vc (.tuple (.str M.c.kd :: M.c.fs.map fldD)) from dvc.mono S5).head
    refine ⟨_, rfl, ma, dx, _, _, rfl, S5 _ _ em, mf_control, qc, _, _, _, evc, rfl, hqc, at0, aD_CONTROLS, _, .inr M.c.kd, _, rfl, kDC, rfl, tab_val controls_at sm.c.1, _, rfl, ma, dx, _, _, rfl, S5 _ _ em, mf_control, _, rfl, vc, na, M.st t, M.c.kd, M.c.fs.map .one, _, rfl, ones_l _, coTab_len sm.c.1, NA, by rw [ones_D]; exact dvc.mono S5, fun x hx => ?_, fun rc H6 S6 drc => ?_⟩
    · obtain ⟨y, hy, rfl⟩ := List.mem_map.mp hx
      exact ⟨(sm.c.2 y hy).n, fun z hz => hfr z (List.mem_append_left _ (List.mem_flatMap.mpr ⟨y, hy, hz⟩))⟩
    rw [onesT] at drc
    have S56 := S5.trans S6
    -- frames
    refine ⟨_, rfl, ma, dx, _, _, rfl, S56 _ _ em, mf_frames, fl, rfl, ⟨_, SqL.of (S56 _ _ ey)⟩, fun D hD => ?_⟩
    have hyl : ys.length = M.frs.length := by rw [ay.length, List.length_map]
    refine lc_it (walk_list (xs := ys)) (fun j H' => LAcc K H6 D ((M.frs.take j).map fun f => frD (tfr (M.st t) f)) H') (LAcc.start hD) (fun j H' _ h => let ⟨_, _, _, S'⟩ := h; SqL.of (S' _ _ (S56 _ _ ey))) ?_ ?_
    · rintro j y H7 H8 hj Z ⟨rfl, hy⟩
      obtain ⟨_, _, _, S7⟩ := id Z
      obtain ⟨d, hd, dy⟩ := ay.getV hy
      rw [List.getElem?_map] at hd
      obtain ⟨g, hgm, rfl⟩ := Option.map_eq_some_iff.mp hd
      have hg1 := List.mem_of_getElem? hgm
      have hgs := sm.f g hg1
      have dy5 := dy.mono (S56.trans S7)
      obtain ⟨q2, w2, rfl, hq2, _⟩ := (show Dt K _ y (.tuple (.str g.kd :: g.fs.map fldD)) from dy5).head
      refine ⟨rfl, tYes_of ⟨_, rfl, q2, _, _, _, rfl, rfl, hq2, at0, aD_FIELDS, _, .inr g.kd, _, rfl, kDF, rfl, tab_val fields_at hgs.1, _, rfl, _, rfl, _, na, M.st t, g.kd, g.fs.map .one, _, rfl, ones_l _, frTab_len10 hgs.1, NA.same (S6.trans S7), by rw [ones_D]; exact dy5, fun x hx => ?_, fun r H9 S9 dr => ?_⟩⟩
      · obtain ⟨y, hy, rfl⟩ := List.mem_map.mp hx
        exact ⟨(hgs.2 y hy).n, fun z hz => hfr z (List.mem_append_right _ (List.mem_flatMap.mpr ⟨g, hg1, List.mem_flatMap.mpr ⟨y, hy, hz⟩⟩))⟩
      · rw [onesT] at dr
        obtain ⟨acc, e7, hl7, Z7⟩ := Z.put hD S9 (d := frD (tfr (M.st t) g)) dr (by rw [List.length_map, List.length_take]; have := sm.fl; omega)
        refine ⟨acc, e7, hl7, ?_⟩
        rw [List.take_succ, hgm, List.map_append]
        exact Z7
    rintro H7 ⟨fa, ef, af, S7⟩
    rw [hyl, List.take_length] at af
    have S57 := S56.trans S7
    have hDH : H D = none := same_none S56 hD
    -- items
    have e7 := (S6.trans S7) _ _ e5
    refine ⟨_, rfl, oa, rfl, ⟨_, SqL.of e7⟩, fun D2 hD2 => ?_⟩
    refine lc_it (walk_list (xs := (M.st t).map V.int)) (fun j H' => LAcc K H7 D2 (((M.st t).take j).map fun k => obD (M.ob k)) H') (LAcc.start hD2) (fun j H' _ h => let ⟨_, _, _, S'⟩ := h; SqL.of (S' _ _ e7)) ?_ ?_
    · rintro j y H8 H9 hj Z ⟨rfl, hy⟩
      obtain ⟨_, _, _, S8⟩ := id Z
      rw [List.getElem?_map] at hy
      obtain ⟨z, hz, rfl⟩ := Option.map_eq_some_iff.mp hy
      obtain ⟨i, rfl, ho, hos, hR, hsub⟩ := full.at (List.mem_of_getElem? hz)
      obtain ⟨v, hv, dv⟩ := ax.get (i := i) (d := obD (M.ob (i : Int))) (by rw [List.getElem?_map, ho]; rfl)
      have S58 := S57.trans S8
      refine ⟨rfl, tYes_of ⟨_, rfl, ma, dx, _, _, rfl, S58 _ _ em, mf_heap, _, rfl, hl, _, _, _, rfl, rfl, SqL.of (S58 _ _ ex), atI_nat hv, ?_⟩⟩
      obtain ⟨acc, e9, hl9, Z9⟩ := Z.put hD2 (Same.refl _) (dv.mono S58) (by rw [List.length_map, List.length_take]; omega)
      refine ⟨acc, e9, hl9, ?_⟩
      rw [List.take_succ, hz, List.map_append]
      exact Z9
    rintro H8 ⟨ia, ei, ai, S8⟩
    rw [List.length_map, List.take_length] at ai
    have S58 := S57.trans S8
    -- heap
    refine ⟨_, rfl, D2, rfl, ⟨_, SqL.of ei⟩, fun D3 hD3 => ?_⟩
    have hil : ia.length = (M.st t).length := by rw [ai.length, List.length_map]
    refine lc_it (walk_list (xs := ia)) (fun j H' => LAcc K H8 D3 (((M.st t).take j).map fun k => obD (tob (M.st t) (M.ob k))) H') (LAcc.start hD3) (fun j H' _ h => let ⟨_, _, _, S'⟩ := h; SqL.of (S' _ _ ei)) ?_ ?_
    · rintro j y H9 H10 hj Z ⟨rfl, hy⟩
      obtain ⟨_, _, _, S9⟩ := id Z
      obtain ⟨d, hd, dy⟩ := ai.getV hy
      rw [List.getElem?_map] at hd
      obtain ⟨z, hz, rfl⟩ := Option.map_eq_some_iff.mp hd
      obtain ⟨i, rfl, ho, hos, hR, hsub⟩ := full.at (List.mem_of_getElem? hz)
      have dy5 := dy.mono S9
      obtain ⟨q2, w2, rfl, hq2, _⟩ := (show Dt K _ y (.tuple (.str (M.ob (i : Int)).kd :: (M.ob (i : Int)).fs.map fl2D)) from dy5).head
      refine ⟨rfl, tYes_of ⟨_, rfl, q2, _, _, _, rfl, rfl, hq2, at0, aD_OBJECTS, _, .inr (M.ob (i : Int)).kd, _, rfl, kDO, rfl, tab_val objects_at hos.1, _, rfl, _, rfl, _, na, M.st t, (M.ob (i : Int)).kd, (M.ob (i : Int)).fs, _, rfl, rfl, obTab_len10 hos.1, NA.same (((S6.trans S7).trans S8).trans S9), dy5, fun x hx => ⟨(hos.2 x hx).n, fun z hz => hsub z (List.mem_flatMap.mpr ⟨x, hx, hz⟩)⟩, fun r H11 S11 dr => ?_⟩⟩
      obtain ⟨acc, e9, hl9, Z9⟩ := Z.put hD3 S11 (d := obD (tob (M.st t) (M.ob (i : Int)))) dr (by rw [List.length_map, List.length_take]; omega)
      refine ⟨acc, e9, hl9, ?_⟩
      rw [List.take_succ, hz, List.map_append]
      exact Z9
    rintro H9 ⟨ha, eh, ah, S9⟩
    rw [hil, List.take_length] at ah
    have S59 := S58.trans S9
    have em9 := S59 _ _ em
    have hD3H : H D3 = none := same_none S58 hD3
    have hDD : D ≠ D3 := ne_of_none (S8 _ _ ef) hD3
    refine ⟨_, rfl, _, rfl, _, rfl, _, rfl, ma, dx, _, _, rfl, em9, mf_out, _, rfl, ma, dx, _, _, rfl, em9, mf_active, _, rfl, ma, dx, _, _, rfl, em9, mf_here, _, rfl, ma, dx, _, _, rfl, em9, mf_line, _, rfl, ma, dx, _, _, rfl, em9, mf_steps, ?_⟩
    intro mb dx2 nm ndx ne
    have S10 : Same H9 (upd (upd H9 dx2 (.own mb)) mb (.ins C dx2 [])) := fun b o e => by rw [upd_ne (ne_of_none e nm), upd_ne (ne_of_none e ndx)]; exact e
    refine ⟨mb, dx2, _, _, _, _, _, _, _, _, rfl, upd_same, fun H11 hmb keep => ⟨rfl, ?_⟩⟩
    have S11 : Same H9 H11 := fun b o e => keep _ _ (S10 _ _ e) (ne_of_none e nm)
    refine k mb D D3 t H11 full ⟨⟨rc, ⟨dx2, hmb⟩, drc.mono (((S7.trans S8).trans S9).trans S11)⟩, ⟨fa, S11 _ _ (S9 _ _ (S8 _ _ ef)), ?_⟩, ⟨ha, S11 _ _ eh, ?_⟩⟩ (S59.trans S11) (same_none S59 nm) hDH hD3H hDD
    · show DtAll K H11 fa ((M.frs.map (tfr (M.st t))).map frD)
      rw [List.map_map]
      exact af.mono ((S8.trans S9).trans S11)
    · show DtAll K H11 ha (((M.st t).map fun k => tob (M.st t) (M.ob k)).map obD)
      rw [List.map_map]
      exact ah.mono S11
--SPLIT
end

abbrev s_weight : Stmt := top 16
abbrev N_weight : List Str := ["letters", "item", "weight", "letter", "field", "value"]
abbrev P_weight : List Str := ["letters", "item"]
theorem sc_weight : FnScope N_weight P_weight (defScope s_weight) := ⟨rfl, rfl, rfl, by decide +kernel, rfl, by decide +kernel, by decide +kernel⟩
abbrev s_size_of_frames : Stmt := top 17
abbrev N_size_of_frames : List Str := ["frames", "frame"]
abbrev P_size_of_frames : List Str := ["frames"]
theorem sc_size_of_frames : FnScope N_size_of_frames P_size_of_frames (defScope s_size_of_frames) := ⟨rfl, rfl, rfl, by decide +kernel, rfl, by decide +kernel, by decide +kernel⟩
abbrev s_law_weight : Stmt := top 49
abbrev N_law_weight : List Str := ["value"]
abbrev P_law_weight : List Str := ["value"]
theorem sc_law_weight : FnScope N_law_weight P_law_weight (defScope s_law_weight) := ⟨rfl, rfl, rfl, by decide +kernel, rfl, by decide +kernel, by decide +kernel⟩
abbrev s_law_weights : Stmt := top 50
abbrev N_law_weights : List Str := ["table", "item", "letters", "total", "k", "frame", "value"]
abbrev P_law_weights : List Str := ["table", "item"]
theorem sc_law_weights : FnScope N_law_weights P_law_weights (defScope s_law_weights) := ⟨rfl, rfl, rfl, by decide +kernel, rfl, by decide +kernel, by decide +kernel⟩
section
variable {P : Program} {w : World} {K : PySem.W.Frag} {mg : Str → Option Value} {base : Heap}
/-! how much a field holds -/
def wV : Val → Nat
  | .text js => 1 + js.length
  | _ => 1
def wF (x : Fld) : Nat := ((fldVs x).map wV).sum
def wFr (f : Fr) : Nat := (f.fs.map wF).sum
def w2 : Fl2 → Nat
  | .one x => wF x
  | .fr l => (l.map fun f => 1 + wFr f).sum
def wOb (o : Ob) : Nat := (o.fs.map w2).sum
def fl2Vs : Fl2 → List Val
  | .one x => fldVs x
  | .fr _ => []
theorem sum_take {α : Type} {f : α → Nat} {xs : List α} {i : Nat} {x : α} (h : xs[i]? = some x) : ((xs.take (i + 1)).map f).sum = ((xs.take i).map f).sum + f x := by
  rw [List.take_succ, h, List.map_append, List.sum_append]
  simp
theorem wV_le {m : Nat} {x : Val} (h : ValSm m x) : wV x ≤ 13 := by
  cases x with
  | text js => have := h.len; show 1 + js.length ≤ 13; omega
  | _ => exact (by decide : (1 : Nat) ≤ 13)
theorem FldSm.vs {m : Nat} {x : Fld} (h : FldSm m x) : ∀ y ∈ fldVs x, ValSm m y := by
  intro y hy
  cases x with
  | v x => rw [List.mem_singleton.mp (show y ∈ [x] from hy)]; exact h
  | V xs => exact h.2 y hy
  | W ps =>
    obtain ⟨p, hp, hy⟩ := List.mem_flatMap.mp (show y ∈ ps.flatMap fun p => [p.1, p.2] from hy)
    simp only [List.mem_cons, List.not_mem_nil, or_false] at hy
    rcases hy with rfl | rfl
    · exact (h.2 p hp).1
    · exact (h.2 p hp).2
  | X ps =>
    obtain ⟨p, hp, rfl⟩ := List.mem_map.mp (show y ∈ ps.map (·.2) from hy)
    exact (h.2 p hp).2
  | s2 z x => rw [List.mem_singleton.mp (show y ∈ [x] from hy)]; exact h.2
  | _ => cases hy
def spValues2 (K : PySem.W.Frag) : Sp := fun vs H Q _ => ∃ (v : V) (x : Fl2) (c : Nat), vs = [.str (S [c]), v] ∧ ltr2 x = c ∧ Dt K H v (fl2D x) ∧ (fl2Vs x).length ≤ 100 ∧ ∀ v' H', Same H H' → Dt K H' v' (.tuple ((fl2Vs x).map valD)) → Q v' H'
def spValuesE (K : PySem.W.Frag) : Sp := fun vs H Q _ => ∃ (v : V) (c : Nat), vs = [.str (S [c]), v] ∧ (c = 97 ∨ c = 98 ∨ c = 70) ∧ ∀ v' H', Same H H' → Dt K H' v' (.tuple []) → Q v' H'
theorem ok_valuesE {f : Addr} {fd : FuncData} (F : Fun K "_values" "_values" s_values f fd) (T : Txt K mg) : FnG P w K mg base CX0 1 f fd P_values (spValuesE K) := by
  refine okG0 F sc_values (fun vs H Q E h => ?_) fun cdv A outer s H vs Q E hr hg h => ?_
  · obtain ⟨v, c, rfl, _⟩ := h
    rfl
  · obtain ⟨v, c, rfl, hc, k⟩ := h
    refine ⟨_, (pss_cons (ps_if (pt_cmpR op_eq (pv 0) pe_str (nomark _))
   (pss_one (ps_ret (pe_tup (pa_cons (pv 1) pa_nil))))
   pss_nil)
  (pss_cons (ps_if (pt_cmpR op_eq (pv 0) pe_str (nomark _))
   (pss_one (ps_ret (pv 1)))
   pss_nil)
  (pss_cons (ps_if (pt_cmpR op_eq (pv 0) pe_str (nomark _))
   (pss_one (ps_ret (pe_callTy call_tuple_of (by rfl) T.b_tuple (by decide +kernel) (pa_cons (pe_lc2 (own := [("pair", 2), ("value", 3)]) (vs1 := [3]) (g := (gName 2)) (g1 := (gName 3)) rfl sc_values.nd (pi_tup (pv 1)) (blkOk_by (N := N_values) (sc := defScope s_values) (by decide +kernel)) (by decide) (fun _ _ _ _ _ => (pg_name (i := 2) sc_values.nd rfl (Or.inl rfl))) (fun _ _ _ _ _ => pts_nil) (fun _ _ _ _ _ => (pi_tup (pv 2) : PI _ _ _ (iTup K (tVar 2)))) (fun _ _ _ _ _ => (pg_name (i := 3) sc_values.nd rfl (Or.inl rfl))) (fun _ _ _ _ _ => pts_nil) (fun _ _ _ _ _ => (pv 3))) pa_nil))))
   pss_nil)
  (pss_cons (ps_if (pt_cmpR op_eq (pv 0) pe_str (nomark _))
   (pss_one (ps_ret (pe_callTy call_tuple_of (by rfl) T.b_tuple (by decide +kernel) (pa_cons (pe_lc (own := [("_", 4), ("value", 3)]) (g := (gTup K 2 (gCons (gName 4) (gCons (gName 3) gNil)))) rfl sc_values.nd (pi_tup (pv 1)) (blkOk_by (N := N_values) (sc := defScope s_values) (by decide +kernel)) (fun _ _ _ _ _ => (pg_tup (by rfl) (pgs_cons (pg_name (i := 4) sc_values.nd rfl (Or.inl rfl)) (pgs_cons (pg_name (i := 3) sc_values.nd rfl (Or.inl rfl)) pgs_nil)))) (fun _ _ _ _ _ => pts_nil) (fun _ _ _ _ _ => (pv 3))) pa_nil))))
   pss_nil)
  (pss_cons (ps_if (pt_cmpR op_eq (pv 0) pe_str (nomark _))
   (pss_one (ps_ret (pe_slice sl_tupA (pv 1) (po_some pe_int) po_none)))
   pss_nil)
  (pss_one (ps_ret (pe_tup pa_nil)))))))), ?_⟩
    rcases hc with rfl | rfl | rfl
    · iterate 5 refine ⟨_, rfl, rfl, _, rfl, iteFb (by decide +kernel) ?_⟩
      exact ⟨sz_0, fun u hu => k _ _ (Same.new hu) (Dt.made hu .nil)⟩
    · iterate 5 refine ⟨_, rfl, rfl, _, rfl, iteFb (by decide +kernel) ?_⟩
      exact ⟨sz_0, fun u hu => k _ _ (Same.new hu) (Dt.made hu .nil)⟩
    · iterate 5 refine ⟨_, rfl, rfl, _, rfl, iteFb (by decide +kernel) ?_⟩
      exact ⟨sz_0, fun u hu => k _ _ (Same.new hu) (Dt.made hu .nil)⟩
theorem ok_values2 {f : Addr} {fd : FuncData} (F : Fun K "_values" "_values" s_values f fd) (T : Txt K mg) : FnG P w K mg base CX0 1 f fd P_values (spValues2 K) :=
  ((ok_values F T).or (ok_valuesE F T)).imp fun vs H Q E h => by
    obtain ⟨v, x, c, rfl, hc, dv, hl, k⟩ := h
    cases x with
    | fr l => obtain rfl : 70 = c := hc; exact .inr ⟨v, _, rfl, .inr (.inr rfl), k⟩
    | one y =>
      by_cases h1 : c = 97
      · subst h1
        cases y with
        | a n => exact .inr ⟨v, _, rfl, .inl rfl, k⟩
        | _ => cases hc
      · by_cases h2 : c = 98
        · subst h2
          cases y with
          | b n => exact .inr ⟨v, _, rfl, .inr (.inl rfl), k⟩
          | _ => cases hc
        · exact .inl ⟨v, y, c, rfl, hc, dv, h1, h2, hl, k⟩
def spLValues2 (K : PySem.W.Frag) : Sp := fun vs H Q _ => ∃ (v : V) (x : Fld) (c : Nat), vs = [.str (S [c]), v] ∧ ltr x = c ∧ Dt K H v (fldD x) ∧ (fldVs x).length ≤ 100 ∧ ∀ l H', H l = none → Same H H' → ListAt K H' l ((fldVs x).map valD) → Q (.ref l) H'
def spLValuesE (K : PySem.W.Frag) : Sp := fun vs H Q _ => ∃ (v : V) (c : Nat), vs = [.str (S [c]), v] ∧ (c = 97 ∨ c = 98) ∧ ∀ l H', H l = none → Same H H' → ListAt K H' l [] → Q (.ref l) H'
theorem ok_lvaluesE {f : Addr} {fd : FuncData} (F : Fun K "_law_values" "_law_values" s_law_values f fd) (T : Txt K mg) : FnG P w K mg base CX0 1 f fd P_law_values (spLValuesE K) := by
  refine okG0 F sc_law_values (fun vs H Q E h => ?_) fun cdv A outer s H vs Q E hr hg h => ?_
  · obtain ⟨v, c, rfl, _⟩ := h
    rfl
  · obtain ⟨v, c, rfl, hc, k⟩ := h
    refine ⟨_, (pss_cons (ps_if (pt_cmpR op_eq (pv 0) pe_str (nomark _))
   (pss_one (ps_ret (pe_lst (pa_cons (pv 1) pa_nil))))
   pss_nil)
  (pss_cons (ps_if (pt_cmpR op_eq (pv 0) pe_str (nomark _))
   (pss_one (ps_ret (pe_callTy call_list_of (by rfl) T.b_list (by decide +kernel) (pa_cons (pv 1) pa_nil))))
   pss_nil)
  (pss_cons (ps_set (i := 2) sc_law_values.nd rfl (Or.inl rfl) (pe_lst pa_nil))
  (pss_cons (ps_if (pt_cmpR op_eq (pv 0) pe_str (nomark _))
   (pss_one (ps_for PassesOwn.never rfl (pi_tup (pv 1)) (pg_name (i := 3) sc_law_values.nd rfl (Or.inl rfl))
   (pss_cons (ps_expr (pe_bm PySem.F.plainAttrs_list PySem.F.slot_list_append PySem.F.type_list_append mt_append (pv 2) (pa_cons (pe_ix ix_tup (pv 3) pe_int (fun _ _ => rfl)) pa_nil)))
  (pss_one (ps_expr (pe_bm PySem.F.plainAttrs_list PySem.F.slot_list_append PySem.F.type_list_append mt_append (pv 2) (pa_cons (pe_ix (ix_tup : IxR _ (rIxT K)) (pv 3) pe_int (fun _ _ => rfl)) pa_nil)))))))
   pss_nil)
  (pss_cons (ps_if (pt_cmpR op_eq (pv 0) pe_str (nomark _))
   (pss_one (ps_setLc (i := 2) (own := [("pair", 3)]) (g := (gName 3)) rfl sc_law_values.nd rfl rfl (sw_true rfl rfl rfl (by decide +kernel)) (pi_tup (pv 1)) (blkOk_by (N := N_law_values) (sc := defScope s_law_values) (by decide +kernel)) (fun _ _ _ _ _ => (pg_name (i := 3) sc_law_values.nd rfl (Or.inl rfl))) (fun _ _ _ _ _ => pts_nil) (fun _ _ _ _ _ => (pe_ix (ix_tup : IxR _ (rIxT K)) (pv 3) pe_int (fun _ _ => rfl)))))
   pss_nil)
  (pss_cons (ps_if (PW.pt (pw_and (pt_cmpR op_eq (pv 0) pe_str (nomark _)) (pw_and1 (pt_cmpR op_eq (pe_callB call_len (by rfl) T.b_len PySem.boot_len (pa_cons (pv 1) pa_nil)) pe_int (nomark _)))))
   (pss_one (ps_expr (pe_bm PySem.F.plainAttrs_list PySem.F.slot_list_append PySem.F.type_list_append mt_append (pv 2) (pa_cons (pe_ix ix_tup (pv 1) pe_int (fun _ _ => rfl)) pa_nil))))
   pss_nil)
  (pss_one (ps_ret (pv 2))))))))), ?_⟩
    rcases hc with rfl | rfl
    · iterate 2 refine ⟨_, rfl, rfl, _, rfl, iteFb (by decide +kernel) ?_⟩
      refine ⟨sz_0, fun l hl => ?_⟩
      iterate 2 refine ⟨_, rfl, rfl, _, rfl, iteFb (by decide +kernel) ?_⟩
      refine ⟨_, rfl, rfl, _, rfl, iteFb (by decide +kernel) ?_⟩
      exact ⟨_, rfl, k l _ hl (Same.new hl) (listAt_made hl .nil)⟩
    · iterate 2 refine ⟨_, rfl, rfl, _, rfl, iteFb (by decide +kernel) ?_⟩
      refine ⟨sz_0, fun l hl => ?_⟩
      iterate 2 refine ⟨_, rfl, rfl, _, rfl, iteFb (by decide +kernel) ?_⟩
      refine ⟨_, rfl, rfl, _, rfl, iteFb (by decide +kernel) ?_⟩
      exact ⟨_, rfl, k l _ hl (Same.new hl) (listAt_made hl .nil)⟩
theorem ok_lvalues2 {f : Addr} {fd : FuncData} (F : Fun K "_law_values" "_law_values" s_law_values f fd) (T : Txt K mg) : FnG P w K mg base CX0 1 f fd P_law_values (spLValues2 K) :=
  ((ok_lvalues F T).or (ok_lvaluesE F T)).imp fun vs H Q E h => by
    obtain ⟨v, y, c, rfl, hc, dv, hl, k⟩ := h
    by_cases h1 : c = 97
    · subst h1
      cases y with
      | a n => exact .inr ⟨v, _, rfl, .inl rfl, k⟩
      | _ => cases hc
    · by_cases h2 : c = 98
      · subst h2
        cases y with
        | b n => exact .inr ⟨v, _, rfl, .inr rfl, k⟩
        | _ => cases hc
      · exact .inl ⟨v, y, c, rfl, hc, dv, h1, h2, hl, k⟩
def spWeight0 (K : PySem.W.Frag) : Sp := fun vs H Q _ => ∃ (v : V) (kd : Str) (fs : List Fld) (ls : List Nat) (m : Nat), vs = [.str (S ls), v] ∧ fs.map ltr = ls ∧ ls.length ≤ 10 ∧ Dt K H v (.tuple (.str kd :: fs.map fldD)) ∧ (∀ x ∈ fs, FldSm m x) ∧ ∀ H', Same H H' → Q (.int (((fs.map wF).sum : Nat) : Int)) H'
theorem ok_weight0 {f : Addr} {fd : FuncData} (F : Fun K "_weight" "_weight" s_weight f fd) (T : Txt K mg) (U_values : Use P w K mg base CX0 "_values" 1 P_values (spValues2 K)) : FnG P w K mg base CX0 2 f fd P_weight (spWeight0 K) := by
  refine okG0 F sc_weight (fun vs H Q E h => ?_) fun cdv A outer s H vs Q E hr hg h => ?_
  · obtain ⟨v, kd, fs, ls, m, rfl, _⟩ := h
    rfl
  · obtain ⟨v, kd, fs, ls, m, rfl, hls, hll, dv, hN, k⟩ := h
    refine ⟨_, (pss_cons (ps_set (i := 2) sc_weight.nd rfl (Or.inl rfl) pe_int)
  (pss_cons (ps_for PassesOwn.never rfl (pi_zipST (by rfl) T.b_zip (pa_cons (pv 0) (pa_cons (pe_slice sl_tupA (pv 1) (po_some pe_int) po_none) pa_nil))) (pg_tup (by rfl) (pgs_cons (pg_name (i := 3) sc_weight.nd rfl (Or.inl rfl)) (pgs_cons (pg_name (i := 4) sc_weight.nd rfl (Or.inl rfl)) pgs_nil)))
   (C8.pss_cut (ps_if (pt_cmpR op_eq (pv 3) pe_str (nomark _))
   pss_never
   pss_nil)
  (pss_one (ps_for PassesOwn.never rfl (pi_tup (pe_use U_values (hr.mono (by decide)) hg rfl (pa_cons (pv 3) (pa_cons (pv 4) pa_nil)))) (pg_name (i := 5) sc_weight.nd rfl (Or.inl rfl))
   (pss_cons (ps_aug (i := 2) sc_weight.nd rfl (Or.inl rfl) pe_int ip_add)
  (pss_one (ps_if (pt_cmpR op_eq (pe_ix ix_tup (pv 5) pe_int (fun _ _ => rfl)) pe_str (nomark _))
   (pss_one (ps_aug (i := 2) sc_weight.nd rfl (Or.inl rfl) (pe_callB call_len (by rfl) T.b_len PySem.boot_len (pa_cons (pe_ix ix_tup (pv 5) pe_int (fun _ _ => rfl)) pa_nil)) ip_add))
   pss_nil)))))))
  (pss_one (ps_ret (pv 2))))), ?_⟩
    obtain ⟨q0, ws, rfl, hq0, ha⟩ := dv.head
    have hal := ha.length
    rw [List.length_map] at hal
    have hfsl : fs.length = ls.length := by rw [← hls, List.length_map]
    refine ⟨_, rfl, _, rfl, _, rfl, ?_⟩
    refine ⟨q0, _, rfl, hq0, fun e => absurd e.1 (tail_no _ _), fun _ q hq => ?_⟩
    rw [cut_one]
    refine ⟨S ls, q, ws, rfl, SqT.of upd_same, ?_⟩
    refine for_it (walk_zipST (z := ls) (b := q) (ys := ws) (by omega)) (fun i σ H5 => ∃ (x3 x4 x5 : Option V), σ = [some (.str (S ls)), some (.ref q0), some (.int ((((fs.take i).map wF).sum : Nat) : Int)), x3, x4, x5] ∧ Same H H5 ∧ SqT K H5 q ws) ⟨none, none, none, rfl, Same.new hq, SqT.of upd_same⟩ (fun _ _ _ _ ⟨_, _, _, _, _, h⟩ => h) ?_ ?_
    · rintro i y σ H5 H6 hi ⟨x3, x4, x5, rfl, S5, q5⟩ ⟨T, a1, a2, rfl, hT, rfl, e1, e2⟩
      have hif : i < fs.length := by omega
      have hx : fs[i]? = some fs[i] := List.getElem?_eq_getElem hif
      have hNx := hN _ (List.getElem_mem hif)
      generalize fs[i] = x at hx hNx
      have hlc : ls[i]? = some (ltr x) := by rw [← hls, List.getElem?_map, hx]; rfl
      obtain rfl : V.str (S [ltr x]) = a1 := by
        have e1 : (ls[i]?).map (fun c => V.str (S [c])) = some a1 := e1
        rw [hlc] at e1
        exact Option.some.inj e1
      obtain ⟨d, hd, dx⟩ := ha.getV (show ws[i]? = some a2 from e2)
      rw [List.getElem?_map, hx] at hd
      cases hd
      have S6 := Same.new (o := .tup [.str (S [ltr x]), a2]) hT
      have S56 := S5.trans S6
      have dx6 := dx.mono S56
      have q6 := Same.tupl S6 q5
      refine ⟨T, _, rfl, SqT.of upd_same, rfl, _, _, rfl, _, _, rfl, rfl, ?_⟩
      rw [sum_take hx]
      generalize ((fs.take i).map wF).sum = n0
      refine ⟨fun σ H' => σ = [some (.str (S ls)), some (.ref q0), some (.int ((n0 + 0 : Nat) : Int)), some (.str (S [ltr x])), some a2, x5] ∧ Same H H' ∧ SqT K H' q ws ∧ Dt K H' a2 (fldD x), ?_, ?_⟩
      · refine ⟨_, rfl, rfl, _, rfl, iteFb (noF _ (ltr_in x)) ⟨by rw [Nat.add_zero]; rfl, S56, q6, dx6⟩⟩
      rintro _ H7 ⟨rfl, S7, q7, dx7⟩
      refine ⟨_, rfl, _, rfl, a2, .one x, ltr x, rfl, rfl, dx7, Nat.le_trans (FldSm.n hNx) (by decide), fun v' H8 S8 d8 => ?_⟩
      obtain ⟨q8, xs, rfl, hq8, ha8⟩ := d8.tuple_inv
      have hxl := ha8.length
      rw [List.length_map] at hxl
      have hxl : xs.length = (fldVs x).length := hxl
      refine ⟨q8, rfl, ⟨_, hq8⟩, ?_⟩
      refine for_tup (xs := xs) (fun j σ H' => ∃ (x5 : Option V), σ = [some (.str (S ls)), some (.ref q0), some (.int ((n0 + 0 + (((fldVs x).take j).map wV).sum : Nat) : Int)), some (.str (S [ltr x])), some a2, x5] ∧ Same H8 H') ⟨x5, by simp, Same.refl _⟩ ?_ ?_ ?_
      · rintro j σ H' hj ⟨x5, rfl, S'⟩
        exact Same.tupl S' hq8
      · rintro j y σ H9 hy ⟨x5, rfl, S9⟩
        obtain ⟨d, hd, dy⟩ := ha8.getV hy
        rw [List.getElem?_map] at hd
        obtain ⟨vx, hvx, rfl⟩ := Option.map_eq_some_iff.mp hd
        have hvx : (fldVs x)[j]? = some vx := hvx
        have hvs : ValSm m vx := FldSm.vs hNx vx (List.mem_of_getElem? hvx)
        rw [sum_take hvx, ← Nat.add_assoc (n0 + 0)]
        generalize n0 + 0 + (((fldVs x).take j).map wV).sum = n1
        have dy := dy.mono S9
        refine ⟨_, rfl, _, _, rfl, rfl, ?_⟩
        obtain ⟨kv, rv, ev, _⟩ := valD_hd vx
        have dy0 := dy
        rw [ev] at dy
        obtain ⟨qy, wy, rfl, hqy, hwy⟩ := dy.head
        refine ⟨_, rfl, qy, _, _, _, rfl, rfl, hqy, at0, rfl, _, rfl, ?_⟩
        by_cases ht : kv = "text"
        · subst ht
          obtain ⟨js, rfl⟩ : ∃ js, vx = .text js := by
            cases vx with
            | text js => exact ⟨js, rfl⟩
            | _ => exact absurd (PyData.str.inj (List.cons.inj (PyData.tuple.inj ev)).1) (by decide +kernel)
          cases ev
          obtain ⟨y1, w1, rfl, d1, _⟩ := hwy.cons_inv
          cases d1.str_inv
          refine iteTb (decide_eq_true rfl) ?_
          have hjl := hvs.len
          refine ⟨_, rfl, _, rfl, qy, _, _, _, rfl, rfl, hqy, at1, _, _, rfl, ⟨by rw [tx_len]; exact Nat.le_trans (show _ ≤ 12 by omega) (by decide), rfl⟩, _, _, rfl, rfl, some (.ref qy), ?_, S9⟩
          rw [tx_len]
          show (_ : L2.St) = ([some (V.str (S ls)), some (V.ref q0), some (V.int ((n1 + (1 + js.length) : Nat) : Int)), _, _, _] : L2.St)
          rw [show ((n1 + (1 + js.length) : Nat) : Int) = (n1 : Int) + 1 + ((js.length : Nat) : Int) by omega]
          rfl
        · refine iteFb (decide_eq_false fun e => ht (V.str.inj e)) ⟨some (.ref qy), ?_, S9⟩
          have : wV vx = 1 := by
            cases vx with
            | text js => cases ev; exact absurd rfl ht
            | _ => rfl
          rw [this]
          rfl
      · rintro σ H9 ⟨x5, rfl, S9⟩
        rw [hxl, List.take_length]
        exact ⟨_, _, _, by rw [Nat.add_zero]; rfl, (S7.trans S8).trans S9, Same.tupl (S8.trans S9) q7⟩
    · rintro σ H5 ⟨x3, x4, x5, rfl, S5, q5⟩
      have hw : fs.take ws.length = fs := by rw [hal]; exact List.take_length
      rw [hw]
      exact ⟨_, rfl, k H5 S5⟩
def spSizeT (K : PySem.W.Frag) : Sp := fun vs H Q _ => ∃ (a : Addr) (ws : List V) (fl : List Fr) (m : Nat), vs = [.ref a] ∧ SqT K H a ws ∧ DtAll K H ws (fl.map frD) ∧ fl.length ≤ 10 ∧ (∀ f ∈ fl, FrSm m f) ∧ ∀ H', Same H H' → Q (.int (((fl.map fun f => 1 + wFr f).sum : Nat) : Int)) H'
theorem ok_sizeT {f : Addr} {fd : FuncData} (F : Fun K "_size_of_frames" "_size_of_frames" s_size_of_frames f fd) (T : Txt K mg) (U_FIELDS : UseD P w K mg "FIELDS" (txtKV fieldsL)) (U_weight : Use P w K mg base CX0 "_weight" 2 P_weight (spWeight0 K)) : FnG P w K mg base CX0 3 f fd P_size_of_frames (spSizeT K) := by
  refine okG0 F sc_size_of_frames (fun vs H Q E h => ?_) fun cdv A outer s H vs Q E hr hg h => ?_
  · obtain ⟨a, ws, fl, m, rfl, _⟩ := h
    rfl
  · obtain ⟨a, ws, fl, m, rfl, hq, ha, hfl, hN, k⟩ := h
    obtain ⟨aD_FIELDS, gD_FIELDS, kD⟩ := U_FIELDS.ex
    refine ⟨_, (pss_one (ps_ret (pe_callB (cr_sum rfl) (by rfl) T.b_sum (by decide +kernel) (pa_cons (pe_lc (own := [("frame", 1)]) (g := (gName 1)) rfl sc_size_of_frames.nd (pi_tup (pv 0)) (blkOk_by (N := N_size_of_frames) (sc := defScope s_size_of_frames) (by decide +kernel)) (fun _ _ _ _ _ => (pg_name (i := 1) sc_size_of_frames.nd rfl (Or.inl rfl))) (fun _ _ _ _ _ => pts_nil) (fun _ _ _ _ _ => (pe_op op_add pe_int (pe_use U_weight (hr.mono (by decide)) hg rfl (pa_cons (pe_dgetK (pe_glob (v := .ref aD_FIELDS) (by rfl) gD_FIELDS rfl) (pe_ix (ix_tup : IxR _ (rIxT K)) (pv 1) pe_int (fun _ _ => rfl)) (fun _ _ => rfl) : PE _ _ (tDGetK P w K _ _)) (pa_cons (pv 1) pa_nil)))))) pa_nil)))), ?_⟩
    have hal := ha.length
    rw [List.length_map] at hal
    refine ⟨_, rfl, a, rfl, ⟨_, hq⟩, fun D hD => ?_⟩
    refine lc_it (walk_tup (xs := ws)) (fun j H' => (∃ ns : List Int, H' D = some (.lst (ns.map V.int)) ∧ ns = ((fl.take j).map fun f => (((1 + wFr f : Nat)) : Int))) ∧ Same H H') ⟨⟨[], upd_same, by simp⟩, Same.new hD⟩ (fun j H' _ h => Same.tupl h.2 hq) ?_ ?_
    · rintro j y H5 H6 hj ⟨⟨ns, eD, hns⟩, S5⟩ ⟨rfl, hy⟩
      obtain ⟨d, hd, dy⟩ := ha.getV hy
      rw [List.getElem?_map] at hd
      obtain ⟨g, hgm, rfl⟩ := Option.map_eq_some_iff.mp hd
      have hg1 := List.mem_of_getElem? hgm
      have hgs := hN g hg1
      have dy5 := dy.mono S5
      obtain ⟨q2, w2, rfl, hq2, _⟩ := (show Dt K _ y (.tuple (.str g.kd :: g.fs.map fldD)) from dy5).head
      refine ⟨rfl, tYes_of ⟨_, rfl, q2, _, _, _, rfl, rfl, hq2, at0, aD_FIELDS, _, .inr g.kd, _, rfl, kD, rfl, tab_val fields_at hgs.1, _, rfl, _, g.kd, g.fs, _, m, rfl, rfl, frTab_len10 hgs.1, dy5, hgs.2, fun H7 S7 => ?_⟩⟩
      have hnl : ns.length = j := by rw [hns, List.length_map, List.length_take]; omega
      refine ⟨_, _, rfl, rfl, _, S7 _ _ eD, by rw [List.length_map, hnl]; exact Nat.lt_of_le_of_lt (show j ≤ 10 by omega) (by decide), ⟨ns ++ [((1 + wFr g : Nat) : Int)], ?_, ?_⟩, fun b o hb => by rw [upd_ne (ne_of_none hb hD)]; exact (S5.trans S7) _ _ hb⟩
      · rw [upd_same, List.map_append]
        rw [show ((1 + wFr g : Nat) : Int) = 1 + ((wFr g : Nat) : Int) by omega]
        rfl
      · rw [hns, List.take_succ, hgm, List.map_append]
        rfl
    · rintro H5 ⟨⟨ns, eD, hns⟩, S5⟩
      refine ⟨D, ns, rfl, SqL.of eD, ?_⟩
      rw [hal, List.take_length] at hns
      have key : ∀ l : List Fr, (l.map fun f => (((1 + wFr f : Nat)) : Int)).sum = (((l.map fun f => 1 + wFr f).sum : Nat) : Int) := fun l => by
        induction l with
        | nil => rfl
        | cons a r ih => rw [List.map_cons, List.sum_cons, ih, List.map_cons, List.sum_cons]; omega
      rw [hns, key]
      exact k _ S5
def spSizeL (K : PySem.W.Frag) : Sp := fun vs H Q _ => ∃ (a : Addr) (ws : List V) (fl : List Fr) (m : Nat), vs = [.ref a] ∧ SqL K H a ws ∧ DtAll K H ws (fl.map frD) ∧ fl.length ≤ 10 ∧ (∀ f ∈ fl, FrSm m f) ∧ ∀ H', Same H H' → Q (.int (((fl.map fun f => 1 + wFr f).sum : Nat) : Int)) H'
theorem ok_sizeL {f : Addr} {fd : FuncData} (F : Fun K "_size_of_frames" "_size_of_frames" s_size_of_frames f fd) (T : Txt K mg) (U_FIELDS : UseD P w K mg "FIELDS" (txtKV fieldsL)) (U_weight : Use P w K mg base CX0 "_weight" 2 P_weight (spWeight0 K)) : FnG P w K mg base CX0 3 f fd P_size_of_frames (spSizeL K) := by
  refine okG0 F sc_size_of_frames (fun vs H Q E h => ?_) fun cdv A outer s H vs Q E hr hg h => ?_
  · obtain ⟨a, ws, fl, m, rfl, _⟩ := h
    rfl
  · obtain ⟨a, ws, fl, m, rfl, hq, ha, hfl, hN, k⟩ := h
    obtain ⟨aD_FIELDS, gD_FIELDS, kD⟩ := U_FIELDS.ex
    refine ⟨_, (pss_one (ps_ret (pe_callB (cr_sum rfl) (by rfl) T.b_sum (by decide +kernel) (pa_cons (pe_lc (own := [("frame", 1)]) (g := (gName 1)) rfl sc_size_of_frames.nd (pi_list (pv 0)) (blkOk_by (N := N_size_of_frames) (sc := defScope s_size_of_frames) (by decide +kernel)) (fun _ _ _ _ _ => (pg_name (i := 1) sc_size_of_frames.nd rfl (Or.inl rfl))) (fun _ _ _ _ _ => pts_nil) (fun _ _ _ _ _ => (pe_op op_add pe_int (pe_use U_weight (hr.mono (by decide)) hg rfl (pa_cons (pe_dgetK (pe_glob (v := .ref aD_FIELDS) (by rfl) gD_FIELDS rfl) (pe_ix (ix_tup : IxR _ (rIxT K)) (pv 1) pe_int (fun _ _ => rfl)) (fun _ _ => rfl) : PE _ _ (tDGetK P w K _ _)) (pa_cons (pv 1) pa_nil)))))) pa_nil)))), ?_⟩
    have hal := ha.length
    rw [List.length_map] at hal
    refine ⟨_, rfl, a, rfl, ⟨_, hq⟩, fun D hD => ?_⟩
    refine lc_it (walk_list (xs := ws)) (fun j H' => (∃ ns : List Int, H' D = some (.lst (ns.map V.int)) ∧ ns = ((fl.take j).map fun f => (((1 + wFr f : Nat)) : Int))) ∧ Same H H') ⟨⟨[], upd_same, by simp⟩, Same.new hD⟩ (fun j H' _ h => Same.seq h.2 hq) ?_ ?_
    · rintro j y H5 H6 hj ⟨⟨ns, eD, hns⟩, S5⟩ ⟨rfl, hy⟩
      obtain ⟨d, hd, dy⟩ := ha.getV hy
      rw [List.getElem?_map] at hd
      obtain ⟨g, hgm, rfl⟩ := Option.map_eq_some_iff.mp hd
      have hg1 := List.mem_of_getElem? hgm
      have hgs := hN g hg1
      have dy5 := dy.mono S5
      obtain ⟨q2, w2, rfl, hq2, _⟩ := (show Dt K _ y (.tuple (.str g.kd :: g.fs.map fldD)) from dy5).head
      refine ⟨rfl, tYes_of ⟨_, rfl, q2, _, _, _, rfl, rfl, hq2, at0, aD_FIELDS, _, .inr g.kd, _, rfl, kD, rfl, tab_val fields_at hgs.1, _, rfl, _, g.kd, g.fs, _, m, rfl, rfl, frTab_len10 hgs.1, dy5, hgs.2, fun H7 S7 => ?_⟩⟩
      have hnl : ns.length = j := by rw [hns, List.length_map, List.length_take]; omega
      refine ⟨_, _, rfl, rfl, _, S7 _ _ eD, by rw [List.length_map, hnl]; exact Nat.lt_of_le_of_lt (show j ≤ 10 by omega) (by decide), ⟨ns ++ [((1 + wFr g : Nat) : Int)], ?_, ?_⟩, fun b o hb => by rw [upd_ne (ne_of_none hb hD)]; exact (S5.trans S7) _ _ hb⟩
      · rw [upd_same, List.map_append]
        rw [show ((1 + wFr g : Nat) : Int) = 1 + ((wFr g : Nat) : Int) by omega]
        rfl
      · rw [hns, List.take_succ, hgm, List.map_append]
        rfl
    · rintro H5 ⟨⟨ns, eD, hns⟩, S5⟩
      refine ⟨D, ns, rfl, SqL.of eD, ?_⟩
      rw [hal, List.take_length] at hns
      have key : ∀ l : List Fr, (l.map fun f => (((1 + wFr f : Nat)) : Int)).sum = (((l.map fun f => 1 + wFr f).sum : Nat) : Int) := fun l => by
        induction l with
        | nil => rfl
        | cons a r ih => rw [List.map_cons, List.sum_cons, ih, List.map_cons, List.sum_cons]; omega
      rw [hns, key]
      exact k _ S5
--SPLIT
def szF : Fl2 → Nat
  | .one _ => 0
  | .fr l => (l.map fun f => 1 + wFr f).sum
theorem w2_eq (x : Fl2) : szF x + ((fl2Vs x).map wV).sum = w2 x := by
  cases x with
  | one x => show 0 + ((fldVs x).map wV).sum = ((fldVs x).map wV).sum; omega
  | fr l => rfl
theorem vs2_len {m : Nat} {x : Fl2} (h : Fl2Sm m x) : (fl2Vs x).length ≤ 100 := by
  cases x with
  | one x => exact Nat.le_trans (FldSm.n h) (by decide)
  | fr l => exact Nat.zero_le _
theorem vs2_sm {m : Nat} {x : Fl2} (h : Fl2Sm m x) : ∀ y ∈ fl2Vs x, ValSm m y := by
  cases x with
  | one x => exact FldSm.vs h
  | fr l => intro y hy; cases hy
def spWeight (K : PySem.W.Frag) : Sp := fun vs H Q _ => ∃ (v : V) (kd : Str) (fs : List Fl2) (ls : List Nat) (m : Nat), vs = [.str (S ls), v] ∧ fs.map ltr2 = ls ∧ ls.length ≤ 10 ∧ Dt K H v (.tuple (.str kd :: fs.map fl2D)) ∧ (∀ x ∈ fs, Fl2Sm m x) ∧ ∀ H', Same H H' → Q (.int (((fs.map w2).sum : Nat) : Int)) H'
theorem ok_weight {f : Addr} {fd : FuncData} (F : Fun K "_weight" "_weight" s_weight f fd) (T : Txt K mg) (U_values : Use P w K mg base CX0 "_values" 1 P_values (spValues2 K)) (U_size_of_frames : Use P w K mg base CX0 "_size_of_frames" 3 P_size_of_frames (spSizeT K)) : FnG P w K mg base CX0 4 f fd P_weight (spWeight K) := by
  refine okG0 F sc_weight (fun vs H Q E h => ?_) fun cdv A outer s H vs Q E hr hg h => ?_
  · obtain ⟨v, kd, fs, ls, m, rfl, _⟩ := h
    rfl
  · obtain ⟨v, kd, fs, ls, m, rfl, hls, hll, dv, hN, k⟩ := h
    refine ⟨_, (pss_cons (ps_set (i := 2) sc_weight.nd rfl (Or.inl rfl) pe_int)
  (pss_cons (ps_for PassesOwn.never rfl (pi_zipST (by rfl) T.b_zip (pa_cons (pv 0) (pa_cons (pe_slice sl_tupA (pv 1) (po_some pe_int) po_none) pa_nil))) (pg_tup (by rfl) (pgs_cons (pg_name (i := 3) sc_weight.nd rfl (Or.inl rfl)) (pgs_cons (pg_name (i := 4) sc_weight.nd rfl (Or.inl rfl)) pgs_nil)))
   (C8.pss_cut (ps_if (pt_cmpR op_eq (pv 3) pe_str (nomark _))
   (pss_one (ps_aug (i := 2) sc_weight.nd rfl (Or.inl rfl) (pe_use U_size_of_frames (hr.mono (by decide)) hg rfl (pa_cons (pv 4) pa_nil)) ip_add))
   pss_nil)
  (pss_one (ps_for PassesOwn.never rfl (pi_tup (pe_use U_values (hr.mono (by decide)) hg rfl (pa_cons (pv 3) (pa_cons (pv 4) pa_nil)))) (pg_name (i := 5) sc_weight.nd rfl (Or.inl rfl))
   (pss_cons (ps_aug (i := 2) sc_weight.nd rfl (Or.inl rfl) pe_int ip_add)
  (pss_one (ps_if (pt_cmpR op_eq (pe_ix ix_tup (pv 5) pe_int (fun _ _ => rfl)) pe_str (nomark _))
   (pss_one (ps_aug (i := 2) sc_weight.nd rfl (Or.inl rfl) (pe_callB call_len (by rfl) T.b_len PySem.boot_len (pa_cons (pe_ix ix_tup (pv 5) pe_int (fun _ _ => rfl)) pa_nil)) ip_add))
   pss_nil)))))))
  (pss_one (ps_ret (pv 2))))), ?_⟩
    obtain ⟨q0, ws, rfl, hq0, ha⟩ := dv.head
    have hal := ha.length
    rw [List.length_map] at hal
    have hfsl : fs.length = ls.length := by rw [← hls, List.length_map]
    refine ⟨_, rfl, _, rfl, _, rfl, ?_⟩
    refine ⟨q0, _, rfl, hq0, fun e => absurd e.1 (tail_no _ _), fun _ q hq => ?_⟩
    rw [cut_one]
    refine ⟨S ls, q, ws, rfl, SqT.of upd_same, ?_⟩
    refine for_it (walk_zipST (z := ls) (b := q) (ys := ws) (by omega)) (fun i σ H5 => ∃ (x3 x4 x5 : Option V), σ = [some (.str (S ls)), some (.ref q0), some (.int ((((fs.take i).map w2).sum : Nat) : Int)), x3, x4, x5] ∧ Same H H5 ∧ SqT K H5 q ws) ⟨none, none, none, rfl, Same.new hq, SqT.of upd_same⟩ (fun _ _ _ _ ⟨_, _, _, _, _, h⟩ => h) ?_ ?_
    · rintro i y σ H5 H6 hi ⟨x3, x4, x5, rfl, S5, q5⟩ ⟨T, a1, a2, rfl, hT, rfl, e1, e2⟩
      have hif : i < fs.length := by omega
      have hx : fs[i]? = some fs[i] := List.getElem?_eq_getElem hif
      have hNx := hN _ (List.getElem_mem hif)
      generalize fs[i] = x at hx hNx
      have hlc : ls[i]? = some (ltr2 x) := by rw [← hls, List.getElem?_map, hx]; rfl
      obtain rfl : V.str (S [ltr2 x]) = a1 := by
        have e1 : (ls[i]?).map (fun c => V.str (S [c])) = some a1 := e1
        rw [hlc] at e1
        exact Option.some.inj e1
      obtain ⟨d, hd, dx⟩ := ha.getV (show ws[i]? = some a2 from e2)
      rw [List.getElem?_map, hx] at hd
      cases hd
      have S6 := Same.new (o := .tup [.str (S [ltr2 x]), a2]) hT
      have S56 := S5.trans S6
      have dx6 := dx.mono S56
      have q6 := Same.tupl S6 q5
      refine ⟨T, _, rfl, SqT.of upd_same, rfl, _, _, rfl, _, _, rfl, rfl, ?_⟩
      rw [sum_take hx]
      generalize ((fs.take i).map w2).sum = n0
      refine ⟨fun σ H' => σ = [some (.str (S ls)), some (.ref q0), some (.int ((n0 + szF x : Nat) : Int)), some (.str (S [ltr2 x])), some a2, x5] ∧ Same H H' ∧ SqT K H' q ws ∧ Dt K H' a2 (fl2D x), ?_, ?_⟩
      · cases x with
        | one x => exact ⟨_, rfl, rfl, _, rfl, iteFb (noF _ (ltr_in x)) ⟨by show (_ : L2.St) = ([_, _, some (V.int ((n0 + 0 : Nat) : Int)), _, _, _] : L2.St); rw [Nat.add_zero]; rfl, S56, q6, dx6⟩⟩
        | fr fl =>
          refine ⟨_, rfl, rfl, _, rfl, iteTb (by show decide (V.str (S [70]) = V.str "F") = true; decide +kernel) ?_⟩
          obtain ⟨q3, w3, rfl, hq3, ha3⟩ := (show Dt K _ a2 (.tuple (fl.map frD)) from dx6).tuple_inv
          refine ⟨_, rfl, _, rfl, q3, w3, fl, m, rfl, hq3, ha3, by have := hNx.1; omega, hNx.2, fun H7 S7 => ⟨_, _, rfl, rfl, ?_, S56.trans S7, Same.tupl S7 q6, dx6.mono S7⟩⟩
          show (_ : L2.St) = ([_, _, some (V.int ((n0 + (fl.map fun f => 1 + wFr f).sum : Nat) : Int)), _, _, _] : L2.St)
          rw [show ((n0 + (fl.map fun f => 1 + wFr f).sum : Nat) : Int) = (n0 : Int) + (((fl.map fun f => 1 + wFr f).sum : Nat) : Int) by omega]
          rfl
      rintro _ H7 ⟨rfl, S7, q7, dx7⟩
      refine ⟨_, rfl, _, rfl, a2, x, ltr2 x, rfl, rfl, dx7, vs2_len hNx, fun v' H8 S8 d8 => ?_⟩
      obtain ⟨q8, xs, rfl, hq8, ha8⟩ := d8.tuple_inv
      have hxl := ha8.length
      rw [List.length_map] at hxl
      have hxl : xs.length = (fl2Vs x).length := hxl
      refine ⟨q8, rfl, ⟨_, hq8⟩, ?_⟩
      refine for_tup (xs := xs) (fun j σ H' => ∃ (x5 : Option V), σ = [some (.str (S ls)), some (.ref q0), some (.int ((n0 + szF x + (((fl2Vs x).take j).map wV).sum : Nat) : Int)), some (.str (S [ltr2 x])), some a2, x5] ∧ Same H8 H') ⟨x5, by simp, Same.refl _⟩ ?_ ?_ ?_
      · rintro j σ H' hj ⟨x5, rfl, S'⟩
        exact Same.tupl S' hq8
      · rintro j y σ H9 hy ⟨x5, rfl, S9⟩
        obtain ⟨d, hd, dy⟩ := ha8.getV hy
        rw [List.getElem?_map] at hd
        obtain ⟨vx, hvx, rfl⟩ := Option.map_eq_some_iff.mp hd
        have hvx : (fl2Vs x)[j]? = some vx := hvx
        have hvs : ValSm m vx := vs2_sm hNx vx (List.mem_of_getElem? hvx)
        rw [sum_take hvx, ← Nat.add_assoc (n0 + szF x)]
        generalize n0 + szF x + (((fl2Vs x).take j).map wV).sum = n1
        have dy := dy.mono S9
        refine ⟨_, rfl, _, _, rfl, rfl, ?_⟩
        obtain ⟨kv, rv, ev, _⟩ := valD_hd vx
        have dy0 := dy
        rw [ev] at dy
        obtain ⟨qy, wy, rfl, hqy, hwy⟩ := dy.head
        refine ⟨_, rfl, qy, _, _, _, rfl, rfl, hqy, at0, rfl, _, rfl, ?_⟩
        by_cases ht : kv = "text"
        · subst ht
          obtain ⟨js, rfl⟩ : ∃ js, vx = .text js := by
            cases vx with
            | text js => exact ⟨js, rfl⟩
            | _ => exact absurd (PyData.str.inj (List.cons.inj (PyData.tuple.inj ev)).1) (by decide +kernel)
          cases ev
          obtain ⟨y1, w1, rfl, d1, _⟩ := hwy.cons_inv
          cases d1.str_inv
          refine iteTb (decide_eq_true rfl) ?_
          have hjl := hvs.len
          refine ⟨_, rfl, _, rfl, qy, _, _, _, rfl, rfl, hqy, at1, _, _, rfl, ⟨by rw [tx_len]; exact Nat.le_trans (show _ ≤ 12 by omega) (by decide), rfl⟩, _, _, rfl, rfl, some (.ref qy), ?_, S9⟩
          rw [tx_len]
          show (_ : L2.St) = ([some (V.str (S ls)), some (V.ref q0), some (V.int ((n1 + (1 + js.length) : Nat) : Int)), _, _, _] : L2.St)
          rw [show ((n1 + (1 + js.length) : Nat) : Int) = (n1 : Int) + 1 + ((js.length : Nat) : Int) by omega]
          rfl
        · refine iteFb (decide_eq_false fun e => ht (V.str.inj e)) ⟨some (.ref qy), ?_, S9⟩
          have : wV vx = 1 := by
            cases vx with
            | text js => cases ev; exact absurd rfl ht
            | _ => rfl
          rw [this]
          rfl
      · rintro σ H9 ⟨x5, rfl, S9⟩
        rw [hxl, List.take_length]
        exact ⟨_, _, _, by rw [Nat.add_assoc, w2_eq], (S7.trans S8).trans S9, Same.tupl (S8.trans S9) q7⟩
    · rintro σ H5 ⟨x3, x4, x5, rfl, S5, q5⟩
      have hw : fs.take ws.length = fs := by rw [hal]; exact List.take_length
      rw [hw]
      exact ⟨_, rfl, k H5 S5⟩
--SPLIT
def spLWeight (K : PySem.W.Frag) : Sp := fun vs H Q _ => ∃ (v : V) (x : Val) (m : Nat), vs = [v] ∧ Dt K H v (valD x) ∧ ValSm m x ∧ Q (.int ((wV x : Nat) : Int)) H
theorem ok_lweight {f : Addr} {fd : FuncData} (F : Fun K "_law_weight" "_law_weight" s_law_weight f fd) (T : Txt K mg) : FnG P w K mg base CX0 1 f fd P_law_weight (spLWeight K) := by
  refine okG0 F sc_law_weight (fun vs H Q E h => ?_) fun cdv A outer s H vs Q E hr hg h => ?_
  · obtain ⟨v, x, m, rfl, _⟩ := h
    rfl
  · obtain ⟨v, x, m, rfl, dy, hvs, k⟩ := h
    refine ⟨_, (pss_cons (ps_if (pt_cmpR op_eq (pe_ix ix_tup (pv 0) pe_int (fun _ _ => rfl)) pe_str (nomark _))
   (pss_one (ps_ret (pe_op op_add pe_int (pe_callB call_len (by rfl) T.b_len PySem.boot_len (pa_cons (pe_ix ix_tup (pv 0) pe_int (fun _ _ => rfl)) pa_nil)))))
   pss_nil)
  (pss_one (ps_ret pe_int))), ?_⟩
    obtain ⟨kv, rv, ev, _⟩ := valD_hd x
    rw [ev] at dy
    obtain ⟨qy, wy, rfl, hqy, hwy⟩ := dy.head
    refine ⟨_, rfl, qy, _, _, _, rfl, rfl, hqy, at0, rfl, _, rfl, ?_⟩
    by_cases ht : kv = "text"
    · subst ht
      obtain ⟨js, rfl⟩ : ∃ js, x = .text js := by
        cases x with
        | text js => exact ⟨js, rfl⟩
        | _ => exact absurd (PyData.str.inj (List.cons.inj (PyData.tuple.inj ev)).1) (by decide +kernel)
      cases ev
      obtain ⟨y1, w1, rfl, d1, _⟩ := hwy.cons_inv
      cases d1.str_inv
      refine iteTb (decide_eq_true rfl) ?_
      have hjl := hvs.len
      refine ⟨_, rfl, qy, _, _, _, rfl, rfl, hqy, at1, _, _, rfl, ⟨by rw [tx_len]; exact Nat.le_trans (show _ ≤ 12 by omega) (by decide), rfl⟩, _, _, rfl, rfl, ?_⟩
      rw [tx_len]
      rw [show ((wV (.text js) : Nat) : Int) = 1 + ((js.length : Nat) : Int) by show ((1 + js.length : Nat) : Int) = _; omega] at k
      exact k
    · refine iteFb (decide_eq_false fun e => ht (V.str.inj e)) ?_
      have : wV x = 1 := by
        cases x with
        | text js => cases ev; exact absurd rfl ht
        | _ => rfl
      rw [this] at k
      exact k
def spLWeights0 (K : PySem.W.Frag) : Sp := fun vs H Q _ => ∃ (tl : Addr) (v : V) (tab : Tab) (kd : Str) (fs : List Fld) (m : Nat), vs = [.ref tl, v] ∧ TabAt H tl tab ∧ (tab.map (·.1)).Nodup ∧ (kd, fs.map ltr) ∈ tab ∧ fs.length ≤ 10 ∧ Dt K H v (.tuple (.str kd :: fs.map fldD)) ∧ (∀ x ∈ fs, FldSm m x) ∧ ∀ H', Same H H' → Q (.int (((fs.map wF).sum : Nat) : Int)) H'
theorem ok_lweights0 {f : Addr} {fd : FuncData} (F : Fun K "_law_weights" "_law_weights" s_law_weights f fd) (T : Txt K mg) (U_law_letters : Use P w K mg base CX0 "_law_letters" 1 P_law_letters (spLetters K)) (U_law_values : Use P w K mg base CX0 "_law_values" 1 P_law_values (spLValues2 K)) (U_law_weight : Use P w K mg base CX0 "_law_weight" 1 P_law_weight (spLWeight K)) : FnG P w K mg base CX0 2 f fd P_law_weights (spLWeights0 K) := by
  refine okG0 F sc_law_weights (fun vs H Q E h => ?_) fun cdv A outer s H vs Q E hr hg h => ?_
  · obtain ⟨tl, v, tab, kd, fs, m, rfl, _⟩ := h
    rfl
  · obtain ⟨tl, v, tab, kd, fs, m, rfl, hT, hnd, hmem, hfl, dv, hN, k⟩ := h
    refine ⟨_, (pss_cons (ps_set (i := 2) sc_law_weights.nd rfl (Or.inl rfl) (pe_use U_law_letters (hr.mono (by decide)) hg rfl (pa_cons (pv 0) (pa_cons (pe_ix ix_tup (pv 1) pe_int (fun _ _ => rfl)) pa_nil))))
  (pss_cons (ps_set (i := 3) sc_law_weights.nd rfl (Or.inl rfl) pe_int)
  (pss_cons (ps_for PassesOwn.never rfl (pi_range1 (by rfl) T.b_range (pa_cons (pe_callB call_len (by rfl) T.b_len PySem.boot_len (pa_cons (pv 2) pa_nil)) pa_nil)) (pg_name (i := 4) sc_law_weights.nd rfl (Or.inl rfl))
   (pss_one (ps_if (pt_cmpR op_eq (pe_ix ix_str (pv 2) (pv 4) (fun _ _ => rfl)) pe_str (nomark _))
   pss_never
   (pss_one (ps_set (i := 3) sc_law_weights.nd rfl (Or.inl rfl) (pe_op op_add (pv 3) (pe_callB (cr_sum rfl) (by rfl) T.b_sum (by decide +kernel) (pa_cons (pe_lc (own := [("value", 6)]) (g := (gName 6)) rfl sc_law_weights.nd (pi_list (pe_use U_law_values (hr.mono (by decide)) hg rfl (pa_cons (pe_ix ix_str (pv 2) (pv 4) (fun _ _ => rfl)) (pa_cons (pe_ix ix_tup (pv 1) (pe_op op_add (pv 4) pe_int) (fun _ _ => rfl)) pa_nil)))) (blkOk_by (N := N_law_weights) (sc := defScope s_law_weights) (by decide +kernel)) (fun _ _ _ _ _ => (pg_name (i := 6) sc_law_weights.nd rfl (Or.inl rfl))) (fun _ _ _ _ _ => pts_nil) (fun _ _ _ _ _ => (pe_use U_law_weight (hr.mono (by decide)) hg rfl (pa_cons (pv 6) pa_nil)))) pa_nil))))))))
  (pss_one (ps_ret (pv 3)))))), ?_⟩
    obtain ⟨q0, ws, rfl, hq0, ha⟩ := dv.head
    have hal := ha.length
    rw [List.length_map] at hal
    refine ⟨_, rfl, _, rfl, q0, _, _, _, rfl, rfl, hq0, at0, tl, tab, kd, fs.map ltr, rfl, hT, hmem, hnd, ?_⟩
    refine ⟨_, rfl, _, (fs.map ltr).length, rfl, ⟨by rw [S_len, List.length_map]; exact Nat.le_trans hfl (by decide), (S_len _).symm⟩, _, rfl, by omega, by rw [List.length_map]; omega, ?_⟩
    rw [List.length_map, Int.toNat_natCast]
    refine for_range (lo := 0) (n := fs.length) (fun i σ H' => ∃ (x4 x5 : Option V), σ = [some (.ref tl), some (.ref q0), some (.str (S (fs.map ltr))), some (.int ((((fs.take i).map wF).sum : Nat) : Int)), x4, x5, none] ∧ Same H H') ⟨none, none, rfl, Same.refl _⟩ ?_ ?_
    · rintro i σ H1 hi ⟨x4, x5, rfl, S1⟩
      rw [Int.zero_add]
      have hx : fs[i]? = some fs[i] := List.getElem?_eq_getElem hi
      have hNx := hN _ (List.getElem_mem hi)
      generalize fs[i] = x at hx hNx
      obtain ⟨y, hy, dy⟩ := ha.get (i := i) (d := fldD x) (by rw [List.getElem?_map, hx]; rfl)
      have hlc : (fs.map ltr)[i]? = some (ltr x) := by rw [List.getElem?_map, hx]; rfl
      have dy1 := dy.mono S1
      have hlen : (S (fs.map ltr)).length ≤ sizeLine := by rw [S_len, List.length_map]; exact Nat.le_trans hfl (by decide)
      rw [sum_take hx]
      generalize ((fs.take i).map wF).sum = n0
      refine ⟨_, rfl, _, rfl, _, _, _, rfl, rfl, hlen, at_S hlc, rfl, _, rfl, ?_⟩
      refine iteFb (noF _ (ltr_in x)) ?_
      refine ⟨_, rfl, _, rfl, _, rfl, _, _, _, rfl, rfl, hlen, at_S hlc, _, rfl, _, rfl, _, _, rfl, rfl, q0, _, _, _, rfl, rfl, Same.tupl S1 hq0, at_of' (j := i + 1) (by omega) hy, ?_⟩
      refine ⟨y, x, ltr x, rfl, rfl, dy1, Nat.le_trans (FldSm.n hNx) (by decide), fun vl H2 hvl S2 LV => ?_⟩
      obtain ⟨zs, ez, az⟩ := LV
      have hzl := az.length
      rw [List.length_map] at hzl
      have hv10 : (fldVs x).length ≤ 10 := FldSm.n hNx
      refine ⟨vl, rfl, ⟨_, SqL.of ez⟩, fun D hD => ?_⟩
      refine lc_it (walk_list (xs := zs)) (fun j H' => (∃ ns : List Int, H' D = some (.lst (ns.map V.int)) ∧ ns = (((fldVs x).take j).map fun x => ((wV x : Nat) : Int))) ∧ Same H2 H') ⟨⟨[], upd_same, by simp⟩, Same.new hD⟩ (fun j H' _ h => SqL.of (h.2 _ _ ez)) ?_ ?_
      · rintro j y' H5 H6 hj ⟨⟨ns, eD, hns⟩, S5⟩ ⟨rfl, hy'⟩
        obtain ⟨d, hd, dy'⟩ := az.getV hy'
        rw [List.getElem?_map] at hd
        obtain ⟨vx, hvx, rfl⟩ := Option.map_eq_some_iff.mp hd
        have hnl : ns.length = j := by rw [hns, List.length_map, List.length_take]; omega
        refine ⟨rfl, tYes_of ⟨_, rfl, y', vx, m, rfl, dy'.mono S5, FldSm.vs hNx vx (List.mem_of_getElem? hvx), _, eD, by rw [List.length_map, hnl]; exact Nat.lt_of_le_of_lt (show j ≤ 10 by omega) (by decide), ⟨ns ++ [((wV vx : Nat) : Int)], by rw [upd_same, List.map_append]; rfl, ?_⟩, fun b o hb => by rw [upd_ne (ne_of_none hb hD)]; exact S5 _ _ hb⟩⟩
        rw [hns, List.take_succ, hvx, List.map_append]
        rfl
      · rintro H5 ⟨⟨ns, eD, hns⟩, S5⟩
        rw [hzl, List.take_length] at hns
        have key : ∀ l : List Val, (l.map fun x => ((wV x : Nat) : Int)).sum = (((l.map wV).sum : Nat) : Int) := fun l => by
          induction l with
          | nil => rfl
          | cons a r ih => rw [List.map_cons, List.sum_cons, ih, List.map_cons, List.sum_cons]; omega
        refine ⟨D, ns, rfl, SqL.of eD, _, _, rfl, rfl, some (.int (i : Int)), x5, ?_, (S1.trans S2).trans S5⟩
        rw [hns, key]
        show (_ : L2.St) = ([some (V.ref tl), some (V.ref q0), some (V.str (S (fs.map ltr))), some (V.int ((n0 + wF x : Nat) : Int)), _, _, none] : L2.St)
        rw [show ((n0 + wF x : Nat) : Int) = (n0 : Int) + ((((fldVs x).map wV).sum : Nat) : Int) by show ((n0 + ((fldVs x).map wV).sum : Nat) : Int) = _; omega]
        rfl
    · rintro σ H1 ⟨x4, x5, rfl, S1⟩
      rw [List.take_length]
      exact ⟨_, rfl, k _ S1⟩
def spLWeights (K : PySem.W.Frag) : Sp := fun vs H Q _ => ∃ (tl : Addr) (v : V) (tab : Tab) (kd : Str) (fs : List Fl2) (m : Nat), vs = [.ref tl, v] ∧ TabAt H tl tab ∧ (tab.map (·.1)).Nodup ∧ (kd, fs.map ltr2) ∈ tab ∧ fs.length ≤ 10 ∧ Dt K H v (.tuple (.str kd :: fs.map fl2D)) ∧ (∀ x ∈ fs, Fl2Sm m x) ∧ ∀ H', Same H H' → Q (.int (((fs.map w2).sum : Nat) : Int)) H'
theorem ok_lweights {f : Addr} {fd : FuncData} (F : Fun K "_law_weights" "_law_weights" s_law_weights f fd) (T : Txt K mg) (U_law_letters : Use P w K mg base CX0 "_law_letters" 1 P_law_letters (spLetters K)) (U_law_values : Use P w K mg base CX0 "_law_values" 1 P_law_values (spLValues2 K)) (U_law_weight : Use P w K mg base CX0 "_law_weight" 1 P_law_weight (spLWeight K)) (U_law_frames : Use P w K mg base CX0 "_law_frames" 1 P_law_frames (spTab frTab)) (U_law_weights : Use P w K mg base CX0 "_law_weights" 2 P_law_weights (spLWeights0 K)) : FnG P w K mg base CX0 3 f fd P_law_weights (spLWeights K) := by
  refine okG0 F sc_law_weights (fun vs H Q E h => ?_) fun cdv A outer s H vs Q E hr hg h => ?_
  · obtain ⟨tl, v, tab, kd, fs, m, rfl, _⟩ := h
    rfl
  · obtain ⟨tl, v, tab, kd, fs, m, rfl, hT, hnd, hmem, hfl, dv, hN, k⟩ := h
    refine ⟨_, (pss_cons (ps_set (i := 2) sc_law_weights.nd rfl (Or.inl rfl) (pe_use U_law_letters (hr.mono (by decide)) hg rfl (pa_cons (pv 0) (pa_cons (pe_ix ix_tup (pv 1) pe_int (fun _ _ => rfl)) pa_nil))))
  (pss_cons (ps_set (i := 3) sc_law_weights.nd rfl (Or.inl rfl) pe_int)
  (pss_cons (ps_for PassesOwn.never rfl (pi_range1 (by rfl) T.b_range (pa_cons (pe_callB call_len (by rfl) T.b_len PySem.boot_len (pa_cons (pv 2) pa_nil)) pa_nil)) (pg_name (i := 4) sc_law_weights.nd rfl (Or.inl rfl))
   (pss_one (ps_if (pt_cmpR op_eq (pe_ix ix_str (pv 2) (pv 4) (fun _ _ => rfl)) pe_str (nomark _))
   (pss_one (ps_for PassesOwn.never rfl (pi_tup (pe_ix ix_tup (pv 1) (pe_op op_add (pv 4) pe_int) (fun _ _ => rfl))) (pg_name (i := 5) sc_law_weights.nd rfl (Or.inl rfl))
   (pss_one (ps_set (i := 3) sc_law_weights.nd rfl (Or.inl rfl) (pe_op op_add (pe_op op_add (pv 3) pe_int) (pe_use U_law_weights (hr.mono (by decide)) hg rfl (pa_cons (pe_use0 U_law_frames (hr.mono (by decide)) hg rfl) (pa_cons (pv 5) pa_nil))))))))
   (pss_one (ps_set (i := 3) sc_law_weights.nd rfl (Or.inl rfl) (pe_op op_add (pv 3) (pe_callB (cr_sum rfl) (by rfl) T.b_sum (by decide +kernel) (pa_cons (pe_lc (own := [("value", 6)]) (g := (gName 6)) rfl sc_law_weights.nd (pi_list (pe_use U_law_values (hr.mono (by decide)) hg rfl (pa_cons (pe_ix ix_str (pv 2) (pv 4) (fun _ _ => rfl)) (pa_cons (pe_ix ix_tup (pv 1) (pe_op op_add (pv 4) pe_int) (fun _ _ => rfl)) pa_nil)))) (blkOk_by (N := N_law_weights) (sc := defScope s_law_weights) (by decide +kernel)) (fun _ _ _ _ _ => (pg_name (i := 6) sc_law_weights.nd rfl (Or.inl rfl))) (fun _ _ _ _ _ => pts_nil) (fun _ _ _ _ _ => (pe_use U_law_weight (hr.mono (by decide)) hg rfl (pa_cons (pv 6) pa_nil)))) pa_nil))))))))
  (pss_one (ps_ret (pv 3)))))), ?_⟩
    obtain ⟨q0, ws, rfl, hq0, ha⟩ := dv.head
    have hal := ha.length
    rw [List.length_map] at hal
    refine ⟨_, rfl, _, rfl, q0, _, _, _, rfl, rfl, hq0, at0, tl, tab, kd, fs.map ltr2, rfl, hT, hmem, hnd, ?_⟩
    refine ⟨_, rfl, _, (fs.map ltr2).length, rfl, ⟨by rw [S_len, List.length_map]; exact Nat.le_trans hfl (by decide), (S_len _).symm⟩, _, rfl, by omega, by rw [List.length_map]; omega, ?_⟩
    rw [List.length_map, Int.toNat_natCast]
    refine for_range (lo := 0) (n := fs.length) (fun i σ H' => ∃ (x4 x5 : Option V), σ = [some (.ref tl), some (.ref q0), some (.str (S (fs.map ltr2))), some (.int ((((fs.take i).map w2).sum : Nat) : Int)), x4, x5, none] ∧ Same H H') ⟨none, none, rfl, Same.refl _⟩ ?_ ?_
    · rintro i σ H1 hi ⟨x4, x5, rfl, S1⟩
      rw [Int.zero_add]
      have hx : fs[i]? = some fs[i] := List.getElem?_eq_getElem hi
      have hNx := hN _ (List.getElem_mem hi)
      generalize fs[i] = x at hx hNx
      obtain ⟨y, hy, dy⟩ := ha.get (i := i) (d := fl2D x) (by rw [List.getElem?_map, hx]; rfl)
      have hlc : (fs.map ltr2)[i]? = some (ltr2 x) := by rw [List.getElem?_map, hx]; rfl
      have dy1 := dy.mono S1
      have hlen : (S (fs.map ltr2)).length ≤ sizeLine := by rw [S_len, List.length_map]; exact Nat.le_trans hfl (by decide)
      rw [sum_take hx]
      generalize ((fs.take i).map w2).sum = n0
      refine ⟨_, rfl, _, rfl, _, _, _, rfl, rfl, hlen, at_S hlc, rfl, _, rfl, ?_⟩
      cases x with
      | fr fl =>
        refine iteTb (by show decide (V.str (S [70]) = V.str "F") = true; decide +kernel) ?_
        obtain ⟨q, ws', rfl, hq, ha'⟩ := (show Dt K H1 y (.tuple (fl.map frD)) from dy1).tuple_inv
        have hal' := ha'.length
        rw [List.length_map] at hal'
        refine ⟨_, rfl, _, rfl, _, _, rfl, rfl, q0, _, _, _, rfl, rfl, Same.tupl S1 hq0, at_of' (j := i + 1) (by omega) hy, q, rfl, ⟨_, hq⟩, ?_⟩
        refine for_tup (xs := ws') (fun j σ H' => ∃ (x5 : Option V), σ = [some (.ref tl), some (.ref q0), some (.str (S (fs.map ltr2))), some (.int ((n0 + ((fl.take j).map fun f => 1 + wFr f).sum : Nat) : Int)), some (.int (i : Int)), x5, none] ∧ Same H1 H') ⟨x5, by simp, Same.refl _⟩ ?_ ?_ ?_
        · rintro j σ H' hj ⟨x5, rfl, S'⟩
          exact Same.tupl S' hq
        · rintro j y' σ H2 hy' ⟨x5, rfl, S2⟩
          obtain ⟨d, hd, dy'⟩ := ha'.getV hy'
          rw [List.getElem?_map] at hd
          obtain ⟨g, hgm, rfl⟩ := Option.map_eq_some_iff.mp hd
          have hg1 := List.mem_of_getElem? hgm
          have hgs := hNx.2 g hg1
          have hgl := frTab_len10 hgs.1
          rw [List.length_map] at hgl
          rw [sum_take (f := fun f : Fr => 1 + wFr f) hgm]
          refine ⟨_, rfl, _, _, rfl, rfl, rfl, fun tl' H3 S3 T3 => ⟨_, rfl, tl', y', frTab, g.kd, g.fs, m, rfl, T3, frTab_nd, hgs.1, hgl, dy'.mono (S2.trans S3), hgs.2, fun H4 S4 => ⟨_, _, rfl, rfl, some y', ?_, (S2.trans S3).trans S4⟩⟩⟩
          rw [show ((n0 + (((fl.take j).map fun f => 1 + wFr f).sum + (1 + wFr g)) : Nat) : Int) = ((n0 + ((fl.take j).map fun f => 1 + wFr f).sum : Nat) : Int) + 1 + (((g.fs.map wF).sum : Nat) : Int) by show ((n0 + (((fl.take j).map fun f => 1 + wFr f).sum + (1 + (g.fs.map wF).sum)) : Nat) : Int) = _; omega]
          rfl
        · rintro σ H2 ⟨x5, rfl, S2⟩
          rw [hal', List.take_length]
          exact ⟨_, _, rfl, S1.trans S2⟩
      | one x =>
        refine iteFb (noF _ (ltr_in x)) ?_
        refine ⟨_, rfl, _, rfl, _, rfl, _, _, _, rfl, rfl, hlen, at_S hlc, _, rfl, _, rfl, _, _, rfl, rfl, q0, _, _, _, rfl, rfl, Same.tupl S1 hq0, at_of' (j := i + 1) (by omega) hy, ?_⟩
        refine ⟨y, x, ltr x, rfl, rfl, dy1, Nat.le_trans (FldSm.n hNx) (by decide), fun vl H2 hvl S2 LV => ?_⟩
        obtain ⟨zs, ez, az⟩ := LV
        have hzl := az.length
        rw [List.length_map] at hzl
        have hv10 : (fldVs x).length ≤ 10 := FldSm.n hNx
        refine ⟨vl, rfl, ⟨_, SqL.of ez⟩, fun D hD => ?_⟩
        refine lc_it (walk_list (xs := zs)) (fun j H' => (∃ ns : List Int, H' D = some (.lst (ns.map V.int)) ∧ ns = (((fldVs x).take j).map fun x => ((wV x : Nat) : Int))) ∧ Same H2 H') ⟨⟨[], upd_same, by simp⟩, Same.new hD⟩ (fun j H' _ h => SqL.of (h.2 _ _ ez)) ?_ ?_
        · rintro j y' H5 H6 hj ⟨⟨ns, eD, hns⟩, S5⟩ ⟨rfl, hy'⟩
          obtain ⟨d, hd, dy'⟩ := az.getV hy'
          rw [List.getElem?_map] at hd
          obtain ⟨vx, hvx, rfl⟩ := Option.map_eq_some_iff.mp hd
          have hnl : ns.length = j := by rw [hns, List.length_map, List.length_take]; omega
          refine ⟨rfl, tYes_of ⟨_, rfl, y', vx, m, rfl, dy'.mono S5, FldSm.vs hNx vx (List.mem_of_getElem? hvx), _, eD, by rw [List.length_map, hnl]; exact Nat.lt_of_le_of_lt (show j ≤ 10 by omega) (by decide), ⟨ns ++ [((wV vx : Nat) : Int)], by rw [upd_same, List.map_append]; rfl, ?_⟩, fun b o hb => by rw [upd_ne (ne_of_none hb hD)]; exact S5 _ _ hb⟩⟩
          rw [hns, List.take_succ, hvx, List.map_append]
          rfl
        · rintro H5 ⟨⟨ns, eD, hns⟩, S5⟩
          rw [hzl, List.take_length] at hns
          have key : ∀ l : List Val, (l.map fun x => ((wV x : Nat) : Int)).sum = (((l.map wV).sum : Nat) : Int) := fun l => by
            induction l with
            | nil => rfl
            | cons a r ih => rw [List.map_cons, List.sum_cons, ih, List.map_cons, List.sum_cons]; omega
          refine ⟨D, ns, rfl, SqL.of eD, _, _, rfl, rfl, some (.int (i : Int)), x5, ?_, (S1.trans S2).trans S5⟩
          rw [hns, key]
          show (_ : L2.St) = ([some (V.ref tl), some (V.ref q0), some (V.str (S (fs.map ltr2))), some (V.int ((n0 + wF x : Nat) : Int)), _, _, none] : L2.St)
          rw [show ((n0 + wF x : Nat) : Int) = (n0 : Int) + ((((fldVs x).map wV).sum : Nat) : Int) by show ((n0 + ((fldVs x).map wV).sum : Nat) : Int) = _; omega]
          rfl
    · rintro σ H1 ⟨x4, x5, rfl, S1⟩
      rw [List.take_length]
      exact ⟨_, rfl, k _ S1⟩
--SPLIT
end

abbrev s_live_size : Stmt := top 11
abbrev N_live_size : List Str := ["machine", "size", "k", "item"]
abbrev P_live_size : List Str := ["machine"]
theorem sc_live_size : FnScope N_live_size P_live_size (defScope s_live_size) := ⟨rfl, rfl, rfl, by decide +kernel, rfl, by decide +kernel, by decide +kernel⟩
abbrev s_law : Stmt := top 51
abbrev N_law : List Str := ["script", "box", "parts", "more", "k", "due", "frame", "machine"]
abbrev P_law : List Str := ["script"]
theorem sc_law : FnScope N_law P_law (defScope s_law) := ⟨rfl, rfl, rfl, by decide +kernel, rfl, by decide +kernel, by decide +kernel⟩
section
variable {P : Program} {w : World} {K : PySem.W.Frag} {mg : Str → Option Value} {base : Heap}
def Pt.wt (M : Pt) (l : List Int) : Nat := wFr M.c + (M.frs.map fun f => 1 + wFr f).sum + (l.map fun k => 1 + wOb (M.ob k)).sum
theorem w_ones (gs : List Fld) : (gs.map Fl2.one).map w2 = gs.map wF := by rw [List.map_map]; rfl
def spLive (K : PySem.W.Frag) (C : Addr) : Sp := fun vs H Q _ => ∃ (ma fl hl : Addr) (M : Pt) (m : Nat), vs = [.ref ma] ∧ MacAt K C H ma fl hl M ∧ PtSm m M ∧ 17 ≤ m ∧ m ≤ 500 ∧ ∀ H' t, Full M m t → Same H H' → Q (.int ((M.wt (M.st t) : Nat) : Int)) H'
theorem ok_live {C : Addr} {f : Addr} {fd : FuncData} (F : Fun K "live_size" "live_size" s_live_size f fd) (T : Txt K mg) (UC_Machine : UseC K mg "Machine" fM C) (U_CONTROLS : UseD P w K mg "CONTROLS" (txtKV controlsL)) (U_OBJECTS : UseD P w K mg "OBJECTS" (txtKV objectsL)) (U_weight : Use P w K mg base CX0 "_weight" 4 P_weight (spWeight K)) (U_size_of_frames : Use P w K mg base CX0 "_size_of_frames" 3 P_size_of_frames (spSizeL K))
    (U_reached : Use P w K mg base CX0 "reached" 6 P_reached (spReached K C)) : FnG P w K mg base CX0 7 f fd P_live_size (spLive K C) := by
  refine okG0 F sc_live_size (fun vs H Q E h => ?_) fun cdv A outer s H vs Q E hr hg h => ?_
  · obtain ⟨ma, fl, hl, M, m, rfl, _⟩ := h
    rfl
  · obtain ⟨ma, fl, hl, M, m, rfl, MA, sm, hm, hm2, k⟩ := h
    obtain ⟨aD_OBJECTS, gD_OBJECTS, kDO⟩ := U_OBJECTS.ex
    obtain ⟨aD_CONTROLS, gD_CONTROLS, kDC⟩ := U_CONTROLS.ex
    refine ⟨_, (pss_cons (ps_set (i := 1) sc_live_size.nd rfl (Or.inl rfl) (pe_use U_weight (hr.mono (by decide)) hg rfl (pa_cons (pe_dgetK (pe_glob (v := .ref aD_CONTROLS) (by rfl) gD_CONTROLS rfl) (pe_ix ix_tup (pe_fd UC_Machine (by decide +kernel) (pv 0)) pe_int (fun _ _ => rfl)) (fun _ _ => rfl)) (pa_cons (pe_fd UC_Machine (by decide +kernel) (pv 0)) pa_nil))))
  (pss_cons (ps_aug (i := 1) sc_live_size.nd rfl (Or.inl rfl) (pe_use U_size_of_frames (hr.mono (by decide)) hg rfl (pa_cons (pe_fd UC_Machine (by decide +kernel) (pv 0)) pa_nil)) ip_add)
  (pss_cons (ps_for PassesOwn.never rfl (pi_list (pe_use U_reached (hr.mono (by decide)) hg rfl (pa_cons (pv 0) pa_nil))) (pg_name (i := 2) sc_live_size.nd rfl (Or.inl rfl))
   (pss_cons (ps_set (i := 3) sc_live_size.nd rfl (Or.inl rfl) (pe_ix ix_list (pe_fd UC_Machine (by decide +kernel) (pv 0)) (pv 2) (fun _ _ => rfl)))
  (pss_one (ps_aug (i := 1) sc_live_size.nd rfl (Or.inl rfl) (pe_op op_add pe_int (pe_use U_weight (hr.mono (by decide)) hg rfl (pa_cons (pe_dgetK (pe_glob (v := .ref aD_OBJECTS) (by rfl) gD_OBJECTS rfl) (pe_ix ix_tup (pv 3) pe_int (fun _ _ => rfl)) (fun _ _ => rfl)) (pa_cons (pv 3) pa_nil)))) ip_add))))
  (pss_one (ps_ret (pv 1)))))), ?_⟩
    obtain ⟨vc, ⟨dx, em⟩, dvc⟩ := MA.ex
    obtain ⟨ys, ey, ay⟩ := id MA.f
    obtain ⟨xs, ex, ax⟩ := id MA.h
    obtain ⟨qc, wc, evc, hqc, _⟩ := (show Dt K H vc (.tuple (.str M.c.kd :: M.c.fs.map fldD)) from dvc).head
    refine ⟨_, rfl, ma, dx, _, _, rfl, em, mf_control, qc, _, _, _, evc, rfl, hqc, at0, aD_CONTROLS, _, .inr M.c.kd, _, rfl, kDC, rfl, tab_val controls_at sm.c.1, _, rfl, ma, dx, _, _, rfl, em, mf_control, vc, M.c.kd, M.c.fs.map .one, _, m, rfl, ones_l _, coTab_len sm.c.1, by rw [ones_D]; exact dvc, fun x hx => ?_, fun H1 S1 => ?_⟩
    · obtain ⟨y, hy, rfl⟩ := List.mem_map.mp hx
      exact sm.c.2 y hy
    rw [w_ones]
    refine ⟨_, rfl, _, rfl, ma, dx, _, _, rfl, S1 _ _ em, mf_frames, fl, ys, M.frs, m, rfl, SqL.of (S1 _ _ ey), ay.mono S1, by have := sm.fl; omega, sm.f, fun H2 S2 => ⟨_, _, rfl, rfl, ?_⟩⟩
    have S12 := S1.trans S2
    refine ⟨_, rfl, ma, fl, hl, M, m, rfl, MA.same S12, sm, hm, hm2, fun oa H3 t hoa S3 hend eo => ⟨oa, rfl, ⟨_, SqL.of eo⟩, ?_⟩⟩
    have full : Full M m t := ⟨sm, hm, hend⟩
    have S13 := S12.trans S3
    refine for_list (xs := (M.st t).map V.int) (fun i σ H' => ∃ (x2 x3 : Option V), σ = [some (.ref ma), some (.int ((wFr M.c + (M.frs.map fun f => 1 + wFr f).sum + (((M.st t).take i).map fun k => 1 + wOb (M.ob k)).sum : Nat) : Int)), x2, x3] ∧ Same H3 H') ⟨none, none, ?_, Same.refl _⟩ ?_ ?_ ?_
    · rw [List.take_zero]
      show (_ : L2.St) = ([_, some (V.int ((wFr M.c + (M.frs.map fun f => 1 + wFr f).sum + 0 : Nat) : Int)), _, _] : L2.St)
      rw [show ((wFr M.c + (M.frs.map fun f => 1 + wFr f).sum + 0 : Nat) : Int) = (((M.c.fs.map wF).sum : Nat) : Int) + (((M.frs.map fun f => 1 + wFr f).sum : Nat) : Int) by show (((M.c.fs.map wF).sum + (M.frs.map fun f => 1 + wFr f).sum + 0 : Nat) : Int) = _; omega]
      rfl
    · rintro i σ H' _ ⟨x2, x3, rfl, S'⟩
      exact SqL.of (S' _ _ eo)
    · rintro i y σ H4 hy ⟨x2, x3, rfl, S4⟩
      rw [List.getElem?_map] at hy
      obtain ⟨z, hz, rfl⟩ := Option.map_eq_some_iff.mp hy
      obtain ⟨j, rfl, ho, hos, hR, hsub⟩ := full.at (List.mem_of_getElem? hz)
      obtain ⟨v, hv, dv⟩ := ax.get (i := j) (d := obD (M.ob (j : Int))) (by rw [List.getElem?_map, ho]; rfl)
      have S14 := S13.trans S4
      have dy5 := dv.mono S14
      obtain ⟨q2, w2', ev, hq2, _⟩ := (show Dt K _ v (.tuple (.str (M.ob (j : Int)).kd :: (M.ob (j : Int)).fs.map fl2D)) from dy5).head
      rw [sum_take (f := fun k : Int => 1 + wOb (M.ob k)) hz]
      generalize (((M.st t).take i).map fun k => 1 + wOb (M.ob k)).sum = n1
      refine ⟨_, rfl, ma, dx, _, _, rfl, S14 _ _ em, mf_heap, _, rfl, hl, _, _, _, rfl, rfl, SqL.of (S14 _ _ ex), atI_nat hv, ?_⟩
      refine ⟨_, rfl, _, rfl, q2, _, _, _, ev, rfl, hq2, at0, aD_OBJECTS, _, .inr (M.ob (j : Int)).kd, _, rfl, kDO, rfl, tab_val objects_at hos.1, _, rfl, v, (M.ob (j : Int)).kd, (M.ob (j : Int)).fs, _, m, rfl, rfl, obTab_len10 hos.1, dy5, hos.2, fun H5 S5 => ⟨_, _, rfl, rfl, _, _, rfl, rfl, some (.int (j : Int)), some v, ?_, S4.trans S5⟩⟩
      rw [show ((wFr M.c + (M.frs.map fun f => 1 + wFr f).sum + (n1 + (1 + wOb (M.ob (j : Int)))) : Nat) : Int) = ((wFr M.c + (M.frs.map fun f => 1 + wFr f).sum + n1 : Nat) : Int) + (1 + ((((M.ob (j : Int)).fs.map w2).sum : Nat) : Int)) by show ((wFr M.c + (M.frs.map fun f => 1 + wFr f).sum + (n1 + (1 + ((M.ob (j : Int)).fs.map w2).sum)) : Nat) : Int) = _; omega]
      rfl
    · rintro σ H4 ⟨x2, x3, rfl, S4⟩
      rw [List.length_map, List.take_length]
      exact ⟨_, rfl, k H4 t full (S13.trans S4)⟩
/-! new numbers weigh the same -/
theorem wV_tv (l : List Int) (x : Val) : wV (tv l x) = wV x := by cases x <;> rfl
theorem vs_tf (l : List Int) (x : Fld) : fldVs (tf l x) = (fldVs x).map (tv l) := by
  cases x with
  | W ps =>
    show ((ps.map fun p => (tv l p.1, tv l p.2)).flatMap fun p => [p.1, p.2]) = (ps.flatMap fun p => [p.1, p.2]).map (tv l)
    rw [List.flatMap_map, List.map_flatMap]
    rfl
  | X ps =>
    show (ps.map fun p => (p.1, tv l p.2)).map (·.2) = (ps.map (·.2)).map (tv l)
    rw [List.map_map, List.map_map]
    rfl
  | _ => rfl
theorem wF_tf (l : List Int) (x : Fld) : wF (tf l x) = wF x := by
  unfold wF
  rw [vs_tf, List.map_map]
  congr 1
  exact List.map_congr_left fun y _ => wV_tv l y
theorem wFr_t (l : List Int) (f : Fr) : wFr (tfr l f) = wFr f := by
  show ((f.fs.map (tf l)).map wF).sum = (f.fs.map wF).sum
  rw [List.map_map]
  congr 1
  exact List.map_congr_left fun y _ => wF_tf l y
theorem w2_t (l : List Int) (x : Fl2) : w2 (tf2 l x) = w2 x := by
  cases x with
  | one x => exact wF_tf l x
  | fr fl =>
    show ((fl.map (tfr l)).map fun f => 1 + wFr f).sum = (fl.map fun f => 1 + wFr f).sum
    rw [List.map_map]
    congr 1
    exact List.map_congr_left fun y _ => by show 1 + wFr (tfr l y) = _; rw [wFr_t]
theorem wOb_t (l : List Int) (o : Ob) : wOb (tob l o) = wOb o := by
  show ((o.fs.map (tf2 l)).map w2).sum = (o.fs.map w2).sum
  rw [List.map_map]
  congr 1
  exact List.map_congr_left fun y _ => w2_t l y
theorem wt_ren (M : Pt) (l : List Int) : (renP M l).wt ((List.range l.length).map fun (i : Nat) => (i : Int)) = M.wt l := by
  unfold Pt.wt
  have h1 : wFr (renP M l).c = wFr M.c := wFr_t l M.c
  have h2 : ((renP M l).frs.map fun f => 1 + wFr f) = M.frs.map fun f => 1 + wFr f := by
    show ((M.frs.map (tfr l)).map fun f => 1 + wFr f) = _
    rw [List.map_map]
    exact List.map_congr_left fun y _ => by show 1 + wFr (tfr l y) = _; rw [wFr_t]
  have h3 : (((List.range l.length).map fun (i : Nat) => (i : Int)).map fun k => 1 + wOb ((renP M l).ob k)) = l.map fun k => 1 + wOb (M.ob k) := by
    refine List.ext_getElem? fun i => ?_
    rw [List.getElem?_map, List.getElem?_map, List.getElem?_map]
    by_cases c : i < l.length
    · have h : l[i]? = some l[i] := List.getElem?_eq_getElem c
      rw [h, List.getElem?_range c]
      show some (1 + wOb ((renP M l).ob (i : Int))) = some (1 + wOb (M.ob l[i]))
      have : (renP M l).ob (i : Int) = tob l (M.ob l[i]) := by
        unfold Pt.ob
        show ((l.map fun k => tob l (M.ob k))[(i : Int).toNat]?).getD _ = _
        rw [Int.toNat_natCast, List.getElem?_map, h]
        rfl
      rw [this, wOb_t]
    · rw [List.getElem?_eq_none (show (List.range l.length).length ≤ i by rw [List.length_range]; omega), List.getElem?_eq_none (show l.length ≤ i by omega)]
      rfl
  rw [h1, h2, h3]
--SPLIT
def spLaw (K : PySem.W.Frag) : Sp := fun vs H Q _ => ∃ (a : Addr) (ns : List Int), vs = [.ref a] ∧ SqL K H a (ns.map V.int) ∧ ns.length ≤ 63 ∧ ∀ H', Q (.bl true) H'
theorem ok_law {C : Addr} {f : Addr} {fd : FuncData} (F : Fun K "law" "law" s_law f fd) (T : Txt K mg) (UC_Machine : UseC K mg "Machine" fM C) (U_law_digits : Use P w K mg base CX0 "_law_digits" 2 P_law_digits (spDigits K)) (U_law_parts : Use P w K mg base CX0 "_law_parts" 14 P_law_parts (spParts K)) (U_law_draw : Use P w K mg base CX0 "_law_draw" 1 P_law_draw (spDraw K)) (U_law_objects : Use P w K mg base CX0 "_law_objects" 1 P_law_objects (spTab obTab)) (U_law_shape : Use P w K mg base CX0 "_law_shape" 12 P_law_shape (spShape2 K))
    (U_law_controls : Use P w K mg base CX0 "_law_controls" 1 P_law_controls (spTab coTab)) (U_law_frames : Use P w K mg base CX0 "_law_frames" 1 P_law_frames (spTab frTab)) (U_law_weights : Use P w K mg base CX0 "_law_weights" 3 P_law_weights (spLWeights K)) (U_law_reached : Use P w K mg base CX0 "_law_reached" 4 P_law_reached (spLReached K)) (U_law_made : Use P w K mg base CX0 "_law_made" 3 P_law_made (spMadeM K C)) (U_live_size : Use P w K mg base CX0 "live_size" 7 P_live_size (spLive K C))
    (U_law_same : Use P w K mg base CX0 "_law_same" 9 P_law_same (spSameD K 7)) (U_law_machine_is : Use P w K mg base CX0 "_law_machine_is" 10 P_law_machine_is (spMis K C)) (U_renumber : Use P w K mg base CX0 "renumber" 7 P_renumber (spRenumber K C)) : FnG P w K mg base CX0 15 f fd P_law (spLaw K) := by
  refine okG0 F sc_law (fun vs H Q E h => ?_) fun cdv A outer s H vs Q E hr hg h => ?_
  · obtain ⟨a, ns, rfl, _⟩ := h
    rfl
  · obtain ⟨a, ns, rfl, hs, hn, k⟩ := h
    refine ⟨_, (pss_cons (ps_set (i := 1) sc_law.nd rfl (Or.inr rfl) (pe_lst (pa_cons (pe_use U_law_digits (hr.mono (by decide)) hg rfl (pa_cons (pv 0) (pa_cons pe_int (pa_cons pe_int pa_nil)))) (pa_cons pe_int pa_nil))))
  (pss_cons (ps_set (i := 2) sc_law.nd rfl (Or.inr rfl) (pe_use U_law_parts (hr.mono (by decide)) hg rfl (pa_cons (pv 1) pa_nil)))
  (C8.pss_cut (ps_if (pt_cmpR op_eq (pe_use U_law_draw (hr.mono (by decide)) hg rfl (pa_cons (pv 1) (pa_cons pe_int pa_nil))) pe_int (nomark _))
   (pss_cons (ps_setLc (i := 3) (own := [("k", 4)]) (g := (gName 4)) rfl sc_law.nd rfl rfl (sw_true rfl rfl rfl (by decide +kernel)) (pi_range1 (by rfl) T.b_range (pa_cons (pe_op op_add pe_int (pe_use U_law_draw (hr.mono (by decide)) hg rfl (pa_cons (pv 1) (pa_cons pe_int pa_nil)))) pa_nil)) (blkOk_by (N := N_law) (sc := defScope s_law) (by decide +kernel)) (fun _ _ _ _ _ => (pg_name (i := 4) sc_law.nd rfl (Or.inl rfl))) (fun _ _ _ _ _ => pts_nil) (fun _ _ _ _ _ => (pe_use U_law_shape (hr.mono (by decide)) hg rfl (pa_cons (pv 1) (pa_cons (pe_use0 U_law_objects (hr.mono (by decide)) hg rfl) (pa_cons (pe_callB (call_lenK (K := K) rfl) (by rfl) T.b_len PySem.boot_len (pa_cons (pe_ix (ix_list : IxR _ (rIxL K)) (pv 2) pe_int (fun _ _ => rfl)) pa_nil)) pa_nil))))))
  (pss_one (ps_set (i := 2) sc_law.nd rfl (Or.inr rfl) (pe_op op_cat (pe_lst (pa_cons (pe_ix ix_list (pv 2) pe_int (fun _ _ => rfl)) (pa_cons (pe_ix ix_list (pv 2) pe_int (fun _ _ => rfl)) (pa_cons (pe_op op_cat (pe_ix ix_list (pv 2) pe_int (fun _ _ => rfl)) (pv 3)) pa_nil)))) (pe_slice sl_list (pv 2) (po_some pe_int) po_none)))))
   pss_nil)
  (pss_cons (ps_set (i := 5) sc_law.nd rfl (Or.inl rfl) (pe_use U_law_weights (hr.mono (by decide)) hg rfl (pa_cons (pe_use0 U_law_controls (hr.mono (by decide)) hg rfl) (pa_cons (pe_ix ix_list (pv 2) pe_int (fun _ _ => rfl)) pa_nil))))
  (pss_cons (ps_for PassesOwn.never rfl (pi_list (pe_ix ix_list (pv 2) pe_int (fun _ _ => rfl))) (pg_name (i := 6) sc_law.nd rfl (Or.inl rfl))
   (pss_one (ps_set (i := 5) sc_law.nd rfl (Or.inl rfl) (pe_op op_add (pe_op op_add (pv 5) pe_int) (pe_use U_law_weights (hr.mono (by decide)) hg rfl (pa_cons (pe_use0 U_law_frames (hr.mono (by decide)) hg rfl) (pa_cons (pv 6) pa_nil)))))))
  (pss_cons (ps_for PassesOwn.never rfl (pi_list (pe_use U_law_reached (hr.mono (by decide)) hg rfl (pa_cons (pv 2) pa_nil))) (pg_name (i := 4) sc_law.nd rfl (Or.inl rfl))
   (pss_one (ps_set (i := 5) sc_law.nd rfl (Or.inl rfl) (pe_op op_add (pe_op op_add (pv 5) pe_int) (pe_use U_law_weights (hr.mono (by decide)) hg rfl (pa_cons (pe_use0 U_law_objects (hr.mono (by decide)) hg rfl) (pa_cons (pe_ix ix_list (pe_ix ix_list (pv 2) pe_int (fun _ _ => rfl)) (pv 4) (fun _ _ => rfl)) pa_nil)))))))
  (pss_cons (ps_set (i := 7) sc_law.nd rfl (Or.inl rfl) (pe_use U_law_made (hr.mono (by decide)) hg rfl (pa_cons (pv 2) pa_nil)))
  (pss_cons (ps_if (PW.pt (pw_or (pt_not (pt_val (pe_use U_law_same (hr.mono (by decide)) hg rfl (pa_cons (pe_use U_live_size (hr.mono (by decide)) hg rfl (pa_cons (pv 7) pa_nil)) (pa_cons (pv 5) pa_nil))))) (pw_or1 (pt_not (pt_val (pe_use U_law_machine_is (hr.mono (by decide)) hg rfl (pa_cons (pv 7) (pa_cons (pv 2) pa_nil))))))))
   (pss_one (ps_ret pe_bl))
   pss_nil)
  (pss_one (ps_ret (pe_use U_law_same (hr.mono (by decide)) hg rfl (pa_cons (pe_use U_live_size (hr.mono (by decide)) hg rfl (pa_cons (pe_use U_renumber (hr.mono (by decide)) hg rfl (pa_cons (pv 7) pa_nil)) pa_nil)) (pa_cons (pv 5) pa_nil))))))))))))), ?_⟩
    refine ⟨_, rfl, a, ns, 0, 63, rfl, hs, by decide, by decide, fun dl H1 nd D => ?_⟩
    obtain ⟨ds, hd, hl, hds, S1⟩ := D
    refine ⟨sz_2, fun p hp0 => ?_⟩
    have B0 : BoxAt (upd H1 p (.lst [.ref dl, .int 0])) p dl := ⟨ds, 0, upd_same, by decide, by rw [upd_ne (ne_of_none hd hp0)]; exact hd, hl, hds⟩
    generalize upd H1 p (.lst [.ref dl, .int 0]) = H2 at B0
    clear hd hds S1 hp0
    obtain ⟨_, eb⟩ := B0.at_
    refine ⟨_, rfl, p, dl, rfl, B0, fun lp fl hl m M H3 PA sm hm hm2 n1 n2 n3 hlf B3 K3 => ?_⟩
    have np1 := Ne.symm (ne_of_none eb n1)
    have np2 := Ne.symm (ne_of_none eb n3)
    have np3 := Ne.symm (ne_of_none eb n2)
    refine ⟨fun σ H' => ∃ (x3 : Option V) (lp fl hl : Addr) (m : Nat) (M : Pt), σ = [some (.ref a), some (.ref p), some (.ref lp), x3, none, none, none, none] ∧ PtAt K H' lp fl hl M ∧ PtSm m M ∧ 17 ≤ m ∧ m ≤ 40, ?_, ?_⟩
    · refine ⟨_, rfl, p, dl, 2, rfl, B3, by decide, fun r H4 r0 r1 B4 K4 => ⟨rfl, _, rfl, ?_⟩⟩
      have PA4 : PtAt K H4 lp fl hl M := ⟨let ⟨v, e, d⟩ := PA.ex; ⟨v, K4 _ _ e np1, d.keepT (K4.keepT B3.at_)⟩, listAt_keep PA.f K4 np2 B3.at_, listAt_keep PA.h K4 np3 B3.at_⟩
      refine ite3 (fun c => ?_) fun c => ⟨_, lp, fl, hl, m, M, rfl, PA4, sm, hm, by omega⟩
      refine ⟨_, rfl, p, dl, 5, rfl, B4, by decide, fun r2 H5 s0 s1 B5 K5 => ⟨_, _, rfl, rfl, _, rfl, by omega, by omega, fun D hD => ?_⟩⟩
      have PA5 : PtAt K H5 lp fl hl M := ⟨let ⟨v, e, d⟩ := PA4.ex; ⟨v, K5 _ _ e np1, d.keepT (K5.keepT B4.at_)⟩, listAt_keep PA4.f K5 np2 B4.at_, listAt_keep PA4.h K5 np3 B4.at_⟩
      obtain ⟨vc, el, dvc⟩ := PA5.ex
      obtain ⟨xs, ex, ax⟩ := id PA5.h
      have hxl : xs.length = m := by rw [ax.length, List.length_map, sm.ol]
      refine lc_it (walk_range (lo := 0) (n := (1 + r2).toNat)) (fun i H' => Acc K H5 D p dl (fun d => ∃ o, d = obD o ∧ ObSm m o) i H') (Acc.start hD B5) (fun _ _ _ _ => trivial) ?_ ?_
      · rintro i x H6 H7 hi A ⟨rfl, rfl⟩
        refine ⟨rfl, tYes_of ?_⟩
        obtain ⟨_, _, _, _, _, _, B6, K6⟩ := id A
        refine ⟨_, rfl, rfl, fun tl H8 S8 T8 => ?_⟩
        refine ⟨_, rfl, lp, _, _, _, rfl, rfl, SqL.of (S8 _ _ (K6 _ _ el np1)), at2, _, _, rfl, .inl ⟨_, SqL.of (S8 _ _ (K6 _ _ ex np3)), rfl⟩, ?_⟩
        rw [hxl]
        refine ⟨p, dl, tl, obTab, m, rfl, T8, by decide, by decide, obTab_ok, by omega, by omega, B6.same S8, fun v kd fs H9 hmem dv hfs B9 K9 => ?_⟩
        exact A.put (by omega) hD B5 B9 ((Same.keep S8).trans K9) dv ⟨⟨kd, fs⟩, rfl, hmem, hfs⟩
      rintro H6 ⟨acc, ds, e6, a6, hl6, hp6, B6, K6⟩
      obtain ⟨more, rfl, hmore⟩ := ex_map hp6
      rw [List.length_map] at hl6
      have PA6 : PtAt K H6 lp fl hl M := ⟨let ⟨v, e, d⟩ := PA5.ex; ⟨v, K6 _ _ e np1, d.keepT (K6.keepT B5.at_)⟩, listAt_keep PA5.f K6 np2 B5.at_, listAt_keep PA5.h K6 np3 B5.at_⟩
      have el6 := K6 _ _ el np1
      have ex6 := K6 _ _ ex np3
      have dv6 := dvc.keepT (K6.keepT B5.at_)
      have ax6 := ax.keepT (K6.keepT B5.at_)
      have hal := a6.length
      rw [List.length_map] at hal
      refine ⟨_, rfl, lp, _, _, _, rfl, rfl, SqL.of el6, at0, _, rfl, lp, _, _, _, rfl, rfl, SqL.of el6, at1, _, rfl, lp, _, _, _, rfl, rfl, SqL.of el6, at2, _, rfl, hl, D, _, _, rfl, rfl, ex6, e6, by rw [hxl, hal]; exact Nat.le_trans (show _ ≤ 100 by omega) (by decide), fun nh hnh => ⟨sz_3, fun q hq => ?_⟩⟩
      have S7 := Same.new (o := .lst (xs ++ acc)) hnh
      have S8 := Same.new (o := .lst [vc, .ref fl, .ref nh]) hq
      refine ⟨_, rfl, _, rfl, lp, _, rfl, SqL.of ((S7.trans S8) _ _ el6), fun q2 hq2 => ?_⟩
      have S9 := Same.new (o := .lst (cutV [vc, .ref fl, .ref hl, .str M.out, .int M.act, .str M.here, .int M.line, .int M.steps] (some 3) none)) hq2
      refine ⟨q, q2, _, _, rfl, rfl, S9 _ _ upd_same, upd_same, by show 8 ≤ sizeLine; decide, fun lq hlq => ?_⟩
      have S10 := Same.new (o := .lst ([vc, .ref fl, .ref nh] ++ cutV [vc, .ref fl, .ref hl, .str M.out, .int M.act, .str M.here, .int M.line, .int M.steps] (some 3) none)) hlq
      have S810 := (S8.trans S9).trans S10
      have S710 := S7.trans S810
      refine ⟨_, lq, fl, nh, m + more.length, ⟨M.c, M.frs, M.obs ++ more, M.out, M.act, M.here, M.line, M.steps⟩, rfl, ⟨⟨vc, upd_same, dv6.mono S710⟩, listAt_mono PA6.f S710, ⟨_, S810 _ _ upd_same, ?_⟩⟩, ⟨⟨sm.c.1, fun x hx => (sm.c.2 x hx).up (by omega)⟩, sm.fl, fun f hf => (sm.f f hf).up (by omega), by show (M.obs ++ more).length = _; rw [List.length_append, sm.ol], fun o ho => ?_⟩, by omega, by omega⟩
      · show DtAll K _ _ ((M.obs ++ more).map obD)
        rw [List.map_append]
        exact DtAll.app (ax6.mono S710) (a6.mono S710)
      · rcases List.mem_append.mp ho with h | h
        · exact (sm.o o h).up (by omega)
        · exact (hmore o h).up (by omega)
    clear PA sm hm hm2 n1 n2 n3 np1 np2 np3 B3 K3 hlf
    rintro _ H4 ⟨x3, lp, fl, hl, m, M, rfl, PA, sm, hm, hm2⟩
    obtain ⟨vc, el, dvc⟩ := PA.ex
    obtain ⟨ys, ey, ay⟩ := id PA.f
    obtain ⟨xs, ex, ax⟩ := id PA.h
    have hyl : ys.length = M.frs.length := by rw [ay.length, List.length_map]
    have hcl := coTab_len sm.c.1
    rw [List.length_map] at hcl
    refine ⟨rfl, fun tl H5 S5 T5 => ⟨_, rfl, lp, _, _, _, rfl, rfl, SqL.of (S5 _ _ el), at0, tl, vc, coTab, M.c.kd, M.c.fs.map .one, m, rfl, T5, coTab_nd, by rw [ones_l]; exact sm.c.1, by rw [List.length_map]; exact hcl, by rw [ones_D]; exact dvc.mono S5, fun x hx => ?_, fun H6 S6 => ?_⟩⟩
    · obtain ⟨y, hy, rfl⟩ := List.mem_map.mp hx
      exact sm.c.2 y hy
    rw [w_ones]
    have S46 := S5.trans S6
    refine ⟨_, rfl, lp, _, _, _, rfl, rfl, SqL.of (S46 _ _ el), at1, fl, rfl, ⟨_, SqL.of (S46 _ _ ey)⟩, ?_⟩
    refine for_list (xs := ys) (fun i σ H' => ∃ (x6 : Option V), σ = [some (.ref a), some (.ref p), some (.ref lp), x3, none, some (.int ((wFr M.c + ((M.frs.take i).map fun f => 1 + wFr f).sum : Nat) : Int)), x6, none] ∧ Same H4 H') ⟨none, rfl, S46⟩ ?_ ?_ ?_
    · rintro i σ H' _ ⟨x6, rfl, S'⟩
      exact SqL.of (S' _ _ ey)
    · rintro i v σ H7 hv ⟨x6, rfl, S7⟩
      obtain ⟨d, hd, dv⟩ := ay.getV hv
      rw [List.getElem?_map] at hd
      obtain ⟨g, hgm, rfl⟩ := Option.map_eq_some_iff.mp hd
      have hgs := sm.f g (List.mem_of_getElem? hgm)
      have hgl := frTab_len10 hgs.1
      rw [List.length_map] at hgl
      rw [sum_take (f := fun f : Fr => 1 + wFr f) hgm]
      generalize ((M.frs.take i).map fun f => 1 + wFr f).sum = n1
      refine ⟨_, rfl, _, _, rfl, rfl, rfl, fun tl' H8 S8 T8 => ⟨_, rfl, tl', v, frTab, g.kd, g.fs.map .one, m, rfl, T8, frTab_nd, by rw [ones_l]; exact hgs.1, by rw [List.length_map]; exact hgl, by rw [ones_D]; exact dv.mono (S7.trans S8), fun x hx => ?_, fun H9 S9 => ⟨_, _, rfl, rfl, some v, ?_, (S7.trans S8).trans S9⟩⟩⟩
      · obtain ⟨y, hy, rfl⟩ := List.mem_map.mp hx
        exact hgs.2 y hy
      · rw [w_ones, show ((wFr M.c + (n1 + (1 + wFr g)) : Nat) : Int) = ((wFr M.c + n1 : Nat) : Int) + 1 + (((g.fs.map wF).sum : Nat) : Int) by show ((wFr M.c + (n1 + (1 + (g.fs.map wF).sum)) : Nat) : Int) = _; omega]
        rfl
    rintro σ H7 ⟨x6, rfl, S7⟩
    rw [hyl, List.take_length]
    -- what is reached
    refine ⟨_, rfl, lp, fl, hl, M, m, rfl, PA.same S7, sm, hm, by omega, fun oa H8 t hoa S8 hend eo => ⟨oa, rfl, ⟨_, SqL.of eo⟩, ?_⟩⟩
    have full : Full M m t := ⟨sm, hm, hend⟩
    have S48 := S7.trans S8
    refine for_list (xs := (M.st t).map V.int) (fun i σ H' => ∃ (x4 : Option V), σ = [some (.ref a), some (.ref p), some (.ref lp), x3, x4, some (.int ((wFr M.c + (M.frs.map fun f => 1 + wFr f).sum + (((M.st t).take i).map fun k => 1 + wOb (M.ob k)).sum : Nat) : Int)), x6, none] ∧ Same H8 H') ⟨none, rfl, Same.refl _⟩ ?_ ?_ ?_
    · rintro i σ H' _ ⟨x4, rfl, S'⟩
      exact SqL.of (S' _ _ eo)
    · rintro i y σ H9 hy ⟨x4, rfl, S9⟩
      rw [List.getElem?_map] at hy
      obtain ⟨z, hz, rfl⟩ := Option.map_eq_some_iff.mp hy
      obtain ⟨j, rfl, ho, hos, hR, hsub⟩ := full.at (List.mem_of_getElem? hz)
      obtain ⟨v, hv, dv⟩ := ax.get (i := j) (d := obD (M.ob (j : Int))) (by rw [List.getElem?_map, ho]; rfl)
      have hol := obTab_len10 hos.1
      rw [List.length_map] at hol
      rw [sum_take (f := fun k : Int => 1 + wOb (M.ob k)) hz]
      generalize (((M.st t).take i).map fun k => 1 + wOb (M.ob k)).sum = n1
      refine ⟨_, rfl, _, _, rfl, rfl, rfl, fun tl' H10 S10 T10 => ?_⟩
      have S410 := (S48.trans S9).trans S10
      refine ⟨_, rfl, lp, _, _, _, rfl, rfl, SqL.of (S410 _ _ el), at2, _, rfl, hl, _, _, _, rfl, rfl, SqL.of (S410 _ _ ex), atI_nat hv, tl', v, obTab, (M.ob (j : Int)).kd, (M.ob (j : Int)).fs, m, rfl, T10, obTab_nd, hos.1, hol, dv.mono S410, hos.2, fun H11 S11 => ⟨_, _, rfl, rfl, some (.int (j : Int)), ?_, (S9.trans S10).trans S11⟩⟩
      rw [show ((wFr M.c + (M.frs.map fun f => 1 + wFr f).sum + (n1 + (1 + wOb (M.ob (j : Int)))) : Nat) : Int) = ((wFr M.c + (M.frs.map fun f => 1 + wFr f).sum + n1 : Nat) : Int) + 1 + ((((M.ob (j : Int)).fs.map w2).sum : Nat) : Int) by show ((wFr M.c + (M.frs.map fun f => 1 + wFr f).sum + (n1 + (1 + ((M.ob (j : Int)).fs.map w2).sum)) : Nat) : Int) = _; omega]
      rfl
    rintro σ H9 ⟨x4, rfl, S9⟩
    rw [List.length_map, List.take_length, show wFr M.c + (M.frs.map fun f => 1 + wFr f).sum + ((M.st t).map fun k => 1 + wOb (M.ob k)).sum = M.wt (M.st t) from rfl]
    have S49 := S48.trans S9
    have hlm := sm.stlen hm t
    refine ⟨_, rfl, lp, fl, hl, M, rfl, PA.same S49, fun ma fl' hl' H10 MA S10 _ _ _ _ => ?_⟩
    have S410 := S49.trans S10
    refine ⟨_, rfl, ma, fl', hl', M, m, rfl, MA, sm, hm, by omega, fun H11 t' full' S11 => ?_⟩
    obtain rfl := full.e.uniq full'.e
    refine ⟨_, rfl, _, _, .int _, rfl, .int _, .int _, .int _, true, rfl, iteFb rfl ?_⟩
    refine ⟨_, rfl, _, rfl, ma, fl', hl', lp, fl, hl, M, m, rfl, MA.same S11, PA.same (S410.trans S11), sm, by omega, fun H12 S12 => ⟨true, rfl, iteFb rfl ?_⟩⟩
    refine ⟨_, rfl, ma, fl', hl', M, m, rfl, (MA.same S11).same S12, sm, hm, by omega, fun mb fb hb t2 H13 full2 MB S13 _ _ _ _ => ?_⟩
    obtain rfl := full.e.uniq full2.e
    refine ⟨mb, fb, hb, _, _, rfl, MB, full.ren, St_len17 t, by omega, fun H14 t3 full3 S14 => ?_⟩
    obtain rfl := full.again.e.uniq full3.e
    rw [full.st2, wt_ren]
    exact ⟨_, rfl, _, _, .int _, rfl, .int _, .int _, .int _, k _⟩
end
theorem walk_mk {l : PySem.W.OpenLaw} {w : World} {K : PySem.W.Frag} {h : Heap} {mg : Str → Option Value} {fa : Addr} (X : K.In h) (G : h.Ns mainGlobals mg) (hfa : mg "law" = some (.ref fa))
    {C_Machine : Addr} (k_Machine : ClsK K "Machine" ["control", "frames", "heap", "out", "active", "here", "line", "steps"] C_Machine)
    (f0 : HasFn K "_law_cell" s_law_cell)
    (f1 : HasFn K "_law_digits" s_law_digits)
    (f2 : HasFn K "_law_draw" s_law_draw)
    (f3 : HasFn K "_law_number" s_law_number)
    (f4 : HasFn K "_law_signs" s_law_signs)
    (f5 : HasFn K "_law_text" s_law_text)
    (f6 : HasFn K "_law_name" s_law_name)
    (f7 : HasFn K "_law_value" s_law_value)
    (f8 : HasFn K "_law_tree" s_law_tree)
    (f9 : HasFn K "_law_tree" s_law_tree)
    (f10 : HasFn K "_law_tree" s_law_tree)
    (f11 : HasFn K "_law_tree" s_law_tree)
    (f12 : HasFn K "_law_field" s_law_field)
    (f13 : HasFn K "_law_shape_of" s_law_shape_of)
    (f14 : HasFn K "_law_shape" s_law_shape)
    (f15 : HasFn K "_law_controls" s_law_controls)
    (f16 : HasFn K "_law_frames" s_law_frames)
    (f17 : HasFn K "_law_field" s_law_field)
    (f18 : HasFn K "_law_objects" s_law_objects)
    (f19 : HasFn K "_law_shape_of" s_law_shape_of)
    (f20 : HasFn K "_law_shape" s_law_shape)
    (f21 : HasFn K "_law_heap" s_law_heap)
    (f22 : HasFn K "_law_parts" s_law_parts)
    (f23 : HasFn K "_law_letters" s_law_letters)
    (f24 : HasFn K "_law_values" s_law_values)
    (f25 : HasFn K "_law_weight" s_law_weight)
    (f26 : HasFn K "_law_weights" s_law_weights)
    (f27 : HasFn K "_law_weights" s_law_weights)
    (f28 : HasFn K "_law_values" s_law_values)
    (f29 : HasFn K "_law_refs" s_law_refs)
    (f30 : HasFn K "_law_refs" s_law_refs)
    (f31 : HasFn K "_law_reached" s_law_reached)
    (f32 : HasMeth K C_Machine "__init__" "Machine.__init__" s_Machine___init__)
    (f33 : HasFn K "_law_made" s_law_made)
    (f34 : HasFn K "_values" s_values)
    (f35 : HasFn K "_weight" s_weight)
    (f36 : HasFn K "_size_of_frames" s_size_of_frames)
    (f37 : HasFn K "_weight" s_weight)
    (f38 : HasFn K "_size_of_frames" s_size_of_frames)
    (f39 : HasFn K "_add_new" s_add_new)
    (f40 : HasFn K "_values" s_values)
    (f41 : HasFn K "_references" s_references)
    (f42 : HasFn K "control_references" s_control_references)
    (f43 : HasFn K "frame_references" s_frame_references)
    (f44 : HasFn K "_references" s_references)
    (f45 : HasFn K "object_references" s_object_references)
    (f46 : HasFn K "reached" s_reached)
    (f47 : HasFn K "live_size" s_live_size)
    (f48 : HasFn K "_law_is_integer" s_law_is_integer)
    (f49 : HasFn K "_law_same" s_law_same)
    (f50 : HasFn K "_law_same" s_law_same)
    (f51 : HasFn K "_law_same" s_law_same)
    (f52 : HasFn K "_law_same" s_law_same)
    (f53 : HasFn K "_law_same" s_law_same)
    (f54 : HasFn K "_law_same" s_law_same)
    (f55 : HasFn K "_law_same" s_law_same)
    (f56 : HasFn K "_law_same" s_law_same)
    (f57 : HasFn K "_law_machine_is" s_law_machine_is)
    (f58 : HasFn K "_new_value" s_new_value)
    (f59 : HasFn K "_with_numbers" s_with_numbers)
    (f60 : HasFn K "_renumbered" s_renumbered)
    (f61 : HasFn K "_with_numbers" s_with_numbers)
    (f62 : HasFn K "_renumbered" s_renumbered)
    (f63 : HasFn K "renumber" s_renumber)
    (f64 : HasFn K "law" s_law)
    (c0 : HasInt K "FIRST_OBJECTS" 17)
    (b_len : PySem.W.nsIn K mainGlobals "len" = some none)
    (b_int : PySem.W.nsIn K mainGlobals "int" = some none)
    (b_range : PySem.W.nsIn K mainGlobals "range" = some none)
    (b_list : PySem.W.nsIn K mainGlobals "list" = some none)
    (b_tuple : PySem.W.nsIn K mainGlobals "tuple" = some none)
    (b_isinstance : PySem.W.nsIn K mainGlobals "isinstance" = some none)
    (b_bool : PySem.W.nsIn K mainGlobals "bool" = some none)
    (b_str : PySem.W.nsIn K mainGlobals "str" = some none)
    (b_abs : PySem.W.nsIn K mainGlobals "abs" = some none)
    (b_zip : PySem.W.nsIn K mainGlobals "zip" = some none)
    (b_enumerate : PySem.W.nsIn K mainGlobals "enumerate" = some none)
    (b_sum : PySem.W.nsIn K mainGlobals "sum" = some none)
    (d_CONTROLS : HasDct l.prog w K "CONTROLS" (txtKV controlsL))
    (d_OBJECTS : HasDct l.prog w K "OBJECTS" (txtKV objectsL))
    (d_FIELDS : HasDct l.prog w K "FIELDS" (txtKV fieldsL)) :
    ∃ fd : FuncData, (∀ (s : Shared) (v : Value), BindsTo s fd ⟨[v], []⟩ [("script", v)]) ∧ ∀ base : Heap, K.In base → base.Ns mainGlobals mg → FnG l.prog w K mg base CX0 15 fa fd ["script"] (spLaw K) := by
  have T : Txt K mg := ⟨c0.g X G, PySem.W.mg_none_of X G b_len, PySem.W.mg_none_of X G b_int, PySem.W.mg_none_of X G b_range, PySem.W.mg_none_of X G b_list, PySem.W.mg_none_of X G b_tuple, PySem.W.mg_none_of X G b_isinstance, PySem.W.mg_none_of X G b_bool, PySem.W.mg_none_of X G b_str, PySem.W.mg_none_of X G b_abs, PySem.W.mg_none_of X G b_zip, PySem.W.mg_none_of X G b_enumerate, PySem.W.mg_none_of X G b_sum⟩
  refine law_use f64 X G hfa (fun _ _ _ _ _ _ _ => rfl) fun base X' G' fd F => ?_
  have U_CONTROLS : UseD l.prog w K mg "CONTROLS" _ := d_CONTROLS.g X G
  have U_OBJECTS : UseD l.prog w K mg "OBJECTS" _ := d_OBJECTS.g X G
  have U_FIELDS : UseD l.prog w K mg "FIELDS" _ := d_FIELDS.g X G
  have UC_Machine := k_Machine.g X G
  have U_law_cell := mk_use (P := l.prog) (w := w) (mg := mg) (base := base) f0 X G (fun _ _ _ _ _ _ us hl => match us, hl with | [_, _], _ => rfl) fun f fd F => ok_cell F T 
  have U_law_digits := mk_use (P := l.prog) (w := w) (mg := mg) (base := base) f1 X G (fun _ _ _ _ _ _ us hl => match us, hl with | [_, _, _], _ => rfl) fun f fd F => ok_digits F T U_law_cell
  have U_law_draw := mk_use (P := l.prog) (w := w) (mg := mg) (base := base) f2 X G (fun _ _ _ _ _ _ us hl => match us, hl with | [_, _], _ => rfl) fun f fd F => ok_draw F T 
  have U_law_number := mk_use (P := l.prog) (w := w) (mg := mg) (base := base) f3 X G (fun _ _ _ _ _ _ us hl => match us, hl with | [_], _ => rfl) fun f fd F => ok_number F T U_law_draw
  have U_law_signs := mk_use (P := l.prog) (w := w) (mg := mg) (base := base) f4 X G (fun _ _ _ _ _ _ us hl => match us, hl with | [], _ => rfl) fun f fd F => ok_signs F T 
  have U_law_text := mk_use (P := l.prog) (w := w) (mg := mg) (base := base) f5 X G (fun _ _ _ _ _ _ us hl => match us, hl with | [_, _], _ => rfl) fun f fd F => ok_text F T U_law_signs U_law_draw
  have U_law_name := mk_use (P := l.prog) (w := w) (mg := mg) (base := base) f6 X G (fun _ _ _ _ _ _ us hl => match us, hl with | [_], _ => rfl) fun f fd F => ok_name F T U_law_draw
  have U_law_value := mk_use (P := l.prog) (w := w) (mg := mg) (base := base) f7 X G (fun _ _ _ _ _ _ us hl => match us, hl with | [_, _], _ => rfl) fun f fd F => ok_value F T U_law_draw U_law_number U_law_text U_law_name
  have U_law_tree0 := mk_use (P := l.prog) (w := w) (mg := mg) (base := base) f8 X G (fun _ _ _ _ _ _ us hl => match us, hl with | [_, _], _ => rfl) fun f fd F => ok_tree0 F T U_law_draw U_law_text U_law_number U_law_name
  have U_law_tree1 := mk_use (P := l.prog) (w := w) (mg := mg) (base := base) f9 X G (fun _ _ _ _ _ _ us hl => match us, hl with | [_, _], _ => rfl) fun f fd F => ok_tree1 F T U_law_draw U_law_text U_law_number U_law_name U_law_tree0
  have U_law_tree2 := mk_use (P := l.prog) (w := w) (mg := mg) (base := base) f10 X G (fun _ _ _ _ _ _ us hl => match us, hl with | [_, _], _ => rfl) fun f fd F => ok_tree2 F T U_law_draw U_law_text U_law_number U_law_name U_law_tree1
  have U_law_tree3 := mk_use (P := l.prog) (w := w) (mg := mg) (base := base) f11 X G (fun _ _ _ _ _ _ us hl => match us, hl with | [_, _], _ => rfl) fun f fd F => ok_tree3 F T U_law_draw U_law_text U_law_number U_law_name U_law_tree2
  have U_law_field0 := mk_use (P := l.prog) (w := w) (mg := mg) (base := base) f12 X G (fun _ _ _ _ _ _ us hl => match us, hl with | [_, _, _], _ => rfl) fun f fd F => ok_field0 F T U_law_draw U_law_value U_law_name U_law_number U_law_tree3
  have U_law_shape_of0 := mk_use (P := l.prog) (w := w) (mg := mg) (base := base) f13 X G (fun _ _ _ _ _ _ us hl => match us, hl with | [_, _, _], _ => rfl) fun f fd F => ok_shapeof0 F T U_law_field0
  have U_law_shape := mk_use (P := l.prog) (w := w) (mg := mg) (base := base) f14 X G (fun _ _ _ _ _ _ us hl => match us, hl with | [_, _, _], _ => rfl) fun f fd F => ok_shape F T U_law_draw U_law_shape_of0
  have U_law_controls := mk_use (P := l.prog) (w := w) (mg := mg) (base := base) f15 X G (fun _ _ _ _ _ _ us hl => match us, hl with | [], _ => rfl) fun f fd F => ok_controls F T 
  have U_law_frames := mk_use (P := l.prog) (w := w) (mg := mg) (base := base) f16 X G (fun _ _ _ _ _ _ us hl => match us, hl with | [], _ => rfl) fun f fd F => ok_frames F T 
  have U_law_field := mk_use (P := l.prog) (w := w) (mg := mg) (base := base) f17 X G (fun _ _ _ _ _ _ us hl => match us, hl with | [_, _, _], _ => rfl) fun f fd F => ok_field F T U_law_draw U_law_value U_law_name U_law_number U_law_tree3 U_law_frames U_law_shape
  have U_law_objects := mk_use (P := l.prog) (w := w) (mg := mg) (base := base) f18 X G (fun _ _ _ _ _ _ us hl => match us, hl with | [], _ => rfl) fun f fd F => ok_objects F T 
  have U_law_shape_of := mk_use (P := l.prog) (w := w) (mg := mg) (base := base) f19 X G (fun _ _ _ _ _ _ us hl => match us, hl with | [_, _, _], _ => rfl) fun f fd F => ok_shapeof F T U_law_field
  have U_shape2 := mk_use (P := l.prog) (w := w) (mg := mg) (base := base) f20 X G (fun _ _ _ _ _ _ us hl => match us, hl with | [_, _, _], _ => rfl) fun f fd F => ok_shape2 F T U_law_draw U_law_shape_of
  have U_law_heap := mk_use (P := l.prog) (w := w) (mg := mg) (base := base) f21 X G (fun _ _ _ _ _ _ us hl => match us, hl with | [_, _], _ => rfl) fun f fd F => ok_heap F T U_law_field U_law_objects U_shape2
  have U_law_parts := mk_use (P := l.prog) (w := w) (mg := mg) (base := base) f22 X G (fun _ _ _ _ _ _ us hl => match us, hl with | [_], _ => rfl) fun f fd F => ok_parts F T U_law_draw U_law_shape U_law_controls U_law_frames U_law_heap U_law_text U_law_name
  have U_law_letters := mk_use (P := l.prog) (w := w) (mg := mg) (base := base) f23 X G (fun _ _ _ _ _ _ us hl => match us, hl with | [_, _], _ => rfl) fun f fd F => ok_letters F T 
  have U_lvalues2 := mk_use (P := l.prog) (w := w) (mg := mg) (base := base) f24 X G (fun _ _ _ _ _ _ us hl => match us, hl with | [_, _], _ => rfl) fun f fd F => ok_lvalues2 F T 
  have U_law_weight := mk_use (P := l.prog) (w := w) (mg := mg) (base := base) f25 X G (fun _ _ _ _ _ _ us hl => match us, hl with | [_], _ => rfl) fun f fd F => ok_lweight F T 
  have U_lweights0 := mk_use (P := l.prog) (w := w) (mg := mg) (base := base) f26 X G (fun _ _ _ _ _ _ us hl => match us, hl with | [_, _], _ => rfl) fun f fd F => ok_lweights0 F T U_law_letters U_lvalues2 U_law_weight
  have U_law_weights := mk_use (P := l.prog) (w := w) (mg := mg) (base := base) f27 X G (fun _ _ _ _ _ _ us hl => match us, hl with | [_, _], _ => rfl) fun f fd F => ok_lweights F T U_law_letters U_lvalues2 U_law_weight U_law_frames U_lweights0
  have U_law_values := mk_use (P := l.prog) (w := w) (mg := mg) (base := base) f28 X G (fun _ _ _ _ _ _ us hl => match us, hl with | [_, _], _ => rfl) fun f fd F => ok_lvalues F T 
  have U_law_refs0 := mk_use (P := l.prog) (w := w) (mg := mg) (base := base) f29 X G (fun _ _ _ _ _ _ us hl => match us, hl with | [_, _], _ => rfl) fun f fd F => ok_lrefs0 F T U_law_letters U_law_values
  have U_law_refs := mk_use (P := l.prog) (w := w) (mg := mg) (base := base) f30 X G (fun _ _ _ _ _ _ us hl => match us, hl with | [_, _], _ => rfl) fun f fd F => ok_lrefs F T U_law_letters U_law_values U_law_frames U_law_refs0
  have U_law_reached := mk_use (P := l.prog) (w := w) (mg := mg) (base := base) f31 X G (fun _ _ _ _ _ _ us hl => match us, hl with | [_], _ => rfl) fun f fd F => ok_lreached F T U_law_controls U_law_frames U_law_objects U_law_refs
  have U_Machine___init__ := mk_useK (P := l.prog) (w := w) (mg := mg) (base := base) k_Machine f32 X G (fun _ _ _ _ _ _ us hl => match us, hl with | [_, _, _, _, _, _, _, _, _], _ => rfl) fun f fd F => ok_minit F T UC_Machine
  have U_law_made := mk_use (P := l.prog) (w := w) (mg := mg) (base := base) f33 X G (fun _ _ _ _ _ _ us hl => match us, hl with | [_], _ => rfl) fun f fd F => ok_made F T UC_Machine U_Machine___init__
  have U_values2 := mk_use (P := l.prog) (w := w) (mg := mg) (base := base) f34 X G (fun _ _ _ _ _ _ us hl => match us, hl with | [_, _], _ => rfl) fun f fd F => ok_values2 F T 
  have U_weight0 := mk_use (P := l.prog) (w := w) (mg := mg) (base := base) f35 X G (fun _ _ _ _ _ _ us hl => match us, hl with | [_, _], _ => rfl) fun f fd F => ok_weight0 F T U_values2
  have U_sizeT := mk_use (P := l.prog) (w := w) (mg := mg) (base := base) f36 X G (fun _ _ _ _ _ _ us hl => match us, hl with | [_], _ => rfl) fun f fd F => ok_sizeT F T U_FIELDS U_weight0
  have U_weight := mk_use (P := l.prog) (w := w) (mg := mg) (base := base) f37 X G (fun _ _ _ _ _ _ us hl => match us, hl with | [_, _], _ => rfl) fun f fd F => ok_weight F T U_values2 U_sizeT
  have U_sizeL := mk_use (P := l.prog) (w := w) (mg := mg) (base := base) f38 X G (fun _ _ _ _ _ _ us hl => match us, hl with | [_], _ => rfl) fun f fd F => ok_sizeL F T U_FIELDS U_weight0
  have U_add_new := mk_use (P := l.prog) (w := w) (mg := mg) (base := base) f39 X G (fun _ _ _ _ _ _ us hl => match us, hl with | [_, _, _], _ => rfl) fun f fd F => ok_addnew F T 
  have U_values := mk_use (P := l.prog) (w := w) (mg := mg) (base := base) f40 X G (fun _ _ _ _ _ _ us hl => match us, hl with | [_, _], _ => rfl) fun f fd F => ok_values F T 
  have U_references0 := mk_use (P := l.prog) (w := w) (mg := mg) (base := base) f41 X G (fun _ _ _ _ _ _ us hl => match us, hl with | [_, _], _ => rfl) fun f fd F => ok_refs0 F T U_values
  have U_control_references := mk_use (P := l.prog) (w := w) (mg := mg) (base := base) f42 X G (fun _ _ _ _ _ _ us hl => match us, hl with | [_], _ => rfl) fun f fd F => ok_crefs F T U_CONTROLS U_references0
  have U_frame_references := mk_use (P := l.prog) (w := w) (mg := mg) (base := base) f43 X G (fun _ _ _ _ _ _ us hl => match us, hl with | [_], _ => rfl) fun f fd F => ok_frefs F T U_FIELDS U_references0
  have U_references := mk_use (P := l.prog) (w := w) (mg := mg) (base := base) f44 X G (fun _ _ _ _ _ _ us hl => match us, hl with | [_, _], _ => rfl) fun f fd F => ok_refs F T U_values U_frame_references
  have U_object_references := mk_use (P := l.prog) (w := w) (mg := mg) (base := base) f45 X G (fun _ _ _ _ _ _ us hl => match us, hl with | [_], _ => rfl) fun f fd F => ok_orefs F T U_OBJECTS U_references
  have U_reached := mk_use (P := l.prog) (w := w) (mg := mg) (base := base) f46 X G (fun _ _ _ _ _ _ us hl => match us, hl with | [_], _ => rfl) fun f fd F => ok_reached F T UC_Machine U_add_new U_control_references U_frame_references U_object_references
  have U_live_size := mk_use (P := l.prog) (w := w) (mg := mg) (base := base) f47 X G (fun _ _ _ _ _ _ us hl => match us, hl with | [_], _ => rfl) fun f fd F => ok_live F T UC_Machine U_CONTROLS U_OBJECTS U_weight U_sizeL U_reached
  have U_law_is_integer := mk_use (P := l.prog) (w := w) (mg := mg) (base := base) f48 X G (fun _ _ _ _ _ _ us hl => match us, hl with | [_], _ => rfl) fun f fd F => ok_isint F T 
  have U_same0 := mk_use (P := l.prog) (w := w) (mg := mg) (base := base) f49 X G (fun _ _ _ _ _ _ us hl => match us, hl with | [_, _], _ => rfl) fun f fd F => ok_sameD0 F T U_law_is_integer
  have U_same1 := mk_use (P := l.prog) (w := w) (mg := mg) (base := base) f50 X G (fun _ _ _ _ _ _ us hl => match us, hl with | [_, _], _ => rfl) fun f fd F => ok_sameD1 F T U_law_is_integer U_same0
  have U_same2 := mk_use (P := l.prog) (w := w) (mg := mg) (base := base) f51 X G (fun _ _ _ _ _ _ us hl => match us, hl with | [_, _], _ => rfl) fun f fd F => ok_sameD2 F T U_law_is_integer U_same1
  have U_same3 := mk_use (P := l.prog) (w := w) (mg := mg) (base := base) f52 X G (fun _ _ _ _ _ _ us hl => match us, hl with | [_, _], _ => rfl) fun f fd F => ok_sameD3 F T U_law_is_integer U_same2
  have U_same4 := mk_use (P := l.prog) (w := w) (mg := mg) (base := base) f53 X G (fun _ _ _ _ _ _ us hl => match us, hl with | [_, _], _ => rfl) fun f fd F => ok_sameD4 F T U_law_is_integer U_same3
  have U_same5 := mk_use (P := l.prog) (w := w) (mg := mg) (base := base) f54 X G (fun _ _ _ _ _ _ us hl => match us, hl with | [_, _], _ => rfl) fun f fd F => ok_sameD5 F T U_law_is_integer U_same4
  have U_same6 := mk_use (P := l.prog) (w := w) (mg := mg) (base := base) f55 X G (fun _ _ _ _ _ _ us hl => match us, hl with | [_, _], _ => rfl) fun f fd F => ok_sameD6 F T U_law_is_integer U_same5
  have U_law_same := mk_use (P := l.prog) (w := w) (mg := mg) (base := base) f56 X G (fun _ _ _ _ _ _ us hl => match us, hl with | [_, _], _ => rfl) fun f fd F => ok_sameD7 F T U_law_is_integer U_same6
  have U_law_machine_is := mk_use (P := l.prog) (w := w) (mg := mg) (base := base) f57 X G (fun _ _ _ _ _ _ us hl => match us, hl with | [_, _], _ => rfl) fun f fd F => ok_mis F T UC_Machine U_law_same
  have U_new_value := mk_use (P := l.prog) (w := w) (mg := mg) (base := base) f58 X G (fun _ _ _ _ _ _ us hl => match us, hl with | [_, _], _ => rfl) fun f fd F => ok_newv F T 
  have U_withN0 := mk_use (P := l.prog) (w := w) (mg := mg) (base := base) f59 X G (fun _ _ _ _ _ _ us hl => match us, hl with | [_, _, _], _ => rfl) fun f fd F => ok_withn0 F T U_new_value
  have U_renumd0 := mk_use (P := l.prog) (w := w) (mg := mg) (base := base) f60 X G (fun _ _ _ _ _ _ us hl => match us, hl with | [_, _, _], _ => rfl) fun f fd F => ok_renumd0 F T U_withN0
  have U_with_numbers := mk_use (P := l.prog) (w := w) (mg := mg) (base := base) f61 X G (fun _ _ _ _ _ _ us hl => match us, hl with | [_, _, _], _ => rfl) fun f fd F => ok_withn F T U_new_value U_renumd0 U_FIELDS
  have U_renumbered := mk_use (P := l.prog) (w := w) (mg := mg) (base := base) f62 X G (fun _ _ _ _ _ _ us hl => match us, hl with | [_, _, _], _ => rfl) fun f fd F => ok_renumd F T U_with_numbers
  have U_renumber := mk_use (P := l.prog) (w := w) (mg := mg) (base := base) f63 X G (fun _ _ _ _ _ _ us hl => match us, hl with | [_], _ => rfl) fun f fd F => ok_renumber F T UC_Machine U_Machine___init__ U_CONTROLS U_FIELDS U_OBJECTS U_reached U_renumbered
  exact ok_law F T UC_Machine U_law_digits U_law_parts U_law_draw U_law_objects U_shape2 U_law_controls U_law_frames U_law_weights U_law_reached U_law_made U_live_size U_law_same U_law_machine_is U_renumber
end K81
open PySem PySem.W PyProof.Rows
set_option maxRecDepth 100000 in
set_option maxHeartbeats 0 in
theorem PySem.Challenge.cw_pyhold_k81_live_size_holds : PySem.Challenge.rw_pyhold_k81_live_size.Holds := by
  w_on; o_law; k_head; (case hw => w_witness2)
  k_fill
  refine LK.walkG (l := PySem.Challenge.rw_pyhold_k81_live_size) (n := 63) (k := 15) (x := "script") (CX := L2.CX0) (sp := K81.spLaw) rfl (by decide) rfl ⟨rfl, by decide, by decide⟩ (fun w h Y => PySem.W.kIn_of Y) ?F (fun K H a ns hl _ hS => ⟨a, ns, rfl, hS, hl, fun _ => rfl⟩) (fun _ _ _ _ z => z)
  case F =>
    intro w mg fa h KX G hmg
    refine' K81.walk_mk KX G hmg ?k_Machine ?f0 ?f1 ?f2 ?f3 ?f4 ?f5 ?f6 ?f7 ?f8 ?f9 ?f10 ?f11 ?f12 ?f13 ?f14 ?f15 ?f16 ?f17 ?f18 ?f19 ?f20 ?f21 ?f22 ?f23 ?f24 ?f25 ?f26 ?f27 ?f28 ?f29 ?f30 ?f31 ?f32 ?f33 ?f34 ?f35 ?f36 ?f37 ?f38 ?f39 ?f40 ?f41 ?f42 ?f43 ?f44 ?f45 ?f46 ?f47 ?f48 ?f49 ?f50 ?f51 ?f52 ?f53 ?f54 ?f55 ?f56 ?f57 ?f58 ?f59 ?f60 ?f61 ?f62 ?f63 ?f64 ?c0 ?b_len ?b_int ?b_range ?b_list ?b_tuple ?b_isinstance ?b_bool ?b_str ?b_abs ?b_zip ?b_enumerate ?b_sum ?d_CONTROLS ?d_OBJECTS ?d_FIELDS
    case k_Machine => refine' LK.ClsK.mk' ?a ?b ?c ?d ?e ?f ?g ?h; (case a => k_is); (case b => k_is); (case c => k_is); (case d => k_is); (case e => k_is); (case f => k_is); (case g => k_is); (case h => repeat (first | exact .nil | refine LK.NoAll.cons (by k_is) ?_))
    case f0 => refine' LK.HasFn.mk' ?a ?b ?c ?d; (case a => k_is); (case b => k_is); (case c => k_is); (case d => k_is)
    case f1 => refine' LK.HasFn.mk' ?a ?b ?c ?d; (case a => k_is); (case b => k_is); (case c => k_is); (case d => k_is)
    case f2 => refine' LK.HasFn.mk' ?a ?b ?c ?d; (case a => k_is); (case b => k_is); (case c => k_is); (case d => k_is)
    case f3 => refine' LK.HasFn.mk' ?a ?b ?c ?d; (case a => k_is); (case b => k_is); (case c => k_is); (case d => k_is)
    case f4 => refine' LK.HasFn.mk' ?a ?b ?c ?d; (case a => k_is); (case b => k_is); (case c => k_is); (case d => k_is)
    case f5 => refine' LK.HasFn.mk' ?a ?b ?c ?d; (case a => k_is); (case b => k_is); (case c => k_is); (case d => k_is)
    case f6 => refine' LK.HasFn.mk' ?a ?b ?c ?d; (case a => k_is); (case b => k_is); (case c => k_is); (case d => k_is)
    case f7 => refine' LK.HasFn.mk' ?a ?b ?c ?d; (case a => k_is); (case b => k_is); (case c => k_is); (case d => k_is)
    case f8 => refine' LK.HasFn.mk' ?a ?b ?c ?d; (case a => k_is); (case b => k_is); (case c => k_is); (case d => k_is)
    case f9 => refine' LK.HasFn.mk' ?a ?b ?c ?d; (case a => k_is); (case b => k_is); (case c => k_is); (case d => k_is)
    case f10 => refine' LK.HasFn.mk' ?a ?b ?c ?d; (case a => k_is); (case b => k_is); (case c => k_is); (case d => k_is)
    case f11 => refine' LK.HasFn.mk' ?a ?b ?c ?d; (case a => k_is); (case b => k_is); (case c => k_is); (case d => k_is)
    case f12 => refine' LK.HasFn.mk' ?a ?b ?c ?d; (case a => k_is); (case b => k_is); (case c => k_is); (case d => k_is)
    case f13 => refine' LK.HasFn.mk' ?a ?b ?c ?d; (case a => k_is); (case b => k_is); (case c => k_is); (case d => k_is)
    case f14 => refine' LK.HasFn.mk' ?a ?b ?c ?d; (case a => k_is); (case b => k_is); (case c => k_is); (case d => k_is)
    case f15 => refine' LK.HasFn.mk' ?a ?b ?c ?d; (case a => k_is); (case b => k_is); (case c => k_is); (case d => k_is)
    case f16 => refine' LK.HasFn.mk' ?a ?b ?c ?d; (case a => k_is); (case b => k_is); (case c => k_is); (case d => k_is)
    case f17 => refine' LK.HasFn.mk' ?a ?b ?c ?d; (case a => k_is); (case b => k_is); (case c => k_is); (case d => k_is)
    case f18 => refine' LK.HasFn.mk' ?a ?b ?c ?d; (case a => k_is); (case b => k_is); (case c => k_is); (case d => k_is)
    case f19 => refine' LK.HasFn.mk' ?a ?b ?c ?d; (case a => k_is); (case b => k_is); (case c => k_is); (case d => k_is)
    case f20 => refine' LK.HasFn.mk' ?a ?b ?c ?d; (case a => k_is); (case b => k_is); (case c => k_is); (case d => k_is)
    case f21 => refine' LK.HasFn.mk' ?a ?b ?c ?d; (case a => k_is); (case b => k_is); (case c => k_is); (case d => k_is)
    case f22 => refine' LK.HasFn.mk' ?a ?b ?c ?d; (case a => k_is); (case b => k_is); (case c => k_is); (case d => k_is)
    case f23 => refine' LK.HasFn.mk' ?a ?b ?c ?d; (case a => k_is); (case b => k_is); (case c => k_is); (case d => k_is)
    case f24 => refine' LK.HasFn.mk' ?a ?b ?c ?d; (case a => k_is); (case b => k_is); (case c => k_is); (case d => k_is)
    case f25 => refine' LK.HasFn.mk' ?a ?b ?c ?d; (case a => k_is); (case b => k_is); (case c => k_is); (case d => k_is)
    case f26 => refine' LK.HasFn.mk' ?a ?b ?c ?d; (case a => k_is); (case b => k_is); (case c => k_is); (case d => k_is)
    case f27 => refine' LK.HasFn.mk' ?a ?b ?c ?d; (case a => k_is); (case b => k_is); (case c => k_is); (case d => k_is)
    case f28 => refine' LK.HasFn.mk' ?a ?b ?c ?d; (case a => k_is); (case b => k_is); (case c => k_is); (case d => k_is)
    case f29 => refine' LK.HasFn.mk' ?a ?b ?c ?d; (case a => k_is); (case b => k_is); (case c => k_is); (case d => k_is)
    case f30 => refine' LK.HasFn.mk' ?a ?b ?c ?d; (case a => k_is); (case b => k_is); (case c => k_is); (case d => k_is)
    case f31 => refine' LK.HasFn.mk' ?a ?b ?c ?d; (case a => k_is); (case b => k_is); (case c => k_is); (case d => k_is)
    case f32 => refine' LK.HasMeth.mk' ?a ?b ?c ?d ?e; (case a => k_is); (case b => k_is); (case c => k_is); (case d => k_is); (case e => k_is)
    case f33 => refine' LK.HasFn.mk' ?a ?b ?c ?d; (case a => k_is); (case b => k_is); (case c => k_is); (case d => k_is)
    case f34 => refine' LK.HasFn.mk' ?a ?b ?c ?d; (case a => k_is); (case b => k_is); (case c => k_is); (case d => k_is)
    case f35 => refine' LK.HasFn.mk' ?a ?b ?c ?d; (case a => k_is); (case b => k_is); (case c => k_is); (case d => k_is)
    case f36 => refine' LK.HasFn.mk' ?a ?b ?c ?d; (case a => k_is); (case b => k_is); (case c => k_is); (case d => k_is)
    case f37 => refine' LK.HasFn.mk' ?a ?b ?c ?d; (case a => k_is); (case b => k_is); (case c => k_is); (case d => k_is)
    case f38 => refine' LK.HasFn.mk' ?a ?b ?c ?d; (case a => k_is); (case b => k_is); (case c => k_is); (case d => k_is)
    case f39 => refine' LK.HasFn.mk' ?a ?b ?c ?d; (case a => k_is); (case b => k_is); (case c => k_is); (case d => k_is)
    case f40 => refine' LK.HasFn.mk' ?a ?b ?c ?d; (case a => k_is); (case b => k_is); (case c => k_is); (case d => k_is)
    case f41 => refine' LK.HasFn.mk' ?a ?b ?c ?d; (case a => k_is); (case b => k_is); (case c => k_is); (case d => k_is)
    case f42 => refine' LK.HasFn.mk' ?a ?b ?c ?d; (case a => k_is); (case b => k_is); (case c => k_is); (case d => k_is)
    case f43 => refine' LK.HasFn.mk' ?a ?b ?c ?d; (case a => k_is); (case b => k_is); (case c => k_is); (case d => k_is)
    case f44 => refine' LK.HasFn.mk' ?a ?b ?c ?d; (case a => k_is); (case b => k_is); (case c => k_is); (case d => k_is)
    case f45 => refine' LK.HasFn.mk' ?a ?b ?c ?d; (case a => k_is); (case b => k_is); (case c => k_is); (case d => k_is)
    case f46 => refine' LK.HasFn.mk' ?a ?b ?c ?d; (case a => k_is); (case b => k_is); (case c => k_is); (case d => k_is)
    case f47 => refine' LK.HasFn.mk' ?a ?b ?c ?d; (case a => k_is); (case b => k_is); (case c => k_is); (case d => k_is)
    case f48 => refine' LK.HasFn.mk' ?a ?b ?c ?d; (case a => k_is); (case b => k_is); (case c => k_is); (case d => k_is)
    case f49 => refine' LK.HasFn.mk' ?a ?b ?c ?d; (case a => k_is); (case b => k_is); (case c => k_is); (case d => k_is)
    case f50 => refine' LK.HasFn.mk' ?a ?b ?c ?d; (case a => k_is); (case b => k_is); (case c => k_is); (case d => k_is)
    case f51 => refine' LK.HasFn.mk' ?a ?b ?c ?d; (case a => k_is); (case b => k_is); (case c => k_is); (case d => k_is)
    case f52 => refine' LK.HasFn.mk' ?a ?b ?c ?d; (case a => k_is); (case b => k_is); (case c => k_is); (case d => k_is)
    case f53 => refine' LK.HasFn.mk' ?a ?b ?c ?d; (case a => k_is); (case b => k_is); (case c => k_is); (case d => k_is)
    case f54 => refine' LK.HasFn.mk' ?a ?b ?c ?d; (case a => k_is); (case b => k_is); (case c => k_is); (case d => k_is)
    case f55 => refine' LK.HasFn.mk' ?a ?b ?c ?d; (case a => k_is); (case b => k_is); (case c => k_is); (case d => k_is)
    case f56 => refine' LK.HasFn.mk' ?a ?b ?c ?d; (case a => k_is); (case b => k_is); (case c => k_is); (case d => k_is)
    case f57 => refine' LK.HasFn.mk' ?a ?b ?c ?d; (case a => k_is); (case b => k_is); (case c => k_is); (case d => k_is)
    case f58 => refine' LK.HasFn.mk' ?a ?b ?c ?d; (case a => k_is); (case b => k_is); (case c => k_is); (case d => k_is)
    case f59 => refine' LK.HasFn.mk' ?a ?b ?c ?d; (case a => k_is); (case b => k_is); (case c => k_is); (case d => k_is)
    case f60 => refine' LK.HasFn.mk' ?a ?b ?c ?d; (case a => k_is); (case b => k_is); (case c => k_is); (case d => k_is)
    case f61 => refine' LK.HasFn.mk' ?a ?b ?c ?d; (case a => k_is); (case b => k_is); (case c => k_is); (case d => k_is)
    case f62 => refine' LK.HasFn.mk' ?a ?b ?c ?d; (case a => k_is); (case b => k_is); (case c => k_is); (case d => k_is)
    case f63 => refine' LK.HasFn.mk' ?a ?b ?c ?d; (case a => k_is); (case b => k_is); (case c => k_is); (case d => k_is)
    case f64 => refine' LK.HasFn.mk' ?a ?b ?c ?d; (case a => k_is); (case b => k_is); (case c => k_is); (case d => k_is)
    case c0 => refine' LK.HasInt.mk' ?a ?b; (case a => k_is); (case b => decide +kernel)
    case b_len => k_is
    case b_int => k_is
    case b_range => k_is
    case b_list => k_is
    case b_tuple => k_is
    case b_isinstance => k_is
    case b_bool => k_is
    case b_str => k_is
    case b_abs => k_is
    case b_zip => k_is
    case b_enumerate => k_is
    case b_sum => k_is
    case d_CONTROLS => refine' LK.HasDct.mk' ?a ?b ?c ?d ?e; (case a => k_is); (case b => k_is); (case c => rfl); (case d => repeat (first | exact .nil | refine .cons rfl rfl rfl ?_)); (case e => decide +kernel)
    case d_OBJECTS => refine' LK.HasDct.mk' ?a ?b ?c ?d ?e; (case a => k_is); (case b => k_is); (case c => rfl); (case d => repeat (first | exact .nil | refine .cons rfl rfl rfl ?_)); (case e => decide +kernel)
    case d_FIELDS => refine' LK.HasDct.mk' ?a ?b ?c ?d ?e; (case a => k_is); (case b => k_is); (case c => rfl); (case d => repeat (first | exact .nil | refine .cons rfl rfl rfl ?_)); (case e => decide +kernel)


