import PyProof.Rows.All
import Wide.All
import OpenK.AllK
import Wide.FinOn
import HandS.ForMost
import HandS.Wide
import HandS.WideMore
import HandS.TupAny
import HandS.TupLen
import HandS.Evl
import HandS.Codes
import PyProof.ReprLen
import PyProof.StrLawsRepr
import PySem.Challenge.RW_pyhold_k18_arithmetic
set_option Elab.async false
set_option linter.all false
set_option maxRecDepth 100000
set_option maxHeartbeats 4000000
/-! A layer of one's own over the hand layer: defs by name, data, the helpers that the laws share. -/
namespace LK
open PySem PySem.Spec PyProof.Rows L2

/-! ### a def's promise where nothing is being shown (repr asks who is) -/
structure FnG (P : Program) (w : World) (K : PySem.W.Frag) (mg : Str → Option Value) (base : Heap) (CX : CXT) (k : Nat) (f : Addr) (fd : FuncData) (ps : List Str) (sp : Sp) : Prop where
  len : ∀ vs H Q E, sp vs H Q E → vs.length = ps.length
  run : ∀ (A : Around) (outer : List Env) (s : Shared) (H : Hp) (args : Args) (us : List Value) (vs : List V) (Q : VK) (E : XK), Room k A → A.guards = some [] →
    Env0 P w K mg base A outer s H → BindsTo s fd args (ps.zip us) → Vals vs us → sp vs H Q E → codeAny (model P w) A (.call (.ref f) args) (CR CX outer P w H s Q E) s
section
variable {P : Program} {w : World} {K : PySem.W.Frag} {mg : Str → Option Value} {base : Heap} {CX : CXT}
theorem FnG.imp {k : Nat} {f : Addr} {fd : FuncData} {ps : List Str} {sp sp' : Sp} (F : FnG P w K mg base CX k f fd ps sp) (h : ∀ vs H Q E, sp' vs H Q E → sp vs H Q E) : FnG P w K mg base CX k f fd ps sp' where
  len := fun vs H Q E q => F.len vs H Q E (h vs H Q E q)
  run := fun A outer s H args us vs Q E hr hg he hb hv hs => F.run A outer s H args us vs Q E hr hg he hb hv (h vs H Q E hs)
/-- the rule for a def: its body as a term of rules, and the reading of that term -/
theorem okG {x qual : Str} {st : Stmt} {f : Addr} {fd : FuncData} {N ps : List Str} {k : Nat} {sp : Sp} (F : Fun K x qual st f fd) (S : FnScope N ps (defScope st)) (len : ∀ vs H Q E, sp vs H Q E → vs.length = ps.length)
    (body : ∀ (cdv : Value) (A : Around) (outer : List Env) (s : Shared) (H : Hp) (vs : List V) (Q : VK) (E : XK), Room k (A.deeper (envOfC qual (defScope st) s.heap.objs.size f cdv)) →
      (A.deeper (envOfC qual (defScope st) s.heap.objs.size f cdv)).guards = some [] → sp vs H Q E →
      ∃ t, PSs (cxOf CX P w K mg base N qual (defScope st) f cdv A outer s H E) (defBody st) t ∧ t { nx := fun _ H' => Q .non H', rt := Q } (start N vs) H) :
    FnG P w K mg base CX (k + 1) f fd ps sp := by
  obtain ⟨oc, od, kV, doc, pm, an, cdv, ct, osl, rfl, lk, hcd⟩ := F.ex
  refine ⟨len, fun A outer s H args us vs Q E hr hgd e0 hb r hsp => ?_⟩
  have inn : K.In s.heap := e0.mod.kin.keeps fun b o e => (e0.bs b o e).1
  refine codeAny_call_function hr.depth (inn _ _ lk) rfl S.co S.gen rfl (PySem.W.codeRec_of inn hcd) (hb _ _ _ _ ?_)
  refine wpAny_newFunctionEnv_cells S.kind (fun y hy => ?_) fun env he s1 made => ?_
  · obtain ⟨n, v⟩ := y
    exact (S.par n (List.of_mem_zip hy).1).elim .inl fun q => .inr ⟨q, PySem.W.cellsFrom_some _ _ _ (.inl q)⟩
  · subst he
    have lim : s.heap.NoLimit := e0.mod.nolimit.keeps fun b o e => (e0.bs b o e).1
    refine ⟨lim.keeps made.toInCall.keep, codeAny_func ?_⟩
    obtain ⟨t, ht, hq⟩ := body cdv A outer s H vs Q E (hr.deeper _) hgd hsp
    refine wpAny_mono (ht.run [] s1 (start N vs) H _ (inv_start S hr.hd e0 (len _ _ _ _ hsp) r made) hq) (fun fl s' hs => ?_) fun e s' hs => hs
    cases fl with
    | ret u => exact let ⟨v, _, H', J, rv, q⟩ := hs; ⟨v, H', J.os, J.bare, J.base, J.hok, rv, q⟩
    | next => exact let ⟨_, H', J, q⟩ := hs; ⟨V.non, H', J.os, J.bare, J.base, J.hok, rfl, q⟩
    | brk => exact let ⟨_, _, _, q⟩ := hs; q.elim
    | cont => exact let ⟨_, _, _, q⟩ := hs; q.elim
/-- .. whose body lets no exception out -/
theorem okG0 {x qual : Str} {st : Stmt} {f : Addr} {fd : FuncData} {N ps : List Str} {k : Nat} {sp : Sp} (F : Fun K x qual st f fd) (S : FnScope N ps (defScope st)) (len : ∀ vs H Q E, sp vs H Q E → vs.length = ps.length)
    (body : ∀ (cdv : Value) (A : Around) (outer : List Env) (s : Shared) (H : Hp) (vs : List V) (Q : VK) (E : XK), Room k (A.deeper (envOfC qual (defScope st) s.heap.objs.size f cdv)) →
      (A.deeper (envOfC qual (defScope st) s.heap.objs.size f cdv)).guards = some [] → sp vs H Q E →
      ∃ t, PSs (cxOf CX0 P w K mg base N qual (defScope st) f cdv A outer s H E).nox (defBody st) t ∧ t { nx := fun _ H' => Q .non H', rt := Q } (start N vs) H) :
    FnG P w K mg base CX0 (k + 1) f fd ps sp :=
  okG F S len fun cdv A outer s H vs Q E hr hg hs => let ⟨t, ht, q⟩ := body cdv A outer s H vs Q E hr hg hs; ⟨t, ht.nox, q⟩
end
section
variable {X : Cx} {CX : CXT} {k : Nat} {f : Addr} {fd : FuncData} {ps : List Str} {sp : Sp} {E : XK} {x : Str} {p pos : Pos} {e : Expr} {es : List Expr} {t : TA}
theorem run_fnG {pins : List (Addr × Obj)} {σ : L2.St} {H : Hp} {s : Shared} {Q : VK} {us : List Value} {vs : List V} (F : FnG X.prog X.w X.K X.mg X.base CX k f fd ps sp) (hr : Room k X.A) (hg : X.A.guards = some []) (hb : Binds X.K fd ps [])
    (hx : Passes CX X E) (I : Inv X pins σ H s) (r : Vals vs us) (h : sp vs H Q E) : wpAny (model X.prog X.w) X.A (call (.ref f) us) (EP X pins σ Q) X.xe s := by
  have hl : (us ++ []).length = ps.length := by rw [List.append_nil, ← r.length, F.len _ _ _ _ h]
  have hbs := hb s us I.kIn hl
  rw [List.append_nil] at hbs
  refine wpAny_call (codeAny_mono (F.run X.A X.stack s H ⟨us, []⟩ us vs Q E hr hg I.env0 hbs r h) fun res s' hq => ?_)
  match res, hq with
  | .error e, hq => exact hx pins σ H s e s' I hq
  | .ok (.ret u), hq => exact I.after hq
  | .ok .next, hq => exact hq.elim
  | .ok .brk, hq => exact hq.elim
  | .ok .cont, hq => exact hq.elim
end

/-! ### defs of the text, by name -/
/-- what the top has left of the def x, whose statement is st -/
def HasFn (K : PySem.W.Frag) (x : Str) (st : Stmt) : Prop := ∃ (f : Addr) (oc : Value) (od an : Option Addr) (kV doc pm cdv ct : Value) (osl : Array (Option Value)),
  PySem.W.nsIn K mainGlobals x = some (some (.ref f)) ∧ K.lookup f = some ⟨oc, od, .func (PySem.W.fnOf x x (defArgs st) (defBody st) (defScope st) .none kV doc pm an cdv ct), osl⟩ ∧
  PySem.W.codeIn K cdv x = true ∧ PySem.W.keepIn K (.ref f) = true
/-- the def x may be called: its promise sp, by level k -/
structure Use (P : Program) (w : World) (K : PySem.W.Frag) (mg : Str → Option Value) (base : Heap) (CX : CXT) (x : Str) (k : Nat) (ps : List Str) (sp : Sp) : Prop where
  ex : ∃ (f : Addr) (fd : FuncData), FnG P w K mg base CX k f fd ps sp ∧ mg x = some (.ref f) ∧ PySem.W.keepIn K (.ref f) = true ∧ Binds K fd ps []
section
variable {P : Program} {w : World} {K : PySem.W.Frag} {mg : Str → Option Value} {base h : Heap} {CX : CXT}
theorem mk_use {x : Str} {st : Stmt} {k : Nat} {ps : List Str} {sp : Sp} (F : HasFn K x st) (X : K.In h) (G : h.Ns mainGlobals mg)
    (hb : ∀ (kV doc pm : Value) (an : Option Addr) (cdv ct : Value) (us : List Value), us.length = ps.length → bindArgs (PySem.W.fnOf x x (defArgs st) (defBody st) (defScope st) .none kV doc pm an cdv ct) ⟨us, []⟩ = pure (ps.zip us))
    (ok : ∀ (f : Addr) (fd : FuncData), Fun K x x st f fd → FnG P w K mg base CX k f fd ps sp) : Use P w K mg base CX x k ps sp := by
  obtain ⟨f, oc, od, an, kV, doc, pm, cdv, ct, osl, e, l, c, kp⟩ := F
  have Fn := fun_mk (st := st) l c kp
  exact ⟨f, _, ok f _ Fn, PySem.W.mg_of X G e, kp, Fn.binds hb⟩
theorem Use.imp {x : Str} {k : Nat} {ps : List Str} {sp sp' : Sp} (U : Use P w K mg base CX x k ps sp) (h : ∀ vs H Q E, sp' vs H Q E → sp vs H Q E) : Use P w K mg base CX x k ps sp' := by
  obtain ⟨f, fd, ok, r⟩ := U.ex
  exact ⟨f, fd, ok.imp h, r⟩
end
section
variable {X : Cx} {CX : CXT} {E : XK} {k : Nat} {x : Str} {ps : List Str} {sp : Sp} {p pos : Pos} {e : Expr} {es : List Expr} {t : TA}
theorem pe_useX (U : Use X.prog X.w X.K X.mg X.base CX x k ps sp) (hx : Passes CX X E) (hr : Room k X.A) (gd : X.A.guards = some []) (hg : Gl X x) (ha : PA X (e :: es) t) (hdb : (x == ("__debug__" : Str)) = false := by decide)
    (he : starEach (e :: es) X.env = (false, eval e X.env) :: starEach es X.env := by rfl) (hpl : (backTo pos (starEach es X.env)).any (·.1) = false := by rfl) : PE X (.Call (.Name x p) (e :: es) [] pos) (fun σ H Q => t σ H fun vs H1 => sp vs H1 Q E) := by
  obtain ⟨f, fd, ok, hm, kp, hb⟩ := U.ex
  refine ⟨fun pins s σ H Q I h => wpAny_Call_Name_kw (ld_glob I hg hm ?_ hdb)⟩
  exact PySem.W.callWith_K (h₀ := X.base) I.ok.mod.kin kp (thn (ha.run pos pins s σ H _ I h) fun us s1 ⟨vs, H1, I1, r, q⟩ => ⟨I1.kIn, run_fnG ok hr gd hb hx I1 r q⟩) he hpl
def tUse (sp : Sp) (E : XK) (t : TA) : TE := fun σ H Q => t σ H fun vs H1 => sp vs H1 Q E
theorem pe_use (U : Use X.prog X.w X.K X.mg X.base CX0 x k ps sp) (hr : Room k X.A) (gd : X.A.guards = some []) (hg : Gl X x) (ha : PA X (e :: es) t) (hdb : (x == ("__debug__" : Str)) = false := by decide)
    (he : starEach (e :: es) X.env = (false, eval e X.env) :: starEach es X.env := by rfl) (hpl : (backTo pos (starEach es X.env)).any (·.1) = false := by rfl) : PE X (.Call (.Name x p) (e :: es) [] pos) (tUse sp E0 t) := pe_useX U pass0 hr gd hg ha hdb he hpl
theorem pe_use0 (U : Use X.prog X.w X.K X.mg X.base CX0 x k ps sp) (hr : Room k X.A) (gd : X.A.guards = some []) (hg : Gl X x) (hdb : (x == ("__debug__" : Str)) = false := by decide) : PE X (.Call (.Name x p) [] [] pos) (tUse sp E0 tNil) := by
  obtain ⟨f, fd, ok, hm, kp, hb⟩ := U.ex
  exact ⟨fun pins s σ H Q I h => wpAny_Call_Name_kw (ld_glob I hg hm (PySem.W.callWith_K0 I.kIn kp (run_fnG (us := []) ok hr gd hb pass0 I .nil h)) hdb)⟩
end

/-! ### what stays -/
theorem Same.new {H : Hp} {p : Addr} {o : HO} (h : H p = none) : Same H (upd H p o) := fun b u e => by
  rw [upd_ne (ne_of_none e h)]; exact e
theorem Same.rd {H H' : Hp} {a : Addr} {u : HO} (e : Same H H') (h : Rd H a u) : Rd H' a u := by
  rcases h with h | ⟨o, h⟩
  · exact .inl (e _ _ h)
  · exact .inr ⟨o, e _ _ h⟩
theorem Same.tupl {K : PySem.W.Frag} {H H' : Hp} {a : Addr} {xs : List V} (e : Same H H') (h : SqT K H a xs) : SqT K H' a xs := by
  rcases h with h | h
  · exact .inl (Same.rd e h)
  · exact .inr h
theorem SqT.mono {K : PySem.W.Frag} {H H' : Hp} {a : Addr} {xs : List V} (h : SqT K H a xs) (e : Same H H') : SqT K H' a xs := Same.tupl e h
theorem SqL.mono {K : PySem.W.Frag} {H H' : Hp} {a : Addr} {xs : List V} (h : SqL K H a xs) (e : Same H H') : SqL K H' a xs := e.seq h

/-! ### data: none, bools, ints, texts, tuples (and lists that stand still) -/
mutual
theorem Dp.mono {K : PySem.W.Frag} {H H' : Hp} (e : Same H H') : ∀ {v : V} {d : PyData}, Dp K H v d → Dp K H' v d
  | _, _, .non => .non
  | _, _, .bl b => .bl b
  | _, _, .int i => .int i
  | _, _, .str x => .str x
  | _, _, .lst h a => .lst (e.seq h) (DpAll.mono e a)
  | _, _, .tup h a => .tup (Same.tupl e h) (DpAll.mono e a)
theorem DpAll.mono {K : PySem.W.Frag} {H H' : Hp} (e : Same H H') : ∀ {vs : List V} {ds : List PyData}, DpAll K H vs ds → DpAll K H' vs ds
  | _, _, .nil => .nil
  | _, _, .cons h a => .cons (Dp.mono e h) (DpAll.mono e a)
end
/-- a tuple just made -/
theorem Dp.made {K : PySem.W.Frag} {H : Hp} {p : Addr} {xs : List V} {ds : List PyData} (hp : H p = none) (h : DpAll K H xs ds) : Dp K (upd H p (.tup xs)) (.ref p) (.tuple ds) :=
  .tup (SqT.of upd_same) (DpAll.mono (Same.new hp) h)
theorem DpAll.length {K : PySem.W.Frag} {H : Hp} : ∀ {vs : List V} {ds : List PyData}, DpAll K H vs ds → vs.length = ds.length
  | _, _, .nil => rfl
  | _, _, .cons _ t => by simp [DpAll.length t]
theorem DpAll.app {K : PySem.W.Frag} {H : Hp} : ∀ {vs ws : List V} {ds es : List PyData}, DpAll K H vs ds → DpAll K H ws es → DpAll K H (vs ++ ws) (ds ++ es)
  | _, _, _, _, .nil, t => t
  | _, _, _, _, .cons h a, t => .cons h (DpAll.app a t)

/-! ### repr of data -/
mutual
theorem Dp.noDict {K : PySem.W.Frag} {H : Hp} : ∀ {v : V} {d : PyData}, Dp K H v d → d.hasDict = false
  | _, _, .non => rfl
  | _, _, .bl _ => rfl
  | _, _, .int _ => rfl
  | _, _, .str _ => rfl
  | _, _, .lst _ a => by simp only [PyData.hasDict]; exact DpAll.noDict a
  | _, _, .tup _ a => by simp only [PyData.hasDict]; exact DpAll.noDict a
theorem DpAll.noDict {K : PySem.W.Frag} {H : Hp} : ∀ {vs : List V} {ds : List PyData}, DpAll K H vs ds → PyData.hasDictAll ds = false
  | _, _, .nil => rfl
  | _, _, .cons h a => by simp only [PyData.hasDictAll, Dp.noDict h, DpAll.noDict a, Bool.or_self]
end
/-- what repr asks of data -/
structure ShowOk (d : PyData) : Prop where
  ok : d.showable = true
  dp : d.depth ≤ 60
  sz : d.shown.length ≤ sizeLine
def rRepr (K : PySem.W.Frag) : List V → Hp → VK → Prop := fun xs H Q => ∃ v d, xs = [v] ∧ Dp K H v d ∧ ShowOk d ∧ Q (.str d.shown) H
section
variable {X : Cx}
theorem call_repr_data (hg : X.A.guards = some []) (hu : X.A.units + 64 < cLine) : CallR X (.builtin "repr") (rRepr X.K) := by
  intro pins s σ H xs us Q I r h
  obtain ⟨v, d, rfl, hd, ⟨hs, hdp, hsz⟩, q⟩ := h
  obtain ⟨u, rfl, rv⟩ := vals1 r
  obtain ⟨as, rr⟩ := Dp.reads I d v u hd rv
  have nd := Dp.noDict hd
  cases d with
  | none => cases rr; exact PySem.P.repr_of_none ⟨.str _, H, I.tok _, ⟨_, rfl⟩, q⟩
  | bool b => cases rr; exact PySem.P.repr_of_bool ⟨.str _, H, I.tok _, ⟨_, rfl⟩, by simpa [PyData.shown] using q⟩
  | int i => cases rr; exact PySem.P.repr_of_int (of_decide_eq_true (by simpa [PyData.showable] using hs)) ⟨.str _, H, I.tok _, ⟨_, rfl⟩, by simpa [PyData.shown] using q⟩
  | str x => cases rr; exact PySem.P.repr_of_str (hsz := by simpa [PyData.shown] using hsz) ⟨.str _, H, I.tok _, ⟨_, rfl⟩, by simpa [PyData.shown] using q⟩
  | list ds =>
    obtain ⟨a, rfl⟩ := PyProof.Rows.isRef_of_reads rr rfl
    exact repr_of_reads' rr hs (PyData.noDict_hsm nd) hg (by omega) (fun _ _ e => e) (fun h' u tk hk => ⟨.str _, H, I.kept hk, ⟨_, rfl⟩, q⟩) hsz
  | tuple ds =>
    obtain ⟨a, rfl⟩ := PyProof.Rows.isRef_of_reads rr rfl
    exact repr_of_reads' rr hs (PyData.noDict_hsm nd) hg (by omega) (fun _ _ e => e) (fun h' u tk hk => ⟨.str _, H, I.kept hk, ⟨_, rfl⟩, q⟩) hsz
  | dict kv => cases hd
end

/-! ### the law's own call -/
/-- the heap behind the top, seen with the script at a locked, or with nothing tracked -/
theorem law_callG {P : Program} {w : World} {K : PySem.W.Frag} {mg mb : Str → Option Value} {CX : CXT} {k : Nat} {fa a : Addr} {fd : FuncData} {x : Str} {sp : Sp} {s₁ : Shared} {vs : List Value} {ns : List Int}
    (inn : K.In s₁.heap) (hns : s₁.heap.Ns mainGlobals mg) (hb : s₁.heap.Ns builtinsNs mb) (hbb : ∀ x : Str, x ≠ "__name__" → mb x = bootBuiltins x) (hlim : s₁.heap.NoLimit) (hgens : s₁.gens = #[])
    (ha : s₁.heap.get? a = some { cls := .type "list", data := .seq vs.toArray }) (hi : IntsAre vs ns) (hl : ns.length ≤ sizeLine) (hr : Room k callerA)
    (F : ∀ base : Heap, K.In base → base.Ns mainGlobals mg → FnG P w K mg base CX k fa fd [x] sp) (hbind : ∀ (s : Shared) (u : Value), BindsTo s fd ⟨[u], []⟩ [(x, u)])
    (hsp : ∀ H : Hp, Only H → SqL K H a (ns.map V.int) → sp [.ref a] H (fun v _ => v = .bl true) fun _ _ _ => False)
    (hCX : ∀ H e s', CX [] H s₁ (fun _ _ _ => False) e s' → False) :
    codeAny (model P w) callerA (.call (.ref fa) ⟨[.ref a], []⟩) (fun r s' => r = .ok (.ret (.bool true)) ∧ OldK s₁.heap s'.heap ∧ s'.os = s₁.os ∧ AllBare s'.gens) s₁ := by
  have rv := vals_ints hi
  have run : ∀ H : Hp, Only H → SqL K H a (ns.map V.int) → HOk P w H s₁.heap → (∀ b u, H b = some u → b = a ∧ K.lookup a = none) →
      codeAny (model P w) callerA (.call (.ref fa) ⟨[.ref a], []⟩) (fun r s' => r = .ok (.ret (.bool true)) ∧ OldK s₁.heap s'.heap ∧ s'.os = s₁.os ∧ AllBare s'.gens) s₁ := by
    intro H only hS hok at_a
    -- what is no list stays in the base
    have free : ∀ {b : Addr} {o : Obj}, s₁.heap.get? b = some o → (∀ its n, o.data ≠ .seq its n) → H b = none := fun {b o} e hd => by
      cases q : H b with
      | none => rfl
      | some u =>
        obtain ⟨rfl, _⟩ := at_a b u q
        rw [ha] at e; cases e
        exact absurd rfl (hd _ _)
    have names : ∀ {b : Addr} {m : Str → Option Value}, s₁.heap.Ns b m → (hidT s₁.heap H).Ns b m := fun {b m} hn => by
      obtain ⟨o, es, ep, e, d, r⟩ := hn
      exact ⟨o, es, ep, hidT_get e (free e fun its n z => by rw [d] at z; cases z), d, r⟩
    have inb : K.In (hidT s₁.heap H) := fun b o e => by
      refine hidT_get (inn b o e) ?_
      cases q : H b with
      | none => rfl
      | some u =>
        obtain ⟨rfl, hk⟩ := at_a b u q
        rw [e] at hk; cases hk
    have md : Mod K mg (hidT s₁.heap H) := by
      obtain ⟨mc, h1, h2⟩ := hlim
      exact ⟨inb, names hns, ⟨mb, names hb, hbb⟩, ⟨mc, names h1, h2⟩⟩
    have none_in : ∀ b : Addr, b ∉ ([] : List Addr) := fun b z => nomatch z
    have e0 : Env0 P w K mg (hidT s₁.heap H) callerA [] s₁ H := ⟨rfl, md, fun b o e => of_hidT e, Nat.le_of_eq (hidT_size _ _), trivial, fun b z => absurd z (none_in b), hok, .of_eq hgens⟩
    refine codeAny_mono ((F _ inb (names hns)).run callerA [] s₁ H ⟨[.ref a], []⟩ [.ref a] [.ref a] _ _ hr rfl e0 (hbind s₁ (.ref a)) (.cons rfl .nil) (hsp H only hS)) fun r s' h => ?_
    match r, h with
    | .error e, h => exact (hCX H e s' h).elim
    | .ok .next, h => exact False.elim h
    | .ok .brk, h => exact False.elim h
    | .ok .cont, h => exact False.elim h
    | .ok (.ret u), h =>
      obtain ⟨v, H', os, bare, un, hok', r', q⟩ := h
      obtain rfl : v = V.bl true := q
      obtain rfl : u = Value.bool true := r'
      refine ⟨rfl, OldK.of_keep fun b o e => ?_, os, bare⟩
      cases q : H b with
      | none => exact un.keep b o e q (none_in b) (none_in b)
      | some u =>
        rcases only b with z | ⟨ob, xs, z⟩
        · rw [q] at z; cases z
        · have e1 : s₁.heap.get? b = some ob := (hok b _ z).1
          rw [e] at e1; cases e1
          exact (hok' b _ (un.frzs b o _ z)).1
  cases hk : K.lookup a with
  | some o =>
    have e := inn a o hk
    rw [ha] at e; cases e
    have sz : vs.toArray.size ≤ sizeLine := by rw [List.size_toArray, hi.length]; exact hl
    exact run (fun _ => none) (fun _ => .inl rfl) (.inr ⟨_, vs.toArray, _, hk, rfl, rfl, rfl, sz, by simpa using rv⟩) (fun b u z => nomatch (show (none : Option HO) = some u from z)) fun b u z => nomatch (show (none : Option HO) = some u from z)
  | none =>
    let u0 : HO := .frz { cls := .type "list", data := .seq vs.toArray } (.lst (ns.map V.int))
    have at1 : ∀ b u, upd (fun _ => none) a u0 b = some u → b = a ∧ u = u0 := fun b u z => by
      by_cases hb : b = a
      · subst hb; rw [upd_same] at z; exact ⟨rfl, (Option.some.inj z).symm⟩
      · rw [upd_ne hb] at z; cases z
    refine run (upd (fun _ => none) a u0) (fun b => ?_) (.inl (.inr ⟨_, upd_same⟩)) (fun b u z => ?_) fun b u z => ⟨(at1 b u z).1, hk⟩
    · by_cases hb : b = a
      · subst hb; exact .inr ⟨_, _, upd_same⟩
      · exact .inl (by rw [upd_ne hb])
    · obtain ⟨rfl, rfl⟩ := at1 b u z
      exact ⟨ha, by rw [List.length_map]; exact hl, vs, _, rv, ha⟩
theorem walkG {l : PySem.W.OpenLaw} {n k : Nat} {q : Program} {loose : List Str} {XP : (Str → Option Value) → Heap → Prop} {YP : World → Heap → Prop} {d : DefRec} {K : Params → PySem.W.Frag} {CX : CXT} {sp : PySem.W.Frag → Sp} {x : Str}
    (hn : l.most = some n) (hn2 : n ≤ sizeLine) (hdf : d.params.defaults = []) (hr : Room k callerA)
    (hY : ∀ (w : World) (h : Heap), YP w h → (K w.params).In h)
    (F : ∀ (w : World) (mg : Str → Option Value) (fa : Addr) (h : Heap), (K w.params).In h → h.Ns mainGlobals mg → mg d.name = some (.ref fa) →
      ∃ fd : FuncData, (∀ (s : Shared) (u : Value), BindsTo s fd ⟨[u], []⟩ [(x, u)]) ∧
        ∀ base : Heap, (K w.params).In base → base.Ns mainGlobals mg → FnG l.prog w (K w.params) mg base CX k fa fd [x] (sp (K w.params)))
    (hsp : ∀ (K : PySem.W.Frag) (H : Hp) (a : Addr) (ns : List Int), ns.length ≤ n → Only H → SqL K H a (ns.map V.int) → sp K [.ref a] H (fun v _ => v = .bl true) fun _ _ _ => False)
    (hCX : ∀ (H : Hp) (s : Shared) (e : Value) (s' : Shared), CX [] H s (fun _ _ _ => False) e s' → False) :
    PySem.W.WalkO q loose XP YP l.row.toRowW d [] (fun f vs => PySem.call f vs) :=
  Att.attach_call hn hdf fun w s₀ s₁ mg mb fa o pm cd doc a vs ns G Y ho hd hcd hmg hobj hints hlen hg =>
    let ⟨fd, hb, hF⟩ := F w mg fa _ (hY w _ Y) G.T.g hmg
    law_callG (hY w _ Y) G.T.g G.T.b G.T.builtins G.T.nolimit hg hobj hints (Nat.le_trans hlen hn2) hr hF hb (fun H hO hS => hsp (K w.params) H a ns hlen hO hS) fun H e s' => hCX H s₁ e s'
/-- from the top's facts: the law's def and its arguments -/
theorem law_use {P : Program} {w : World} {K : PySem.W.Frag} {mg : Str → Option Value} {h : Heap} {CX : CXT} {k : Nat} {fa : Addr} {st : Stmt} {x : Str} {sp : Sp} (L : HasFn K "law" st) (X : K.In h) (G : h.Ns mainGlobals mg) (hfa : mg "law" = some (.ref fa))
    (hb : ∀ (kV doc pm : Value) (an : Option Addr) (cdv ct v : Value), bindArgs (PySem.W.fnOf "law" "law" (defArgs st) (defBody st) (defScope st) .none kV doc pm an cdv ct) ⟨[v], []⟩ = pure [(x, v)])
    (ok : ∀ base : Heap, K.In base → base.Ns mainGlobals mg → ∀ fd, Fun K "law" "law" st fa fd → FnG P w K mg base CX k fa fd [x] sp) :
    ∃ fd : FuncData, (∀ (s : Shared) (v : Value), BindsTo s fd ⟨[v], []⟩ [(x, v)]) ∧ ∀ base : Heap, K.In base → base.Ns mainGlobals mg → FnG P w K mg base CX k fa fd [x] sp := by
  obtain ⟨f, oc, od, an, kV, doc, pm, cdv, ct, osl, e, l, c, kp⟩ := L
  have z := hfa.symm.trans (PySem.W.mg_of X G e)
  cases z
  have Fn := fun_mk (st := st) l c kp
  exact ⟨_, fun s v => .of_eq (hb ..), fun base h1 h2 => ok base h1 h2 _ Fn⟩

/-! ### tests whose answer is known -/
theorem iteFb {c : Bool} {A B : Prop} (h : c = false) (b : B) : if c = true then A else B := by rw [h]; exact iteF b
theorem iteTb {c : Bool} {A B : Prop} (h : c = true) (a : A) : if c = true then A else B := by rw [h]; exact iteT a
theorem ite3 {c : Bool} {A B : Prop} (h1 : c = true → A) (h2 : c = false → B) : if c = true then A else B := by
  cases c with
  | true => exact iteT (h1 rfl)
  | false => exact iteF (h2 rfl)

/-! ### constants of the top -/
def HasInt (K : PySem.W.Frag) (x : Str) (n : Int) : Prop := ∃ (t : Tok) (m : Int), PySem.W.nsIn K mainGlobals x = some (some (.int m t)) ∧ m = n
def KTup (K : PySem.W.Frag) (a : Addr) (xs : List V) : Prop := ∃ (od : Option Addr) (its : Array Value) (n : Nat) (sl : Array (Option Value)), K.lookup a = some ⟨.type "tuple", od, .seq its n, sl⟩ ∧ its.size ≤ sizeLine ∧ Vals xs its.toList
def HasTup (K : PySem.W.Frag) (x : Str) (xs : List V) : Prop := ∃ a, PySem.W.nsIn K mainGlobals x = some (some (.ref a)) ∧ KTup K a xs
theorem KTup.sq {K : PySem.W.Frag} {a : Addr} {xs : List V} (h : KTup K a xs) (H : Hp) : SqT K H a xs := by
  obtain ⟨od, its, n, sl, e, z, v⟩ := h
  exact .inr ⟨_, its, n, e, rfl, rfl, z, v⟩
/-- the module's names, as the defs see them -/
def GInt (mg : Str → Option Value) (x : Str) (n : Int) : Prop := ∃ t, mg x = some (.int n t)
def GTup (K : PySem.W.Frag) (mg : Str → Option Value) (x : Str) (xs : List V) : Prop := ∃ a, mg x = some (.ref a) ∧ KTup K a xs
theorem HasInt.g {K : PySem.W.Frag} {mg : Str → Option Value} {h : Heap} {x : Str} {n : Int} (i : HasInt K x n) (X : K.In h) (G : h.Ns mainGlobals mg) : GInt mg x n := by
  obtain ⟨t, m, e, rfl⟩ := i
  exact ⟨t, PySem.W.mg_of X G e⟩
theorem HasTup.g {K : PySem.W.Frag} {mg : Str → Option Value} {h : Heap} {x : Str} {xs : List V} (i : HasTup K x xs) (X : K.In h) (G : h.Ns mainGlobals mg) : GTup K mg x xs := by
  obtain ⟨a, e, k⟩ := i
  exact ⟨a, PySem.W.mg_of X G e, k⟩
section
variable {X : Cx} {x : Str} {pos : Pos}
theorem pe_globI {n : Int} (h : GInt X.mg x n) (hg : Gl X x) (hd : (x == ("__debug__" : Str)) = false := by decide) : PE X (.Name x pos) (tC (.int n)) := by
  obtain ⟨t, e⟩ := h
  exact pe_glob hg e ⟨t, rfl⟩ hd
/-- a tuple of the top: it is read as xs, wherever it stands -/
def tGT (K : PySem.W.Frag) (xs : List V) : TE := fun _ H Q => ∀ a, KTup K a xs → Q (.ref a) H
theorem pe_globT {xs : List V} (h : GTup X.K X.mg x xs) (hg : Gl X x) (hd : (x == ("__debug__" : Str)) = false := by decide) : PE X (.Name x pos) (tGT X.K xs) := by
  obtain ⟨a, e, k⟩ := h
  exact ⟨fun pins s σ H Q I q => (pe_glob (v := .ref a) hg e rfl hd).run pins s σ H Q I (q a k)⟩
end

/-! ### // by any divisor but 0 -/
def CDivX (_ j : Int) : Prop := j ≠ 0 ∧ j.natAbs.log2 < 9000
theorem op_fdivX {X : Cx} : OpR X (binaryOp .FloorDiv) (rI CDivX fun i j => .int (i.fdiv j)) := opI fun _ _ _ _ _ _ _ hc q => floordiv_int hc.1 q (.inl (PyProof.noPylong_of_log2 hc.2))
theorem fdiv_le_pos (i : Int) {j : Int} (hj : 0 < j) : (i.fdiv j).natAbs ≤ i.natAbs + 1 := by
  have e := Int.mul_fdiv_add_fmod i j
  have h0 := Int.fmod_nonneg_of_pos i hj
  have h1 := Int.fmod_lt_of_pos i hj
  have a : (i.fdiv j).natAbs ≤ (j * i.fdiv j).natAbs := by
    rw [Int.natAbs_mul]; exact Nat.le_mul_of_pos_left _ (by omega)
  by_cases hi : 0 ≤ i
  · have : 0 ≤ i.fdiv j := Int.fdiv_nonneg hi (by omega)
    have : 0 ≤ j * i.fdiv j := Int.mul_nonneg (by omega) this
    omega
  · have q : i.fdiv j ≤ -1 := by
      by_cases z : 0 ≤ i.fdiv j
      · have := Int.mul_nonneg (show 0 ≤ j by omega) z
        omega
      · omega
    have r : -1 + i ≤ i.fdiv j := by
      have : i.fdiv j * (j - 1) ≤ (-1) * (j - 1) := Int.mul_le_mul_of_nonneg_right q (by omega)
      have e2 : j * i.fdiv j = i.fdiv j * (j - 1) + i.fdiv j := by rw [Int.mul_sub, Int.mul_one, Int.mul_comm]; omega
      omega
    omega
theorem fdiv_le (i j : Int) : (i.fdiv j).natAbs ≤ i.natAbs + 1 := by
  by_cases h : 0 < j
  · exact fdiv_le_pos i h
  · by_cases h2 : j = 0
    · subst h2; rw [Int.fdiv_zero]; omega
    · have e : i.fdiv j = (-i).fdiv (-j) := by rw [Int.neg_fdiv_neg]
      have := fdiv_le_pos (-i) (show 0 < -j by omega)
      rw [e]; omega

/-! ### how long a shown thing is at most -/
structure Sm (d : PyData) (dp N : Nat) : Prop where
  ok : d.showable = true
  dp : d.depth ≤ dp
  sz : d.shown.length ≤ N
structure SmAll (ds : List PyData) (dp n N : Nat) : Prop where
  ok : PyData.showableAll ds = true
  dp : PyData.depthAll ds ≤ dp
  len : ds.length ≤ n
  sz : ((PyData.shownAll ds).map (·.length)).sum ≤ N
theorem Sm.show {d : PyData} {dp N : Nat} (h : Sm d dp N) (h1 : dp ≤ 60) (h2 : N ≤ sizeLine) : ShowOk d := ⟨h.ok, Nat.le_trans h.dp h1, Nat.le_trans h.sz h2⟩
theorem Sm.mono {d : PyData} {dp N dp' N' : Nat} (h : Sm d dp N) (h1 : dp ≤ dp') (h2 : N ≤ N') : Sm d dp' N' := ⟨h.ok, Nat.le_trans h.dp h1, Nat.le_trans h.sz h2⟩
theorem shownAll_length : ∀ ds : List PyData, (PyData.shownAll ds).length = ds.length
  | [] => rfl
  | d :: ds => by simp [PyData.shownAll, shownAll_length ds]
theorem Sm.int {i : Int} (h : i.natAbs < 2 ^ 1900) : Sm (.int i) 0 2000 := by
  have hl : i.natAbs.log2 < 1900 := PySem.Flt.log2_lt_of (by decide) h
  refine ⟨?_, Nat.le_refl 0, ?_⟩
  · simp only [PyData.showable, decide_eq_true_eq]; omega
  · have e := int_text_length_le (k := 1900) (by decide) hl
    show (Str.ofString (toString i)).length ≤ 2000
    rw [PySem.ofString_length]; omega
theorem Sm.bool (b : Bool) : Sm (.bool b) 0 10 := ⟨rfl, Nat.le_refl 0, by cases b <;> decide +kernel⟩
theorem Sm.none : Sm .none 0 10 := ⟨rfl, Nat.le_refl 0, by decide +kernel⟩
theorem Sm.str {x : Str} {n : Nat} (h : x.length ≤ n) (hc : ∀ c ∈ x.cps.toList, c < 16 ^ 8) : Sm (.str x) 0 (10 * n + 2) := ⟨rfl, Nat.le_refl 0, by
  have e := PySem.StrLaws.reprText_len x hc
  show (reprText x).length ≤ _
  omega⟩
theorem SmAll.nil : SmAll [] 0 0 0 := ⟨rfl, Nat.le_refl 0, Nat.le_refl 0, Nat.le_refl 0⟩
theorem SmAll.cons {d : PyData} {ds : List PyData} {dp dp' n N M : Nat} (h : Sm d dp N) (t : SmAll ds dp' n M) : SmAll (d :: ds) (max dp dp') (n + 1) (N + M) := by
  have h1 := h.dp
  have h2 := t.dp
  refine ⟨by simp [PyData.showableAll, h.ok, t.ok], ?_, by have := t.len; simp; omega, ?_⟩
  · simp only [PyData.depthAll]; omega
  · have := h.sz
    have := t.sz
    simp only [PyData.shownAll, List.map_cons, List.sum_cons]; omega
theorem Sm.tup {ds : List PyData} {dp n N : Nat} (h : SmAll ds dp n N) : Sm (.tuple ds) (dp + 1) (N + 2 * n + 3) := by
  refine ⟨by simpa [PyData.showable] using h.ok, by simp only [PyData.depth]; have := h.dp; omega, ?_⟩
  have e := tupleText_len_le (PyData.shownAll ds)
  have := h.sz
  have := h.len
  rw [shownAll_length] at e
  show (tupleText (PyData.shownAll ds)).length ≤ _
  omega
theorem Sm.lst {ds : List PyData} {dp n N : Nat} (h : SmAll ds dp n N) : Sm (.list ds) (dp + 1) (N + 2 * n + 3) := by
  refine ⟨by simpa [PyData.showable] using h.ok, by simp only [PyData.depth]; have := h.dp; omega, ?_⟩
  have e := listText_len_le (PyData.shownAll ds)
  have := h.sz
  have := h.len
  rw [shownAll_length] at e
  show (listText (PyData.shownAll ds)).length ≤ _
  omega
theorem SmAll.many {dp N : Nat} : ∀ {ds : List PyData}, (∀ d ∈ ds, Sm d dp N) → SmAll ds dp ds.length (N * ds.length)
  | [], _ => ⟨rfl, Nat.zero_le _, Nat.le_refl 0, Nat.zero_le _⟩
  | d :: ds, h => by
    have t := SmAll.cons (h d (by simp)) (SmAll.many (fun e he => h e (List.mem_cons_of_mem _ he)))
    rw [Nat.max_self] at t
    refine ⟨t.ok, t.dp, t.len, Nat.le_trans t.sz ?_⟩
    rw [List.length_cons, Nat.mul_succ]; omega
theorem sz_0 : (0 : Nat) ≤ sizeLine := by decide
theorem sz_1 : (1 : Nat) ≤ sizeLine := by decide
theorem sz_2 : (2 : Nat) ≤ sizeLine := by decide
theorem sz_3 : (3 : Nat) ≤ sizeLine := by decide
theorem sz_4 : (4 : Nat) ≤ sizeLine := by decide
theorem sz_5 : (5 : Nat) ≤ sizeLine := by decide
/-! ### the ends: each premise a fact that k_is finds -/
theorem HasFn.mk' {K : PySem.W.Frag} {x : Str} {st : Stmt} {f : Addr} {oc : Value} {od an : Option Addr} {kV doc pm cdv ct : Value} {osl : Array (Option Value)} (a : PySem.W.nsIn K mainGlobals x = some (some (.ref f)))
    (b : K.lookup f = some ⟨oc, od, .func (PySem.W.fnOf x x (defArgs st) (defBody st) (defScope st) .none kV doc pm an cdv ct), osl⟩) (c : PySem.W.codeIn K cdv x = true) (d : PySem.W.keepIn K (.ref f) = true) : HasFn K x st :=
  ⟨f, oc, od, an, kV, doc, pm, cdv, ct, osl, a, b, c, d⟩
theorem HasInt.mk' {K : PySem.W.Frag} {x : Str} {n m : Int} {t : Tok} (a : PySem.W.nsIn K mainGlobals x = some (some (.int m t))) (e : m = n) : HasInt K x n := ⟨t, m, a, e⟩
theorem HasTup.mk' {K : PySem.W.Frag} {x : Str} {xs : List V} {a : Addr} {od : Option Addr} {its : Array Value} {n : Nat} {sl : Array (Option Value)} (h : PySem.W.nsIn K mainGlobals x = some (some (.ref a)))
    (b : K.lookup a = some ⟨.type "tuple", od, .seq its n, sl⟩) (z : its.size ≤ sizeLine) (v : Vals xs its.toList) : HasTup K x xs := ⟨a, h, od, its, n, sl, b, z, v⟩
end LK

set_option Elab.async false
set_option linter.all false
set_option maxRecDepth 100000
set_option maxHeartbeats 4000000

namespace K18
open PySem PySem.Spec PyProof.Rows L2 LK
def top (i : Nat) : Stmt := PySem.Challenge.pw_pyhold_k18_arithmetic.main.body.getD i (.Pass ⟨0, 0, 0, 0⟩)
abbrev s_law_cell : Stmt := top 23
abbrev N_law_cell : List Str := ["script", "k"]
abbrev P_law_cell : List Str := ["script", "k"]
theorem sc_law_cell : FnScope N_law_cell P_law_cell (defScope s_law_cell) := ⟨rfl, rfl, rfl, by decide +kernel, rfl, by decide +kernel, by decide +kernel⟩
abbrev s_law_digits : Stmt := top 24
abbrev N_law_digits : List Str := ["script", "first", "last", "digits", "k", "cell", "turn", "seed"]
abbrev P_law_digits : List Str := ["script", "first", "last"]
theorem sc_law_digits : FnScope N_law_digits P_law_digits (defScope s_law_digits) := ⟨rfl, rfl, rfl, by decide +kernel, rfl, by decide +kernel, by decide +kernel⟩
abbrev s_law_draw : Stmt := top 25
abbrev N_law_draw : List Str := ["box", "many", "at"]
abbrev P_law_draw : List Str := ["box", "many"]
theorem sc_law_draw : FnScope N_law_draw P_law_draw (defScope s_law_draw) := ⟨rfl, rfl, rfl, by decide +kernel, rfl, by decide +kernel, by decide +kernel⟩
abbrev s_law_number : Stmt := top 27
abbrev N_law_number : List Str := ["box", "kind", "sign", "number", "k"]
abbrev P_law_number : List Str := ["box"]
theorem sc_law_number : FnScope N_law_number P_law_number (defScope s_law_number) := ⟨rfl, rfl, rfl, by decide +kernel, rfl, by decide +kernel, by decide +kernel⟩
abbrev s_law_bound : Stmt := top 26
abbrev N_law_bound : List Str := []
abbrev P_law_bound : List Str := []
theorem sc_law_bound : FnScope N_law_bound P_law_bound (defScope s_law_bound) := ⟨rfl, rfl, rfl, by decide +kernel, rfl, by decide +kernel, by decide +kernel⟩
abbrev s_law_same : Stmt := top 28
abbrev N_law_same : List Str := ["actual", "due"]
abbrev P_law_same : List Str := ["actual", "due"]
theorem sc_law_same : FnScope N_law_same P_law_same (defScope s_law_same) := ⟨rfl, rfl, rfl, by decide +kernel, rfl, by decide +kernel, by decide +kernel⟩
abbrev s_law_value : Stmt := top 29
abbrev N_law_value : List Str := ["box", "number"]
abbrev P_law_value : List Str := ["box", "number"]
theorem sc_law_value : FnScope N_law_value P_law_value (defScope s_law_value) := ⟨rfl, rfl, rfl, by decide +kernel, rfl, by decide +kernel, by decide +kernel⟩
abbrev s_law_due : Stmt := top 30
abbrev N_law_due : List Str := ["op", "x", "y", "result"]
abbrev P_law_due : List Str := ["op", "x", "y"]
theorem sc_law_due : FnScope N_law_due P_law_due (defScope s_law_due) := ⟨rfl, rfl, rfl, by decide +kernel, rfl, by decide +kernel, by decide +kernel⟩
abbrev s_is_number : Stmt := top 10
abbrev N_is_number : List Str := ["value"]
abbrev P_is_number : List Str := ["value"]
theorem sc_is_number : FnScope N_is_number P_is_number (defScope s_is_number) := ⟨rfl, rfl, rfl, by decide +kernel, rfl, by decide +kernel, by decide +kernel⟩
abbrev s_binary : Stmt := top 17
abbrev N_binary : List Str := ["heap", "op", "a", "b"]
abbrev P_binary : List Str := ["heap", "op", "a", "b"]
theorem sc_binary : FnScope N_binary P_binary (defScope s_binary) := ⟨rfl, rfl, rfl, by decide +kernel, rfl, by decide +kernel, by decide +kernel⟩
abbrev s_negated : Stmt := top 18
abbrev N_negated : List Str := ["heap", "a"]
abbrev P_negated : List Str := ["heap", "a"]
theorem sc_negated : FnScope N_negated P_negated (defScope s_negated) := ⟨rfl, rfl, rfl, by decide +kernel, rfl, by decide +kernel, by decide +kernel⟩
abbrev s_calculated : Stmt := top 19
abbrev N_calculated : List Str := ["op", "one", "other", "number"]
abbrev P_calculated : List Str := ["op", "one", "other"]
theorem sc_calculated : FnScope N_calculated P_calculated (defScope s_calculated) := ⟨rfl, rfl, rfl, by decide +kernel, rfl, by decide +kernel, by decide +kernel⟩
abbrev s_law : Stmt := top 31
abbrev N_law : List Str := ["script", "box", "turn", "x", "y", "a", "b", "heap", "op"]
abbrev P_law : List Str := ["script"]
theorem sc_law : FnScope N_law P_law (defScope s_law) := ⟨rfl, rfl, rfl, by decide +kernel, rfl, by decide +kernel, by decide +kernel⟩
structure Txt (K : PySem.W.Frag) (mg : Str → Option Value) : Prop where
  c_INTEGER_END : GInt mg "INTEGER_END" (2 ^ 256)
  c_ZERO_DIVISION_ERROR : GInt mg "ZERO_DIVISION_ERROR" 3
  c_INTEGER_TOO_LARGE : GTup K mg "INTEGER_TOO_LARGE" [.str "raise", .int 4, .str "integer too large"]
  b_len : mg "len" = none
  b_int : mg "int" = none
  b_abs : mg "abs" = none
  b_repr : mg "repr" = none
  b_range : mg "range" = none
/-! the digits and the place -/
def BoxAt (H : Hp) (p : Addr) : Prop := ∃ (dl : Addr) (ds : List Int) (k : Int), H p = some (.lst [.ref dl, .int k]) ∧ 0 ≤ k ∧ H dl = some (.lst (ds.map V.int)) ∧ ds.length ≤ 4000 ∧ ∀ d ∈ ds, 0 ≤ d ∧ d < 1000
theorem BoxAt.at_ {H : Hp} {p : Addr} (h : BoxAt H p) : True ∧ H p = some (.lst [.ref h.choose, .int h.choose_spec.choose_spec.choose]) := ⟨trivial, h.choose_spec.choose_spec.choose_spec.1⟩
def Keep (p : Addr) (H H' : Hp) : Prop := ∀ b o, H b = some o → b ≠ p → H' b = some o
def spDraw (K : PySem.W.Frag) : Sp := fun vs H Q _ => ∃ (p : Addr) (m : Int), vs = [.ref p, .int m] ∧ BoxAt H p ∧ 0 < m ∧ ∀ r H', 0 ≤ r → r < m → BoxAt H' p → Keep p H H' → Q (.int r) H'
section
variable {P : Program} {w : World} {K : PySem.W.Frag} {mg : Str → Option Value} {base : Heap}
theorem ok_draw {f : Addr} {fd : FuncData} (F : Fun K "_law_draw" "_law_draw" s_law_draw f fd) (T : Txt K mg) : FnG P w K mg base CX0 1 f fd P_law_draw (spDraw K) := by
  refine okG0 F sc_law_draw (fun vs H Q E h => ?_) fun cdv A outer s H vs Q E hr hg h => ?_
  · obtain ⟨p, m, rfl, _⟩ := h
    rfl
  · obtain ⟨p, m, rfl, B, hm, k⟩ := h
    obtain ⟨dl, ds, n, hp, hn, hd, hl, hds⟩ := id B
    refine ⟨_, (pss_cons (ps_set (i := 2) sc_law_draw.nd rfl (Or.inl rfl) (pe_ix ix_list (pv 0) pe_int (fun _ _ => rfl)))
  (pss_cons (ps_asg (pe_op op_add (pv 2) pe_int) (pg_sub (pv 0) pe_int set_list))
  (pss_cons (ps_if (pt_cmpR op_lt (pv 2) (pe_callB call_len (by rfl) T.b_len PySem.boot_len (pa_cons (pe_ix ix_list (pv 0) pe_int (fun _ _ => rfl)) pa_nil)) (nomark _))
   (pss_one (ps_ret (pe_op op_mod (pe_callTy call_int1 (by rfl) T.b_int (by decide +kernel) (pa_cons (pe_ix ix_list (pe_ix ix_list (pv 0) pe_int (fun _ _ => rfl)) (pv 2) (fun _ _ => rfl)) pa_nil)) (pv 1))))
   pss_nil)
  (pss_one (ps_ret pe_int))))), ?_⟩
    -- at = box[1]; box[1] = at + 1
    refine ⟨_, rfl, p, _, _, _, rfl, rfl, SqL.of hp, rfl, ?_⟩
    refine ⟨_, rfl, _, _, rfl, rfl, _, rfl, p, _, _, _, rfl, rfl, hp, rfl, ?_⟩
    have npd : dl ≠ p := by
      intro e
      subst e
      rw [hp] at hd
      have e := HO.lst.inj (Option.some.inj hd)
      cases ds with
      | nil => cases e
      | cons d ds => cases (List.cons.inj e).1
    have B' : BoxAt (upd H p (.lst [.ref dl, .int (n + 1)])) p := ⟨dl, ds, n + 1, upd_same, by omega, by rw [upd_ne npd]; exact hd, hl, hds⟩
    have kp : Keep p H (upd H p (.lst [.ref dl, .int (n + 1)])) := fun b o e hb => by rw [upd_ne hb]; exact e
    have hd' : upd H p (.lst [.ref dl, .int (n + 1)]) dl = some (.lst (ds.map V.int)) := by rw [upd_ne npd]; exact hd
    -- if at < len(box[0])
    refine ⟨_, rfl, _, rfl, p, _, _, _, rfl, rfl, SqL.of upd_same, rfl, _, _, rfl, .inl ⟨_, SqL.of hd', rfl⟩, ?_⟩
    refine ⟨_, _, rfl, rfl, _, rfl, ?_⟩
    refine ite2 (fun c => ?_) fun c => ?_
    · have c1 : n < (ds.length : Int) := by simpa using c
      have c2 : n.toNat < ds.length := by omega
      have mem := hds _ (List.getElem_mem c2)
      refine ⟨_, rfl, p, _, _, _, rfl, rfl, SqL.of upd_same, rfl, _, rfl, dl, _, _, .int ds[n.toNat], rfl, rfl, SqL.of hd', ?_, .inl ⟨_, rfl, ?_⟩⟩
      · have e : n = ((n.toNat : Nat) : Int) := by omega
        exact at_of e (by simp [c2])
      · refine ⟨_, rfl, _, _, rfl, rfl, hm, ?_⟩
        exact k _ _ (Int.emod_nonneg _ (by omega)) (Int.emod_lt_of_pos _ hm) B' kp
    · exact k 0 _ (Int.le_refl 0) hm B' kp
/-! cells and digits -/
def spCell (K : PySem.W.Frag) : Sp := fun vs H Q _ => ∃ (a : Addr) (ns : List Int) (i : Int), vs = [.ref a, .int i] ∧ SqL K H a (ns.map V.int) ∧ 0 ≤ i ∧ ∀ r, Q (.int r) H
theorem ok_cell {f : Addr} {fd : FuncData} (F : Fun K "_law_cell" "_law_cell" s_law_cell f fd) (T : Txt K mg) : FnG P w K mg base CX0 1 f fd P_law_cell (spCell K) := by
  refine okG0 F sc_law_cell (fun vs H Q E h => ?_) fun cdv A outer s H vs Q E hr hg h => ?_
  · obtain ⟨a, ns, i, rfl, _⟩ := h
    rfl
  · obtain ⟨a, ns, i, rfl, hs, hi, k⟩ := h
    refine ⟨_, (pss_cons (ps_if (pt_cmpR op_lt (pv 1) (pe_callB call_len (by rfl) T.b_len PySem.boot_len (pa_cons (pv 0) pa_nil)) (nomark _))
   (pss_one (ps_ret (pe_ix ix_list (pv 0) (pv 1) (fun _ _ => rfl))))
   pss_nil)
  (pss_one (ps_ret pe_int))), ?_⟩
    refine ⟨_, rfl, _, rfl, _, _, rfl, .inl ⟨_, hs, rfl⟩, _, _, rfl, rfl, _, rfl, ?_⟩
    refine ite3 (fun c => ?_) fun _ => k 0
    have c1 : i < (ns.length : Int) := by simpa using c
    have c2 : i.toNat < ns.length := by omega
    exact ⟨_, rfl, _, rfl, a, _, _, .int ns[i.toNat], rfl, rfl, hs, at_of (show i = ((i.toNat : Nat) : Int) by omega) (by simp [c2]), k _⟩
def DigAt (H0 H : Hp) (dl : Addr) (n : Nat) : Prop := ∃ ds : List Int, H dl = some (.lst (ds.map V.int)) ∧ ds.length ≤ n ∧ (∀ d ∈ ds, 0 ≤ d ∧ d < 1000) ∧ Same H0 H
theorem DigAt.mono {H0 H : Hp} {dl : Addr} {n m : Nat} (h : DigAt H0 H dl n) (l : n ≤ m) : DigAt H0 H dl m := let ⟨ds, a, b, c, d⟩ := h; ⟨ds, a, by omega, c, d⟩
theorem DigAt.add {H0 H : Hp} {dl : Addr} {n : Nat} {r : Int} {xs : List V} (h : DigAt H0 H dl n) (hx : H dl = some (.lst xs)) (nd : H0 dl = none) (h0 : 0 ≤ r) (h1 : r < 1000) : DigAt H0 (upd H dl (.lst (xs ++ [.int r]))) dl (n + 1) := by
  obtain ⟨ds, a, b, c, d⟩ := h
  rw [hx] at a
  obtain rfl := HO.lst.inj (Option.some.inj a)
  refine ⟨ds ++ [r], by rw [upd_same, List.map_append]; rfl, by simp; omega, fun z hz => ?_, fun q o e => by rw [upd_ne (ne_of_none e nd)]; exact d q o e⟩
  rcases List.mem_append.mp hz with hz | hz
  · exact c z hz
  · have : z = r := by simpa using hz
    omega
def spDigits (K : PySem.W.Frag) : Sp := fun vs H Q _ => ∃ (a : Addr) (ns : List Int) (lo hi : Nat), vs = [.ref a, .int lo, .int hi] ∧ SqL K H a (ns.map V.int) ∧ lo ≤ hi ∧ hi ≤ 64 ∧
  ∀ (p : Addr) (H' : Hp), H p = none → DigAt H H' p 4000 → Q (.ref p) H'
theorem ok_digits {f : Addr} {fd : FuncData} (F : Fun K "_law_digits" "_law_digits" s_law_digits f fd) (T : Txt K mg) (U_law_cell : Use P w K mg base CX0 "_law_cell" 1 P_law_cell (spCell K)) : FnG P w K mg base CX0 2 f fd P_law_digits (spDigits K) := by
  refine okG0 F sc_law_digits (fun vs H Q E h => ?_) fun cdv A outer s H vs Q E hr hg h => ?_
  · obtain ⟨a, ns, lo, hi, rfl, _⟩ := h
    rfl
  · obtain ⟨a, ns, lo, hi, rfl, hs, hlo, hhi, k⟩ := h
    refine ⟨_, (pss_cons (ps_set (i := 3) sc_law_digits.nd rfl (Or.inl rfl) (pe_lst pa_nil))
  (pss_cons (ps_for PassesOwn.never rfl (pi_range2 (by rfl) T.b_range (pa_cons (pv 1) (pa_cons (pv 2) pa_nil))) (pg_name (i := 4) sc_law_digits.nd rfl (Or.inl rfl))
   (pss_cons (ps_set (i := 5) sc_law_digits.nd rfl (Or.inl rfl) (pe_use U_law_cell (hr.mono (by decide)) hg rfl (pa_cons (pv 0) (pa_cons (pv 4) pa_nil))))
  (C8.pss_cut (ps_if (pt_cmpR op_lt (pv 5) pe_int (nomark _))
   (pss_one (ps_set (i := 5) sc_law_digits.nd rfl (Or.inl rfl) (pe_op op_sub pe_int (pe_op op_mul pe_int (pv 5)))))
   pss_nil)
  (pss_one (ps_if (pt_cmpR op_ge (pv 5) (pe_op op_pow pe_int pe_int) (nomark _))
   (pss_one (ps_for PassesOwn.never rfl (pi_range1 (by rfl) T.b_range (pa_cons pe_int pa_nil)) (pg_name (i := 6) sc_law_digits.nd rfl (Or.inl rfl))
   (pss_one (ps_if (pt_cmpR op_gt (pv 5) pe_int (nomark _))
   (pss_cons (ps_expr (pe_bm PySem.F.plainAttrs_list PySem.F.slot_list_append PySem.F.type_list_append mt_append (pv 3) (pa_cons (pe_op op_mod (pe_callTy call_int1 (by rfl) T.b_int (by decide +kernel) (pa_cons (pv 5) pa_nil)) pe_int) pa_nil)))
  (pss_one (ps_set (i := 5) sc_law_digits.nd rfl (Or.inl rfl) (pe_op op_fdiv (pv 5) pe_int))))
   pss_nil))))
   (pss_cons (ps_set (i := 7) sc_law_digits.nd rfl (Or.inl rfl) (pe_op op_mod (pe_callTy call_int1 (by rfl) T.b_int (by decide +kernel) (pa_cons (pe_op op_add (pe_op op_add (pe_op op_mul (pv 5) pe_int) (pe_op op_mul (pv 4) pe_int)) pe_int) pa_nil)) pe_int))
  (pss_one (ps_for PassesOwn.never rfl (pi_range1 (by rfl) T.b_range (pa_cons pe_int pa_nil)) (pg_name (i := 6) sc_law_digits.nd rfl (Or.inl rfl))
   (pss_cons (ps_set (i := 7) sc_law_digits.nd rfl (Or.inl rfl) (pe_op op_mod (pe_callTy call_int1 (by rfl) T.b_int (by decide +kernel) (pa_cons (pe_op op_add (pe_op op_add (pe_op op_mul (pv 7) pe_int) (pe_op op_mul pe_int (pv 6))) pe_int) pa_nil)) pe_int))
  (pss_one (ps_expr (pe_bm PySem.F.plainAttrs_list PySem.F.slot_list_append PySem.F.type_list_append mt_append (pv 3) (pa_cons (pe_op op_mod (pe_callTy call_int1 (by rfl) T.b_int (by decide +kernel) (pa_cons (pe_op op_fdiv (pv 7) pe_int) pa_nil)) pe_int) pa_nil)))))))))))))
  (pss_one (ps_ret (pv 3))))), ?_⟩
    refine ⟨by decide, fun dl nd => ?_⟩
    have sz : (4000 : Nat) < sizeLine := by decide
    -- for k in range(first, last)
    refine ⟨_, rfl, _, rfl, _, _, rfl, ⟨by omega, by omega, by omega, by omega⟩, ?_⟩
    refine for_range (lo := (lo : Int)) (n := ((hi : Int) - (lo : Int)).toNat) (fun i σ H1 => ∃ x5 x6 x7 x4, σ = [some (.ref a), some (.int lo), some (.int hi), some (.ref dl), x4, x5, x6, x7] ∧ DigAt H H1 dl (60 * i)) ?_ ?_ ?_
    · exact ⟨none, none, none, none, rfl, [], upd_same, by simp, by simp, Same.new nd⟩
    · rintro i σ H1 hi' ⟨x5, x6, x7, x4, rfl, D⟩
      have S1 : Same H H1 := let ⟨_, _, _, _, z⟩ := D; z
      -- cell = _law_cell(script, k)
      refine ⟨_, rfl, _, rfl, a, ns, _, rfl, S1.seq hs, by omega, fun cell => ?_⟩
      -- if cell < 0: cell = 1 - 2 * cell
      refine ⟨fun σ H2 => ∃ c : Int, σ = [some (.ref a), some (.int lo), some (.int hi), some (.ref dl), some (.int ((lo : Int) + i)), some (.int c), x6, x7] ∧ H2 = H1, ?_, ?_⟩
      · refine ⟨_, rfl, _, _, rfl, rfl, _, rfl, ?_⟩
        refine ite3 (fun _ => ?_) fun _ => ⟨cell, rfl, rfl⟩
        exact ⟨_, rfl, _, _, rfl, rfl, .inl ⟨by decide, by decide⟩, _, _, rfl, rfl, _, rfl, rfl⟩
      · rintro _ _ ⟨c, rfl, rfl⟩
        -- if cell >= 10 ** 18
        refine ⟨_, rfl, _, _, rfl, rfl, ⟨by decide, by decide, by decide⟩, _, _, rfl, rfl, _, rfl, ?_⟩
        refine ite3 (fun hc => ?_) fun hc => ?_
        · refine ⟨_, rfl, by decide, by decide, ?_⟩
          refine for_range (lo := 0) (n := 60) (fun j σ H1 => ∃ (c : Int) (y6 : Option V), σ = [some (.ref a), some (.int lo), some (.int hi), some (.ref dl), some (.int ((lo : Int) + i)), some (.int c), y6, x7] ∧ DigAt H H1 dl (60 * i + j)) ⟨c, x6, rfl, D⟩ ?_ ?_
          · rintro j σ H2 hj ⟨c, y6, rfl, D2⟩
            obtain ⟨ds, hd, hl, _⟩ := id D2
            refine ⟨_, rfl, _, _, rfl, rfl, _, rfl, ?_⟩
            refine ite3 (fun hp => ?_) fun _ => ⟨c, _, rfl, D2.mono (by omega)⟩
            have hp : 0 < c := by simpa using hp
            refine ⟨_, rfl, .inl ⟨rfl, _, SqL.of hd⟩, _, rfl, .inl ⟨_, rfl, _, _, rfl, rfl, (by show (0 : Int) < 1000; decide), dl, _, _, rfl, rfl, hd, (by simp; omega), ?_⟩⟩
            refine ⟨_, rfl, _, _, rfl, rfl, ⟨by decide, by decide⟩, ?_⟩
            exact ⟨_, _, rfl, D2.add hd nd (Int.emod_nonneg _ (by decide)) (Int.emod_lt_of_pos _ (by decide))⟩
          · rintro σ H2 ⟨c, y6, rfl, D2⟩
            exact ⟨_, _, _, _, rfl, D2.mono (by omega)⟩
        · refine ⟨_, rfl, _, _, rfl, rfl, .inr ⟨by decide, by decide⟩, _, rfl, _, _, rfl, rfl, .inr ⟨by decide, by decide⟩, _, _, rfl, rfl, _, _, rfl, rfl, .inl ⟨_, rfl, _, _, rfl, rfl, (by show (0 : Int) < 2147483647; decide), ?_⟩⟩
          refine ⟨_, rfl, by decide, by decide, ?_⟩
          refine for_range (lo := 0) (n := 12) (fun j σ H1 => ∃ (sd : Int) (y6 : Option V), σ = [some (.ref a), some (.int lo), some (.int hi), some (.ref dl), some (.int ((lo : Int) + i)), some (.int c), y6, some (.int sd)] ∧ DigAt H H1 dl (60 * i + j)) ⟨_, x6, rfl, D⟩ ?_ ?_
          · rintro j σ H2 hj ⟨sd, y6, rfl, D2⟩
            obtain ⟨ds, hd, hl, _⟩ := id D2
            refine ⟨_, rfl, _, _, rfl, rfl, .inr ⟨by decide, by decide⟩, _, rfl, _, _, rfl, rfl, .inl ⟨by decide, by decide⟩, _, _, rfl, rfl, _, _, rfl, rfl, .inl ⟨_, rfl, _, _, rfl, rfl, (by show (0 : Int) < 2147483647; decide), ?_⟩⟩
            refine ⟨_, rfl, .inl ⟨rfl, _, SqL.of hd⟩, _, rfl, _, _, rfl, rfl, ⟨by decide, by decide⟩, .inl ⟨_, rfl, _, _, rfl, rfl, (by show (0 : Int) < 1000; decide), dl, _, _, rfl, rfl, hd, (by simp; omega), ?_⟩⟩
            exact ⟨_, _, rfl, D2.add hd nd (Int.emod_nonneg _ (by decide)) (Int.emod_lt_of_pos _ (by decide))⟩
          · rintro σ H2 ⟨sd, y6, rfl, D2⟩
            exact ⟨_, _, _, _, rfl, D2.mono (by omega)⟩
    · rintro σ H1 ⟨x5, x6, x7, x4, rfl, D⟩
      exact ⟨_, rfl, k dl H1 nd (D.mono (by omega))⟩
/-! the number -/
def spBound : Sp := fun vs H Q _ => vs = [] ∧ Q (.int (2 ^ 256)) H
theorem ok_bound {f : Addr} {fd : FuncData} (F : Fun K "_law_bound" "_law_bound" s_law_bound f fd) : FnG P w K mg base CX0 1 f fd P_law_bound spBound := by
  refine okG0 F sc_law_bound (fun vs H Q E h => ?_) fun cdv A outer s H vs Q E hr hg h => ?_
  · obtain ⟨rfl, _⟩ := h
    rfl
  · obtain ⟨rfl, k⟩ := h
    refine ⟨_, (pss_one (ps_ret (pe_op op_mulW (pe_op op_mulW (pe_op op_mulW (pe_op op_pow pe_int pe_int) (pe_op op_pow pe_int pe_int)) (pe_op op_pow pe_int pe_int)) (pe_op op_pow pe_int pe_int)))), ?_⟩
    refine ⟨_, _, rfl, rfl, ⟨by decide, by decide, by decide⟩, _, _, rfl, rfl, ⟨by decide, by decide, by decide⟩, _, _, rfl, rfl, wide_mul (a := 65) (b := 65) (by decide) (by decide) (by decide) (by decide) (by decide), ?_⟩
    refine ⟨_, _, rfl, rfl, ⟨by decide, by decide, by decide⟩, _, _, rfl, rfl, wide_mul (a := 129) (b := 65) (by decide) (by decide) (by decide) (by decide) (by decide), ?_⟩
    refine ⟨_, _, rfl, rfl, ⟨by decide, by decide, by decide⟩, _, _, rfl, rfl, wide_mul (a := 193) (b := 65) (by decide) (by decide) (by decide) (by decide) (by decide), ?_⟩
    have e : (2 : Int) ^ (64 : Int).toNat * 2 ^ (64 : Int).toNat * 2 ^ (64 : Int).toNat * 2 ^ (64 : Int).toNat = 2 ^ 256 := by decide +kernel
    exact (congrArg (fun z : Int => Q (V.int z) H) e).mpr k
theorem Keep.trans {p : Addr} {H H1 H2 : Hp} (a : Keep p H H1) (b : Keep p H1 H2) : Keep p H H2 := fun c o h ne => b c o (a c o h ne) ne
theorem Keep.refl (p : Addr) (H : Hp) : Keep p H H := fun _ _ h _ => h
def Sgn (z : Int) : Prop := z = 1 ∨ z = -1
theorem Sgn.mul {z n : Int} (h : Sgn z) : (z * n).natAbs = n.natAbs := by
  rcases h with rfl | rfl <;> omega
theorem Sgn.wide {z n : Int} (h : Sgn z) (hn : n.natAbs < 2 ^ 300) : CMulW z n := wide_mul (a := 2) (b := 300) (by rcases h with rfl | rfl <;> decide) hn (by decide) (by decide) (by decide)
def spNumber (K : PySem.W.Frag) : Sp := fun vs H Q _ => ∃ (p : Addr), vs = [.ref p] ∧ BoxAt H p ∧ ∀ (n : Int) H', n.natAbs < 2 ^ 260 → BoxAt H' p → Keep p H H' → Q (.int n) H'
theorem ok_number {f : Addr} {fd : FuncData} (F : Fun K "_law_number" "_law_number" s_law_number f fd) (T : Txt K mg) (U_law_draw : Use P w K mg base CX0 "_law_draw" 1 P_law_draw (spDraw K))
    (U_law_bound : Use P w K mg base CX0 "_law_bound" 1 P_law_bound spBound) : FnG P w K mg base CX0 2 f fd P_law_number (spNumber K) := by
  refine okG0 F sc_law_number (fun vs H Q E h => ?_) fun cdv A outer s H vs Q E hr hg h => ?_
  · obtain ⟨p, rfl, _⟩ := h
    rfl
  · obtain ⟨p, rfl, B, k⟩ := h
    refine ⟨_, (pss_cons (ps_set (i := 1) sc_law_number.nd rfl (Or.inl rfl) (pe_use U_law_draw (hr.mono (by decide)) hg rfl (pa_cons (pv 0) (pa_cons pe_int pa_nil))))
  (pss_cons (ps_set (i := 2) sc_law_number.nd rfl (Or.inl rfl) (pe_op op_sub pe_int (pe_op op_mulW pe_int (pe_use U_law_draw (hr.mono (by decide)) hg rfl (pa_cons (pv 0) (pa_cons pe_int pa_nil))))))
  (pss_cons (ps_if (pt_cmpR op_lt (pv 1) pe_int (nomark _))
   (pss_one (ps_ret (pe_op op_mulW (pv 2) (pe_use U_law_draw (hr.mono (by decide)) hg rfl (pa_cons (pv 0) (pa_cons pe_int pa_nil))))))
   pss_nil)
  (pss_cons (ps_if (pt_cmpR op_eq (pv 1) pe_int (nomark _))
   (pss_one (ps_ret (pe_op op_mulW (pv 2) (pe_op op_sub (pe_op op_sub (pe_use0 U_law_bound (hr.mono (by decide)) hg rfl) pe_int) (pe_use U_law_draw (hr.mono (by decide)) hg rfl (pa_cons (pv 0) (pa_cons pe_int pa_nil)))))))
   pss_nil)
  (pss_cons (ps_if (pt_cmpR op_eq (pv 1) pe_int (nomark _))
   (pss_one (ps_ret (pe_op op_mulW (pv 2) (pe_op op_sub (pe_op op_add (pe_op op_mulW (pe_op op_pow pe_int pe_int) (pe_op op_pow pe_int pe_int)) (pe_use U_law_draw (hr.mono (by decide)) hg rfl (pa_cons (pv 0) (pa_cons pe_int pa_nil)))) pe_int))))
   pss_nil)
  (pss_cons (ps_set (i := 3) sc_law_number.nd rfl (Or.inl rfl) pe_int)
  (pss_cons (ps_for PassesOwn.never rfl (pi_range1 (by rfl) T.b_range (pa_cons (pe_op op_add pe_int (pe_use U_law_draw (hr.mono (by decide)) hg rfl (pa_cons (pv 0) (pa_cons pe_int pa_nil)))) pa_nil)) (pg_name (i := 4) sc_law_number.nd rfl (Or.inl rfl))
   (pss_one (ps_set (i := 3) sc_law_number.nd rfl (Or.inl rfl) (pe_op op_add (pe_op op_mulW (pv 3) pe_int) (pe_use U_law_draw (hr.mono (by decide)) hg rfl (pa_cons (pv 0) (pa_cons pe_int pa_nil)))))))
  (pss_one (ps_ret (pe_op op_mulW (pv 2) (pv 3))))))))))), ?_⟩
    have fin : ∀ (z n : Int) H', Sgn z → n.natAbs < 2 ^ 260 → BoxAt H' p → Keep p H H' → Q (.int (z * n)) H' := fun z n H' hz hn hB hK => k _ H' (by rw [hz.mul]; exact hn) hB hK
    -- kind, sign
    refine ⟨_, rfl, p, 7, rfl, B, by decide, fun kind H1 k0 k1 B1 K1 => ?_⟩
    refine ⟨_, rfl, p, 2, rfl, B1, by decide, fun sg H2 s0 s1 B2 K2 => ?_⟩
    refine ⟨_, _, rfl, rfl, wide_mul (a := 3) (b := 3) (by decide) (by omega) (by decide) (by decide) (by decide), _, _, rfl, rfl, ?_⟩
    have hs : Sgn (1 - 2 * sg) := by unfold Sgn; omega
    have K12 := K1.trans K2
    -- kind < 3
    refine ⟨_, rfl, _, _, rfl, rfl, _, rfl, ?_⟩
    refine ite3 (fun _ => ?_) fun _ => ?_
    · refine ⟨_, rfl, _, rfl, p, 30, rfl, B2, by decide, fun n H3 n0 n1 B3 K3 => ?_⟩
      exact ⟨_, _, rfl, rfl, hs.wide (by omega), fin _ _ _ hs (by omega) B3 (K12.trans K3)⟩
    -- kind == 3
    refine ⟨_, rfl, rfl, _, rfl, ?_⟩
    refine ite3 (fun _ => ?_) fun _ => ?_
    · refine ⟨_, rfl, rfl, _, _, rfl, rfl, _, rfl, p, 3, rfl, B2, by decide, fun n H3 n0 n1 B3 K3 => ?_⟩
      exact ⟨_, _, rfl, rfl, _, _, rfl, rfl, hs.wide (by omega), fin _ _ _ hs (by omega) B3 (K12.trans K3)⟩
    -- kind == 4
    refine ⟨_, rfl, rfl, _, rfl, ?_⟩
    refine ite3 (fun _ => ?_) fun _ => ?_
    · refine ⟨_, rfl, _, _, rfl, rfl, ⟨by decide, by decide, by decide⟩, _, _, rfl, rfl, ⟨by decide, by decide, by decide⟩, _, _, rfl, rfl, wide_mul (a := 65) (b := 65) (by decide) (by decide) (by decide) (by decide) (by decide), ?_⟩
      refine ⟨_, rfl, p, 5, rfl, B2, by decide, fun n H3 n0 n1 B3 K3 => ?_⟩
      have e : (2 : Int) ^ (64 : Int).toNat * 2 ^ (64 : Int).toNat = 340282366920938463463374607431768211456 := by decide +kernel
      refine ⟨_, _, rfl, rfl, _, _, rfl, rfl, _, _, rfl, rfl, hs.wide ?_, fin _ _ _ hs ?_ B3 (K12.trans K3)⟩
      · rw [e]; omega
      · rw [e]; omega
    -- the loop
    refine ⟨_, rfl, p, 25, rfl, B2, by decide, fun n H3 n0 n1 B3 K3 => ?_⟩
    refine ⟨_, _, rfl, rfl, _, rfl, by omega, by omega, ?_⟩
    refine for_range (lo := 0) (n := (1 + n).toNat) (fun i σ H4 => ∃ (m : Int) (x4 : Option V), σ = [some (.ref p), some (.int kind), some (.int (1 - 2 * sg)), some (.int m), x4] ∧ 0 ≤ m ∧ m < 1000 ^ i ∧ BoxAt H4 p ∧ Keep p H H4) ?_ ?_ ?_
    · exact ⟨0, none, rfl, by decide, by decide, B3, K12.trans K3⟩
    · rintro i σ H4 hi ⟨m, x4, rfl, m0, m1, B4, K4⟩
      refine ⟨_, rfl, _, _, rfl, rfl, ?_, _, rfl, p, 1000, rfl, B4, by decide, fun r H5 r0 r1 B5 K5 => ?_⟩
      · have : (1000 : Int) ^ i ≤ 1000 ^ 25 := by
          have : i ≤ 25 := by omega
          exact_mod_cast Nat.pow_le_pow_right (by decide) this
        have e : (1000 : Int) ^ 25 < 2 ^ 256 := by decide +kernel
        exact wide_mul (a := 260) (b := 10) (by omega) (by decide) (by decide) (by decide) (by decide)
      · refine ⟨_, _, rfl, rfl, m * 1000 + r, _, rfl, by omega, ?_, B5, K4.trans K5⟩
        rw [Int.pow_succ]; omega
    · rintro σ H4 ⟨m, x4, rfl, m0, m1, B4, K4⟩
      have : (1000 : Int) ^ (1 + n).toNat ≤ 1000 ^ 25 := by
        have : (1 + n).toNat ≤ 25 := by omega
        exact_mod_cast Nat.pow_le_pow_right (by decide) this
      have e : (1000 : Int) ^ 25 < 2 ^ 256 := by decide +kernel
      have hm : m.natAbs < 2 ^ 260 := by omega
      exact ⟨_, rfl, _, rfl, _, _, rfl, rfl, hs.wide (by omega), fin _ _ _ hs hm B4 K4⟩
/-! the same data, shown -/
def spSame (K : PySem.W.Frag) : Sp := fun vs H Q _ => ∃ (x y : V) (d : PyData), vs = [x, y] ∧ Dp K H x d ∧ Dp K H y d ∧ ShowOk d ∧ Q (.bl true) H
theorem ok_same {f : Addr} {fd : FuncData} (F : Fun K "_law_same" "_law_same" s_law_same f fd) (T : Txt K mg) : FnG P w K mg base CX0 1 f fd P_law_same (spSame K) := by
  refine okG0 F sc_law_same (fun vs H Q E h => ?_) fun cdv A outer s H vs Q E hr hg h => ?_
  · obtain ⟨x, y, d, rfl, _⟩ := h
    rfl
  · obtain ⟨x, y, d, rfl, hx, hy, hs, k⟩ := h
    refine ⟨_, (pss_one (ps_ret (pe_cmpR op_eq (pe_callB (call_repr_data hg hr.units) (by rfl) T.b_repr (by decide +kernel) (pa_cons (pv 0) pa_nil)) (pe_callB (call_repr_data hg hr.units) (by rfl) T.b_repr (by decide +kernel) (pa_cons (pv 1) pa_nil)) (nomark _)))), ?_⟩
    refine ⟨_, rfl, _, d, rfl, hx, hs, _, rfl, _, d, rfl, hy, hs, rfl, ?_⟩
    rw [decide_eq_true rfl]
    exact k
/-! a number as a value -/
def NumD (n : Int) (d : PyData) : Prop := d = .tuple [.str "int", .int n] ∨ ∃ b : Bool, d = .tuple [.str "bool", .bool b] ∧ n = if b then 1 else 0
def NumV (K : PySem.W.Frag) (H : Hp) (v : V) (n : Int) : Prop := ∃ (q : Addr) (s : Str) (x : V), v = .ref q ∧ SqT K H q [.str s, x] ∧ (s = "int" ∧ x = .int n ∨ s = "bool" ∧ ∃ b : Bool, x = .bl b ∧ n = if b then 1 else 0)
theorem NumV.of {H : Hp} {v : V} {n : Int} {d : PyData} (h : Dp K H v d) (hd : NumD n d) : NumV K H v n := by
  rcases hd with rfl | ⟨b, rfl, e⟩
  · cases h with
    | tup hs ha => cases ha with
      | cons h1 h2 => cases h1; cases h2 with
        | cons h3 h4 => cases h3; cases h4; exact ⟨_, _, _, rfl, hs, .inl ⟨rfl, rfl⟩⟩
  · cases h with
    | tup hs ha => cases ha with
      | cons h1 h2 => cases h1; cases h2 with
        | cons h3 h4 => cases h3; cases h4; exact ⟨_, _, _, rfl, hs, .inr ⟨rfl, b, rfl, e⟩⟩
theorem NumV.mono {H H' : Hp} {v : V} {n : Int} (h : NumV K H v n) (e : Same H H') : NumV K H' v n := by
  obtain ⟨q, s, x, rfl, hs, r⟩ := h
  exact ⟨q, s, x, rfl, SqT.mono hs e, r⟩
theorem Same.keep {p : Addr} {H H' : Hp} (e : Same H H') : Keep p H H' := fun b o h _ => e b o h
theorem BoxAt.same {p : Addr} {H H' : Hp} (h : BoxAt H p) (e : Same H H') : BoxAt H' p := by
  obtain ⟨dl, ds, k, a, b, c, d⟩ := h
  exact ⟨dl, ds, k, e _ _ a, b, e _ _ c, d⟩
def spValue (K : PySem.W.Frag) : Sp := fun vs H Q _ => ∃ (p : Addr) (n : Int), vs = [.ref p, .int n] ∧ BoxAt H p ∧ ∀ (v : V) (d : PyData) (H' : Hp), NumD n d → Dp K H' v d → BoxAt H' p → Keep p H H' → Q v H'
theorem ok_value {f : Addr} {fd : FuncData} (F : Fun K "_law_value" "_law_value" s_law_value f fd) (T : Txt K mg) (U_law_draw : Use P w K mg base CX0 "_law_draw" 1 P_law_draw (spDraw K)) : FnG P w K mg base CX0 2 f fd P_law_value (spValue K) := by
  refine okG0 F sc_law_value (fun vs H Q E h => ?_) fun cdv A outer s H vs Q E hr hg h => ?_
  · obtain ⟨p, n, rfl, _⟩ := h
    rfl
  · obtain ⟨p, n, rfl, B, k⟩ := h
    refine ⟨_, (pss_cons (ps_if (PW.pt (pw_and (pt_cmpR op_in_seq (pv 1) (pe_tup (pa_cons pe_int (pa_cons pe_int pa_nil))) (by rfl)) (pw_and1 (pt_cmpR op_eq (pe_use U_law_draw (hr.mono (by decide)) hg rfl (pa_cons (pv 0) (pa_cons pe_int pa_nil))) pe_int (nomark _)))))
   (pss_one (ps_ret (pe_tup (pa_cons pe_str (pa_cons (pe_cmpR op_eq (pv 1) pe_int (nomark _)) pa_nil)))))
   pss_nil)
  (pss_one (ps_ret (pe_tup (pa_cons pe_str (pa_cons (pv 1) pa_nil)))))), ?_⟩
    have plain : ∀ H1, BoxAt H1 p → Keep p H H1 → ∀ q, H1 q = none → Q (.ref q) (upd H1 q (.tup [.str "int", .int n])) := fun H1 B1 K1 q hq =>
      k _ _ _ (.inl rfl) (Dp.made hq (.cons (.str _) (.cons (.int _) .nil))) (B1.same (Same.new hq)) (K1.trans (Same.keep (Same.new hq)))
    refine ⟨_, rfl, by decide, fun q hq => ?_⟩
    have B0 : BoxAt (upd H q (.tup [.int 0, .int 1])) p := B.same (Same.new hq)
    have K0 : Keep p H (upd H q (.tup [.int 0, .int 1])) := (Same.keep (Same.new hq))
    refine ⟨q, _, rfl, .inr (SqT.of upd_same), rfl, rfl, _, rfl, ?_⟩
    refine ite3 (fun c => ?_) fun _ => ?_
    · refine ⟨_, rfl, p, 2, rfl, B0, by decide, fun r H1 r0 r1 B1 K1 => ?_⟩
      refine ⟨rfl, _, rfl, ?_⟩
      refine ite3 (fun _ => ?_) fun _ => ?_
      · refine ⟨_, rfl, rfl, sz_2, fun u hu => ?_⟩
        refine k _ (.tuple [.str "bool", .bool (decide (V.int n = V.int 1))]) _ (.inr ⟨_, rfl, ?_⟩) (Dp.made hu (.cons (.str _) (.cons (.bl _) .nil))) (B1.same (Same.new hu)) ((K0.trans K1).trans (Same.keep (Same.new hu)))
        have c2 : (0 : Int) = n ∨ (1 : Int) = n := by simpa [inV, eqV] using c
        rcases c2 with rfl | rfl <;> decide
      · exact ⟨_, rfl, sz_2, fun u hu => plain H1 B1 (K0.trans K1) u hu⟩
    · exact ⟨_, rfl, sz_2, fun u hu => plain _ B0 K0 u hu⟩
/-! what is due -/
inductive Op | add | sub | mul | div | md
def Op.s : Op → Str
  | .add => "+" | .sub => "-" | .mul => "*" | .div => "//" | .md => "mod"
def Op.val (x y : Int) : Op → Int
  | .add => x + y | .sub => x - y | .mul => x * y | .div => x.fdiv y | .md => x - x.fdiv y * y
def Op.dm : Op → Bool
  | .div | .md => true
  | _ => false
theorem dm_in (o : Op) : inV (V.str o.s) [V.str "//", V.str "mod"] = o.dm := by cases o <;> decide +kernel
def numD (n : Int) : PyData := .tuple [.str "ok", .tuple [.str "int", .int n]]
def res (o : Op) (x y : Int) : PyData :=
  if o.dm = true ∧ y = 0 then .tuple [.str "raise", .int 3, .str "division by zero"]
  else if 2 ^ 256 ≤ (o.val x y).natAbs then .tuple [.str "raise", .int 4, .str "integer too large"] else numD (o.val x y)
def spRes (K : PySem.W.Frag) : Sp := fun vs H Q _ => ∃ (o : Op) (x y : Int), vs = [.str o.s, .int x, .int y] ∧ x.natAbs < 2 ^ 256 ∧ y.natAbs < 2 ^ 256 ∧ ∀ (v : V) (H' : Hp), Same H H' → Dp K H' v (res o x y) → Q v H'
theorem val_lt {x y : Int} (hx : x.natAbs < 2 ^ 256) (hy : y.natAbs < 2 ^ 256) : CMulW x y ∧ CMulW (x.fdiv y) y ∧ y.natAbs.log2 < 9000 := by
  have h1 := fdiv_le x y
  exact ⟨wide_mul hx hy (by decide) (by decide) (by decide), wide_mul (a := 257) (b := 256) (by omega) hy (by decide) (by decide) (by decide), Nat.lt_of_lt_of_le (PySem.Flt.log2_lt_of (by decide) hy) (by decide)⟩
theorem abs_ge {n : Int} : (decide ((2 : Int) ^ 256 ≤ (if n < 0 then -n else n)) = true) ↔ 2 ^ 256 ≤ n.natAbs := by
  rw [decide_eq_true_iff]
  split <;> omega
theorem ok_law_due {f : Addr} {fd : FuncData} (F : Fun K "_law_due" "_law_due" s_law_due f fd) (T : Txt K mg) (U_law_bound : Use P w K mg base CX0 "_law_bound" 1 P_law_bound spBound) : FnG P w K mg base CX0 2 f fd P_law_due (spRes K) := by
  refine okG0 F sc_law_due (fun vs H Q E h => ?_) fun cdv A outer s H vs Q E hr hg h => ?_
  · obtain ⟨o, x, y, rfl, _⟩ := h
    rfl
  · obtain ⟨o, x, y, rfl, hx, hy, k⟩ := h
    refine ⟨_, (C8.pss_cut (ps_if (PW.pt (pw_and (pt_cmpR op_in_seq (pv 0) (pe_tup (pa_cons pe_str (pa_cons pe_str pa_nil))) (by rfl)) (pw_and1 (pt_cmpR op_eq (pv 2) pe_int (nomark _)))))
   (pss_one (ps_ret (pe_tup (pa_cons pe_str (pa_cons pe_int (pa_cons pe_str pa_nil))))))
   pss_nil)
  (C8.pss_cut (ps_if (pt_cmpR op_eq (pv 0) pe_str (nomark _))
   (pss_one (ps_set (i := 3) sc_law_due.nd rfl (Or.inl rfl) (pe_op op_add (pv 1) (pv 2))))
   (pss_one (ps_if (pt_cmpR op_eq (pv 0) pe_str (nomark _))
   (pss_one (ps_set (i := 3) sc_law_due.nd rfl (Or.inl rfl) (pe_op op_sub (pv 1) (pv 2))))
   (pss_one (ps_if (pt_cmpR op_eq (pv 0) pe_str (nomark _))
   (pss_one (ps_set (i := 3) sc_law_due.nd rfl (Or.inl rfl) (pe_op op_mulW (pv 1) (pv 2))))
   (pss_one (ps_if (pt_cmpR op_eq (pv 0) pe_str (nomark _))
   (pss_one (ps_set (i := 3) sc_law_due.nd rfl (Or.inl rfl) (pe_op op_fdivX (pv 1) (pv 2))))
   (pss_one (ps_set (i := 3) sc_law_due.nd rfl (Or.inl rfl) (pe_op op_sub (pv 1) (pe_op op_mulW (pe_op op_fdivX (pv 1) (pv 2)) (pv 2))))))))))))
  (pss_cons (ps_if (pt_cmpR op_ge (pe_callB call_abs (by rfl) T.b_abs (by decide +kernel) (pa_cons (pv 3) pa_nil)) (pe_use0 U_law_bound (hr.mono (by decide)) hg rfl) (nomark _))
   (pss_one (ps_ret (pe_tup (pa_cons pe_str (pa_cons pe_int (pa_cons pe_str pa_nil))))))
   pss_nil)
  (pss_one (ps_ret (pe_tup (pa_cons pe_str (pa_cons (pe_tup (pa_cons pe_str (pa_cons (pv 3) pa_nil))) pa_nil)))))))), ?_⟩
    obtain ⟨m1, m2, m3⟩ := val_lt hx hy
    -- op in ("//", "mod") and other == 0
    refine ⟨fun σ H1 => σ = [some (.str o.s), some (.int x), some (.int y), none] ∧ Same H H1 ∧ ¬ (o.dm = true ∧ y = 0), ?_, ?_⟩
    · refine ⟨_, rfl, sz_2, fun q hq => ⟨q, _, rfl, .inr (SqT.of upd_same), rfl, rfl, _, rfl, ?_⟩⟩
      have S0 := Same.new (o := HO.tup [.str "//", .str "mod"]) hq
      refine ite3 (fun c => ?_) fun c => ?_
      · have c : o.dm = true := (dm_in o).symm.trans c
        refine ⟨_, rfl, rfl, _, rfl, ?_⟩
        refine ite3 (fun cy => ?_) fun cy => ?_
        · have cy : y = 0 := by simpa using cy
          refine ⟨sz_3, fun u hu => k _ _ (S0.trans (Same.new hu)) ?_⟩
          rw [res, if_pos ⟨c, cy⟩]
          exact Dp.made hu (.cons (.str _) (.cons (.int _) (.cons (.str _) .nil)))
        · have cy : ¬ y = 0 := by simpa using cy
          exact ⟨rfl, S0, fun z => cy z.2⟩
      · have c : o.dm = false := (dm_in o).symm.trans c
        exact iteF ⟨rfl, S0, fun z => by rw [c] at z; exact absurd z.1 Bool.false_ne_true⟩
    -- the ifs
    · rintro _ H1 ⟨rfl, S1, nz⟩
      refine ⟨fun σ H2 => σ = [some (.str o.s), some (.int x), some (.int y), some (.int (o.val x y))] ∧ H2 = H1, ?_, ?_⟩
      · cases o with
        | add => exact ⟨_, rfl, rfl, _, rfl, iteTb (by decide +kernel) ⟨_, rfl, _, rfl, _, _, rfl, rfl, rfl, rfl⟩⟩
        | sub => exact ⟨_, rfl, rfl, _, rfl, iteFb (by decide +kernel) ⟨_, rfl, rfl, _, rfl, iteTb (by decide +kernel) ⟨_, rfl, _, rfl, _, _, rfl, rfl, rfl, rfl⟩⟩⟩
        | mul => exact ⟨_, rfl, rfl, _, rfl, iteFb (by decide +kernel) ⟨_, rfl, rfl, _, rfl, iteFb (by decide +kernel) ⟨_, rfl, rfl, _, rfl, iteTb (by decide +kernel) ⟨_, rfl, _, rfl, _, _, rfl, rfl, m1, rfl, rfl⟩⟩⟩⟩
        | div =>
          have yn : y ≠ 0 := fun z => nz ⟨rfl, z⟩
          exact ⟨_, rfl, rfl, _, rfl, iteFb (by decide +kernel) ⟨_, rfl, rfl, _, rfl, iteFb (by decide +kernel) ⟨_, rfl, rfl, _, rfl, iteFb (by decide +kernel) ⟨_, rfl, rfl, _, rfl, iteTb (by decide +kernel) ⟨_, rfl, _, rfl, _, _, rfl, rfl, ⟨yn, m3⟩, rfl, rfl⟩⟩⟩⟩⟩
        | md =>
          have yn : y ≠ 0 := fun z => nz ⟨rfl, z⟩
          exact ⟨_, rfl, rfl, _, rfl, iteFb (by decide +kernel) ⟨_, rfl, rfl, _, rfl, iteFb (by decide +kernel) ⟨_, rfl, rfl, _, rfl, iteFb (by decide +kernel) ⟨_, rfl, rfl, _, rfl, iteFb (by decide +kernel)
            ⟨_, rfl, _, rfl, _, rfl, _, _, rfl, rfl, ⟨yn, m3⟩, _, rfl, _, _, rfl, rfl, m2, _, _, rfl, rfl, rfl, rfl⟩⟩⟩⟩⟩
      · rintro _ _ ⟨rfl, rfl⟩
        refine ⟨_, rfl, _, rfl, rfl, _, _, rfl, rfl, _, rfl, ?_⟩
        have er : res o x y = if 2 ^ 256 ≤ (o.val x y).natAbs then .tuple [.str "raise", .int 4, .str "integer too large"] else numD (o.val x y) := by rw [res, if_neg nz]
        refine ite3 (fun c => ?_) fun c => ?_
        · have c := abs_ge.mp c
          rw [if_pos c] at er
          refine ⟨sz_3, fun u hu => k _ _ (S1.trans (Same.new hu)) ?_⟩
          rw [er]
          exact Dp.made hu (.cons (.str _) (.cons (.int _) (.cons (.str _) .nil)))
        · have c : ¬ _ := fun z => absurd (abs_ge.mpr z) (by rw [c]; exact Bool.false_ne_true)
          rw [if_neg c] at er
          refine ⟨_, rfl, sz_2, fun u hu => ⟨sz_2, fun v hv => k _ _ (S1.trans ((Same.new hu).trans (Same.new hv))) ?_⟩⟩
          rw [er]
          exact Dp.made hv (.cons (.str _) (.cons (Dp.made hu (.cons (.str _) (.cons (.int _) .nil))) .nil))
theorem ok_calculated {f : Addr} {fd : FuncData} (F : Fun K "_calculated" "_calculated" s_calculated f fd) (T : Txt K mg) : FnG P w K mg base CX0 2 f fd P_calculated (spRes K) := by
  refine okG0 F sc_calculated (fun vs H Q E h => ?_) fun cdv A outer s H vs Q E hr hg h => ?_
  · obtain ⟨o, x, y, rfl, _⟩ := h
    rfl
  · obtain ⟨o, x, y, rfl, hx, hy, k⟩ := h
    refine ⟨_, (C8.pss_cut (ps_if (PW.pt (pw_and (pt_cmpR op_in_seq (pv 0) (pe_tup (pa_cons pe_str (pa_cons pe_str pa_nil))) (by rfl)) (pw_and1 (pt_cmpR op_eq (pv 2) pe_int (nomark _)))))
   (pss_one (ps_ret (pe_tup (pa_cons pe_str (pa_cons (pe_globI T.c_ZERO_DIVISION_ERROR (by rfl)) (pa_cons pe_str pa_nil))))))
   pss_nil)
  (C8.pss_cut (ps_if (pt_cmpR op_eq (pv 0) pe_str (nomark _))
   (pss_one (ps_set (i := 3) sc_calculated.nd rfl (Or.inl rfl) (pe_op op_add (pv 1) (pv 2))))
   (pss_one (ps_if (pt_cmpR op_eq (pv 0) pe_str (nomark _))
   (pss_one (ps_set (i := 3) sc_calculated.nd rfl (Or.inl rfl) (pe_op op_sub (pv 1) (pv 2))))
   (pss_one (ps_if (pt_cmpR op_eq (pv 0) pe_str (nomark _))
   (pss_one (ps_set (i := 3) sc_calculated.nd rfl (Or.inl rfl) (pe_op op_mulW (pv 1) (pv 2))))
   (pss_one (ps_if (pt_cmpR op_eq (pv 0) pe_str (nomark _))
   (pss_one (ps_set (i := 3) sc_calculated.nd rfl (Or.inl rfl) (pe_op op_fdivX (pv 1) (pv 2))))
   (pss_one (ps_set (i := 3) sc_calculated.nd rfl (Or.inl rfl) (pe_op op_sub (pv 1) (pe_op op_mulW (pe_op op_fdivX (pv 1) (pv 2)) (pv 2))))))))))))
  (pss_cons (ps_if (pt_cmpR op_ge (pe_callB call_abs (by rfl) T.b_abs (by decide +kernel) (pa_cons (pv 3) pa_nil)) (pe_globI T.c_INTEGER_END (by rfl)) (nomark _))
   (pss_one (ps_ret (pe_globT T.c_INTEGER_TOO_LARGE (by rfl))))
   pss_nil)
  (pss_one (ps_ret (pe_tup (pa_cons pe_str (pa_cons (pe_tup (pa_cons pe_str (pa_cons (pv 3) pa_nil))) pa_nil)))))))), ?_⟩
    obtain ⟨m1, m2, m3⟩ := val_lt hx hy
    -- op in ("//", "mod") and other == 0
    refine ⟨fun σ H1 => σ = [some (.str o.s), some (.int x), some (.int y), none] ∧ Same H H1 ∧ ¬ (o.dm = true ∧ y = 0), ?_, ?_⟩
    · refine ⟨_, rfl, sz_2, fun q hq => ⟨q, _, rfl, .inr (SqT.of upd_same), rfl, rfl, _, rfl, ?_⟩⟩
      have S0 := Same.new (o := HO.tup [.str "//", .str "mod"]) hq
      refine ite3 (fun c => ?_) fun c => ?_
      · have c : o.dm = true := (dm_in o).symm.trans c
        refine ⟨_, rfl, rfl, _, rfl, ?_⟩
        refine ite3 (fun cy => ?_) fun cy => ?_
        · have cy : y = 0 := by simpa using cy
          refine ⟨sz_3, fun u hu => k _ _ (S0.trans (Same.new hu)) ?_⟩
          rw [res, if_pos ⟨c, cy⟩]
          exact Dp.made hu (.cons (.str _) (.cons (.int _) (.cons (.str _) .nil)))
        · have cy : ¬ y = 0 := by simpa using cy
          exact ⟨rfl, S0, fun z => cy z.2⟩
      · have c : o.dm = false := (dm_in o).symm.trans c
        exact iteF ⟨rfl, S0, fun z => by rw [c] at z; exact absurd z.1 Bool.false_ne_true⟩
    -- the ifs
    · rintro _ H1 ⟨rfl, S1, nz⟩
      refine ⟨fun σ H2 => σ = [some (.str o.s), some (.int x), some (.int y), some (.int (o.val x y))] ∧ H2 = H1, ?_, ?_⟩
      · cases o with
        | add => exact ⟨_, rfl, rfl, _, rfl, iteTb (by decide +kernel) ⟨_, rfl, _, rfl, _, _, rfl, rfl, rfl, rfl⟩⟩
        | sub => exact ⟨_, rfl, rfl, _, rfl, iteFb (by decide +kernel) ⟨_, rfl, rfl, _, rfl, iteTb (by decide +kernel) ⟨_, rfl, _, rfl, _, _, rfl, rfl, rfl, rfl⟩⟩⟩
        | mul => exact ⟨_, rfl, rfl, _, rfl, iteFb (by decide +kernel) ⟨_, rfl, rfl, _, rfl, iteFb (by decide +kernel) ⟨_, rfl, rfl, _, rfl, iteTb (by decide +kernel) ⟨_, rfl, _, rfl, _, _, rfl, rfl, m1, rfl, rfl⟩⟩⟩⟩
        | div =>
          have yn : y ≠ 0 := fun z => nz ⟨rfl, z⟩
          exact ⟨_, rfl, rfl, _, rfl, iteFb (by decide +kernel) ⟨_, rfl, rfl, _, rfl, iteFb (by decide +kernel) ⟨_, rfl, rfl, _, rfl, iteFb (by decide +kernel) ⟨_, rfl, rfl, _, rfl, iteTb (by decide +kernel) ⟨_, rfl, _, rfl, _, _, rfl, rfl, ⟨yn, m3⟩, rfl, rfl⟩⟩⟩⟩⟩
        | md =>
          have yn : y ≠ 0 := fun z => nz ⟨rfl, z⟩
          exact ⟨_, rfl, rfl, _, rfl, iteFb (by decide +kernel) ⟨_, rfl, rfl, _, rfl, iteFb (by decide +kernel) ⟨_, rfl, rfl, _, rfl, iteFb (by decide +kernel) ⟨_, rfl, rfl, _, rfl, iteFb (by decide +kernel)
            ⟨_, rfl, _, rfl, _, rfl, _, _, rfl, rfl, ⟨yn, m3⟩, _, rfl, _, _, rfl, rfl, m2, _, _, rfl, rfl, rfl, rfl⟩⟩⟩⟩⟩
      · rintro _ _ ⟨rfl, rfl⟩
        refine ⟨_, rfl, _, rfl, _, _, rfl, rfl, _, rfl, ?_⟩
        have er : res o x y = if 2 ^ 256 ≤ (o.val x y).natAbs then .tuple [.str "raise", .int 4, .str "integer too large"] else numD (o.val x y) := by rw [res, if_neg nz]
        refine ite3 (fun c => ?_) fun c => ?_
        · have c := abs_ge.mp c
          rw [if_pos c] at er
          intro a ka
          refine k _ _ S1 ?_
          rw [er]
          exact .tup (ka.sq _) (.cons (.str _) (.cons (.int _) (.cons (.str _) .nil)))
        · have c : ¬ _ := fun z => absurd (abs_ge.mpr z) (by rw [c]; exact Bool.false_ne_true)
          rw [if_neg c] at er
          refine ⟨_, rfl, sz_2, fun u hu => ⟨sz_2, fun v hv => k _ _ (S1.trans ((Same.new hu).trans (Same.new hv))) ?_⟩⟩
          rw [er]
          exact Dp.made hv (.cons (.str _) (.cons (Dp.made hu (.cons (.str _) (.cons (.int _) .nil))) .nil))
/-! binary, negated -/
def spIsNum (K : PySem.W.Frag) : Sp := fun vs H Q _ => ∃ (v : V) (n : Int), vs = [v] ∧ NumV K H v n ∧ ∀ H', Same H H' → Q (.bl true) H'
theorem ok_isnum {f : Addr} {fd : FuncData} (F : Fun K "is_number" "is_number" s_is_number f fd) (T : Txt K mg) : FnG P w K mg base CX0 1 f fd P_is_number (spIsNum K) := by
  refine okG0 F sc_is_number (fun vs H Q E h => ?_) fun cdv A outer s H vs Q E hr hg h => ?_
  · obtain ⟨v, n, rfl, _⟩ := h
    rfl
  · obtain ⟨v, n, rfl, ⟨q, z, x, rfl, hs, hz⟩, k⟩ := h
    refine ⟨_, (pss_one (ps_ret (pe_cmpR op_in_seq (pe_ix ix_tup (pv 0) pe_int (fun _ _ => rfl)) (pe_tup (pa_cons pe_str (pa_cons pe_str pa_nil))) (by rfl)))), ?_⟩
    refine ⟨_, rfl, q, _, _, .str z, rfl, rfl, hs, rfl, sz_2, fun u hu => ⟨u, _, rfl, .inr (SqT.of upd_same), ?_, rfl, ?_⟩⟩
    · rfl
    have e : inV (V.str z) [V.str "int", V.str "bool"] = true := by
      rcases hz with ⟨rfl, _⟩ | ⟨rfl, _⟩ <;> decide +kernel
    show Q (.bl (inV (V.str z) [V.str "int", V.str "bool"])) _
    rw [e]
    exact k _ (Same.new hu)
def spBinary (K : PySem.W.Frag) : Sp := fun vs H Q _ => ∃ (h a b : V) (o : Op) (x y : Int), vs = [h, .str o.s, a, b] ∧ NumV K H a x ∧ NumV K H b y ∧ x.natAbs < 2 ^ 256 ∧ y.natAbs < 2 ^ 256 ∧
  ∀ (v : V) (H' : Hp), Same H H' → Dp K H' v (res o x y) → Q v H'
theorem ok_binary {f : Addr} {fd : FuncData} (F : Fun K "binary" "binary" s_binary f fd) (T : Txt K mg) (U_is_number : Use P w K mg base CX0 "is_number" 1 P_is_number (spIsNum K))
    (U_calculated : Use P w K mg base CX0 "_calculated" 2 P_calculated (spRes K)) : FnG P w K mg base CX0 3 f fd P_binary (spBinary K) := by
  refine okG0 F sc_binary (fun vs H Q E h => ?_) fun cdv A outer s H vs Q E hr hg h => ?_
  · obtain ⟨h, a, b, o, x, y, rfl, _⟩ := h
    rfl
  · obtain ⟨h, a, b, o, x, y, rfl, ha, hb, hx, hy, k⟩ := h
    refine ⟨_, (pss_cons (ps_if (PW.pt (pw_and (pt_val (pe_use U_is_number (hr.mono (by decide)) hg rfl (pa_cons (pv 2) pa_nil))) (pw_and1 (pt_val (pe_use U_is_number (hr.mono (by decide)) hg rfl (pa_cons (pv 3) pa_nil))))))
   (pss_one (ps_ret (pe_use U_calculated (hr.mono (by decide)) hg rfl (pa_cons (pv 1) (pa_cons (pe_callTy call_int1 (by rfl) T.b_int (by decide +kernel) (pa_cons (pe_ix ix_tup (pv 2) pe_int (fun _ _ => rfl)) pa_nil)) (pa_cons (pe_callTy call_int1 (by rfl) T.b_int (by decide +kernel) (pa_cons (pe_ix ix_tup (pv 3) pe_int (fun _ _ => rfl)) pa_nil)) pa_nil))))))
   pss_nil)
  pss_never), ?_⟩
    refine ⟨_, rfl, a, x, rfl, ha, fun H1 S1 => ⟨true, rfl, iteT ?_⟩⟩
    refine ⟨_, rfl, b, y, rfl, hb.mono S1, fun H2 S2 => ⟨true, rfl, iteT ?_⟩⟩
    have S := S1.trans S2
    have fin : spRes K [.str o.s, .int x, .int y] H2 Q E0 := ⟨o, x, y, rfl, hx, hy, fun v H' S' hv => k v H' (S.trans S') hv⟩
    obtain ⟨qa, sa, xa, rfl, hsa, hxa⟩ := ha
    obtain ⟨qb, sb, xb, rfl, hsb, hxb⟩ := hb
    refine ⟨_, rfl, _, rfl, qa, _, _, xa, rfl, rfl, Same.tupl S hsa, rfl, ?_⟩
    rcases hxa with ⟨_, rfl⟩ | ⟨_, c, rfl, rfl⟩
    · refine .inl ⟨_, rfl, _, rfl, qb, _, _, xb, rfl, rfl, Same.tupl S hsb, rfl, ?_⟩
      rcases hxb with ⟨_, rfl⟩ | ⟨_, d, rfl, rfl⟩
      · exact .inl ⟨_, rfl, fin⟩
      · exact .inr ⟨_, rfl, fin⟩
    · refine .inr ⟨_, rfl, _, rfl, qb, _, _, xb, rfl, rfl, Same.tupl S hsb, rfl, ?_⟩
      rcases hxb with ⟨_, rfl⟩ | ⟨_, d, rfl, rfl⟩
      · exact .inl ⟨_, rfl, fin⟩
      · exact .inr ⟨_, rfl, fin⟩
def spNeg (K : PySem.W.Frag) : Sp := fun vs H Q _ => ∃ (h a : V) (x : Int), vs = [h, a] ∧ NumV K H a x ∧ ∀ (v : V) (H' : Hp), Same H H' → Dp K H' v (numD (0 - x)) → Q v H'
theorem ok_neg {f : Addr} {fd : FuncData} (F : Fun K "negated" "negated" s_negated f fd) (T : Txt K mg) (U_is_number : Use P w K mg base CX0 "is_number" 1 P_is_number (spIsNum K)) : FnG P w K mg base CX0 2 f fd P_negated (spNeg K) := by
  refine okG0 F sc_negated (fun vs H Q E h => ?_) fun cdv A outer s H vs Q E hr hg h => ?_
  · obtain ⟨h, a, x, rfl, _⟩ := h
    rfl
  · obtain ⟨h, a, x, rfl, ha, k⟩ := h
    refine ⟨_, (pss_cons (ps_if (pt_val (pe_use U_is_number (hr.mono (by decide)) hg rfl (pa_cons (pv 1) pa_nil)))
   (pss_one (ps_ret (pe_tup (pa_cons pe_str (pa_cons (pe_tup (pa_cons pe_str (pa_cons (pe_un un_neg (pe_callTy call_int1 (by rfl) T.b_int (by decide +kernel) (pa_cons (pe_ix ix_tup (pv 1) pe_int (fun _ _ => rfl)) pa_nil))) pa_nil))) pa_nil)))))
   pss_nil)
  pss_never), ?_⟩
    refine ⟨_, rfl, a, x, rfl, ha, fun H1 S1 => ⟨true, rfl, iteT ?_⟩⟩
    have fin : ∀ u, H1 u = none → ∀ v, upd H1 u (.tup [.str "int", .int (-x)]) v = none → Q (.ref v) (upd (upd H1 u (.tup [.str "int", .int (-x)])) v (.tup [.str "ok", .ref u])) := fun u hu v hv => by
      refine k _ _ (S1.trans ((Same.new hu).trans (Same.new hv))) ?_
      rw [Int.zero_sub]
      exact Dp.made hv (.cons (.str _) (.cons (Dp.made hu (.cons (.str _) (.cons (.int _) .nil))) .nil))
    obtain ⟨qa, sa, xa, rfl, hsa, hxa⟩ := ha
    refine ⟨_, rfl, qa, _, _, xa, rfl, rfl, Same.tupl S1 hsa, rfl, ?_⟩
    rcases hxa with ⟨_, rfl⟩ | ⟨_, c, rfl, rfl⟩
    · exact .inl ⟨_, rfl, _, rfl, sz_2, fun u hu => ⟨sz_2, fun v hv => fin u hu v hv⟩⟩
    · exact .inr ⟨_, rfl, _, rfl, sz_2, fun u hu => ⟨sz_2, fun v hv => fin u hu v hv⟩⟩
/-! the law -/
theorem strOk (s : Str) (h : s.cps.toList.all (fun c => decide (c < 16 ^ 8)) = true) : ∀ c ∈ s.cps.toList, c < 16 ^ 8 := fun c hc => of_decide_eq_true (List.all_eq_true.mp h c hc)
set_option exponentiation.threshold 3000
theorem show_num {n : Int} (h : n.natAbs < 2 ^ 1000) : Sm (.tuple [.str "int", .int n]) 1 4000 :=
  (Sm.tup (.cons (Sm.str (n := 10) (by decide) (strOk _ (by decide +kernel))) (.cons (Sm.int (Nat.lt_of_lt_of_le h (Nat.pow_le_pow_right (by decide) (by decide)))) .nil))).mono (by decide) (by decide)
theorem show_ok {n : Int} (h : n.natAbs < 2 ^ 1000) : ShowOk (numD n) :=
  (Sm.tup (.cons (Sm.str (n := 10) (by decide) (strOk _ (by decide +kernel))) (.cons (show_num h) .nil))).show (by decide) (by decide)
theorem show_res (o : Op) (x y : Int) : ShowOk (res o x y) := by
  unfold res
  split
  · exact (Sm.tup (.cons (Sm.str (n := 20) (by decide) (strOk _ (by decide +kernel))) (.cons (Sm.int (by decide)) (.cons (Sm.str (n := 20) (by decide) (strOk _ (by decide +kernel))) .nil)))).show (by decide) (by decide)
  · split
    · exact (Sm.tup (.cons (Sm.str (n := 20) (by decide) (strOk _ (by decide +kernel))) (.cons (Sm.int (by decide)) (.cons (Sm.str (n := 20) (by decide) (strOk _ (by decide +kernel))) .nil)))).show (by decide) (by decide)
    · exact show_ok (by omega)
theorem show_v {n : Int} {d : PyData} (h : n.natAbs < 2 ^ 1000) (hd : NumD n d) : Sm d 1 4000 := by
  rcases hd with rfl | ⟨b, rfl, _⟩
  · exact show_num h
  · exact (Sm.tup (.cons (Sm.str (n := 10) (by decide) (strOk _ (by decide +kernel))) (.cons (Sm.bool b) .nil))).mono (by decide) (by decide)
def spLaw (K : PySem.W.Frag) : Sp := fun vs H Q _ => ∃ (a : Addr) (ns : List Int), vs = [.ref a] ∧ SqL K H a (ns.map V.int) ∧ ns.length ≤ 63 ∧ ∀ H', Q (.bl true) H'
theorem ops_at {i : Nat} {x : V} (h : ([.str "+", .str "-", .str "*", .str "//", .str "mod"] : List V)[i]? = some x) : ∃ o : Op, x = .str o.s := by
  match i, h with
  | 0, h => exact ⟨.add, (Option.some.inj h).symm⟩
  | 1, h => exact ⟨.sub, (Option.some.inj h).symm⟩
  | 2, h => exact ⟨.mul, (Option.some.inj h).symm⟩
  | 3, h => exact ⟨.div, (Option.some.inj h).symm⟩
  | 4, h => exact ⟨.md, (Option.some.inj h).symm⟩
  | i + 5, h => simp at h
theorem abs_lt {n : Int} (h : decide ((if n < 0 then -n else n) < (2 : Int) ^ 256) = true) : n.natAbs < 2 ^ 256 := by
  have h := of_decide_eq_true h
  split at h <;> omega
theorem ok_law {f : Addr} {fd : FuncData} (F : Fun K "law" "law" s_law f fd) (T : Txt K mg) (U_law_digits : Use P w K mg base CX0 "_law_digits" 2 P_law_digits (spDigits K)) (U_law_number : Use P w K mg base CX0 "_law_number" 2 P_law_number (spNumber K))
    (U_law_bound : Use P w K mg base CX0 "_law_bound" 1 P_law_bound spBound) (U_law_value : Use P w K mg base CX0 "_law_value" 2 P_law_value (spValue K)) (U_law_same : Use P w K mg base CX0 "_law_same" 1 P_law_same (spSame K))
    (U_binary : Use P w K mg base CX0 "binary" 3 P_binary (spBinary K)) (U_law_due : Use P w K mg base CX0 "_law_due" 2 P_law_due (spRes K)) (U_negated : Use P w K mg base CX0 "negated" 2 P_negated (spNeg K)) :
    FnG P w K mg base CX0 4 f fd P_law (spLaw K) := by
  refine okG0 F sc_law (fun vs H Q E h => ?_) fun cdv A outer s H vs Q E hr hg h => ?_
  · obtain ⟨a, ns, rfl, _⟩ := h
    rfl
  · obtain ⟨a, ns, rfl, hs, hn, k⟩ := h
    refine ⟨_, (pss_cons (ps_set (i := 1) sc_law.nd rfl (Or.inl rfl) (pe_lst (pa_cons (pe_use U_law_digits (hr.mono (by decide)) hg rfl (pa_cons (pv 0) (pa_cons pe_int (pa_cons pe_int pa_nil)))) (pa_cons pe_int pa_nil))))
  (pss_cons (ps_for PassesOwn.never rfl (pi_range1 (by rfl) T.b_range (pa_cons pe_int pa_nil)) (pg_name (i := 2) sc_law.nd rfl (Or.inl rfl))
   (pss_cons (ps_set (i := 3) sc_law.nd rfl (Or.inl rfl) (pe_use U_law_number (hr.mono (by decide)) hg rfl (pa_cons (pv 1) pa_nil)))
  (pss_cons (ps_set (i := 4) sc_law.nd rfl (Or.inl rfl) (pe_use U_law_number (hr.mono (by decide)) hg rfl (pa_cons (pv 1) pa_nil)))
  (pss_one (ps_if (PW.pt (pw_and (pt_cmpR op_lt (pe_callB call_abs (by rfl) T.b_abs (by decide +kernel) (pa_cons (pv 3) pa_nil)) (pe_use0 U_law_bound (hr.mono (by decide)) hg rfl) (nomark _)) (pw_and1 (pt_cmpR op_lt (pe_callB call_abs (by rfl) T.b_abs (by decide +kernel) (pa_cons (pv 4) pa_nil)) (pe_use0 U_law_bound (hr.mono (by decide)) hg rfl) (nomark _)))))
   (pss_cons (ps_set (i := 5) sc_law.nd rfl (Or.inl rfl) (pe_use U_law_value (hr.mono (by decide)) hg rfl (pa_cons (pv 1) (pa_cons (pv 3) pa_nil))))
  (pss_cons (ps_set (i := 6) sc_law.nd rfl (Or.inl rfl) (pe_use U_law_value (hr.mono (by decide)) hg rfl (pa_cons (pv 1) (pa_cons (pv 4) pa_nil))))
  (pss_cons (ps_set (i := 7) sc_law.nd rfl (Or.inl rfl) (pe_lst (pa_cons (pe_tup (pa_cons pe_str (pa_cons (pe_tup (pa_cons (pv 5) (pa_cons (pv 6) pa_nil))) pa_nil))) pa_nil)))
  (pss_cons (ps_for PassesOwn.never rfl (pi_list (pe_lst (pa_cons pe_str (pa_cons pe_str (pa_cons pe_str (pa_cons pe_str (pa_cons pe_str pa_nil))))))) (pg_name (i := 8) sc_law.nd rfl (Or.inl rfl))
   (pss_one (ps_if (pt_not (pt_val (pe_use U_law_same (hr.mono (by decide)) hg rfl (pa_cons (pe_use U_binary (hr.mono (by decide)) hg rfl (pa_cons (pv 7) (pa_cons (pv 8) (pa_cons (pv 5) (pa_cons (pv 6) pa_nil))))) (pa_cons (pe_use U_law_due (hr.mono (by decide)) hg rfl (pa_cons (pv 8) (pa_cons (pv 3) (pa_cons (pv 4) pa_nil)))) pa_nil)))))
   (pss_one (ps_ret pe_bl))
   pss_nil)))
  (pss_one (ps_if (PW.pt (pw_or (pt_not (pt_val (pe_use U_law_same (hr.mono (by decide)) hg rfl (pa_cons (pe_use U_negated (hr.mono (by decide)) hg rfl (pa_cons (pv 7) (pa_cons (pv 5) pa_nil))) (pa_cons (pe_tup (pa_cons pe_str (pa_cons (pe_tup (pa_cons pe_str (pa_cons (pe_op op_sub pe_int (pv 3)) pa_nil))) pa_nil))) pa_nil))))) (pw_or1 (pt_not (pt_val (pe_use U_law_same (hr.mono (by decide)) hg rfl (pa_cons (pv 7) (pa_cons (pe_lst (pa_cons (pe_tup (pa_cons pe_str (pa_cons (pe_tup (pa_cons (pv 5) (pa_cons (pv 6) pa_nil))) pa_nil))) pa_nil)) pa_nil))))))))
   (pss_one (ps_ret pe_bl))
   pss_nil))))))
   pss_nil)))))
  (pss_one (ps_ret pe_bl)))), ?_⟩
    -- box = [_law_digits(script, 0, 63), 0]
    refine ⟨_, rfl, a, ns, 0, 63, rfl, hs, by decide, by decide, fun dl H1 nd D => ?_⟩
    obtain ⟨ds, hd, hl, hds, S1⟩ := D
    refine ⟨sz_2, fun p hp => ?_⟩
    have B0 : BoxAt (upd H1 p (.lst [.ref dl, .int 0])) p := ⟨dl, ds, 0, upd_same, by decide, by rw [upd_ne (ne_of_none hd hp)]; exact hd, hl, hds⟩
    -- for turn in range(6)
    refine ⟨_, rfl, by decide, by decide, ?_⟩
    refine for_range (lo := 0) (n := 6) (fun i σ H1 => ∃ y2 y3 y4 y5 y6 y7 y8, σ = [some (.ref a), some (.ref p), y2, y3, y4, y5, y6, y7, y8] ∧ BoxAt H1 p) ⟨_, _, _, _, _, _, _, rfl, B0⟩ ?_ ?_
    · rintro i σ H2 hi ⟨y2, y3, y4, y5, y6, y7, y8, rfl, B2⟩
      refine ⟨_, rfl, p, rfl, B2, fun x H3 hx B3 K3 => ?_⟩
      refine ⟨_, rfl, p, rfl, B3, fun y H4 hy B4 K4 => ?_⟩
      -- abs(x) < _law_bound() and abs(y) < _law_bound()
      refine ⟨_, rfl, _, rfl, rfl, _, _, rfl, rfl, _, rfl, ?_⟩
      refine ite3 (fun cx => ?_) fun _ => ?_
      · refine ⟨_, rfl, _, rfl, rfl, _, _, rfl, rfl, _, rfl, ?_⟩
        refine ite3 (fun cy => ?_) fun _ => ⟨_, _, _, _, _, _, _, rfl, B4⟩
        have cx := abs_lt cx
        have cy := abs_lt cy
        -- a, b, heap
        refine ⟨_, rfl, _, rfl, p, x, rfl, B4, fun va da H5 na ha B5 K5 => ?_⟩
        refine ⟨_, rfl, _, rfl, p, y, rfl, B5, fun vb db H6 nb hb B6 K6 => ?_⟩
        have va5 : Dp K H6 va da := by
          have t5 : ∀ q zs, SqT K H5 q zs → SqT K H6 q zs := fun q zs h => by
            rcases h with (h | ⟨o, h⟩) | h
            · exact .inl (.inl (K6 _ _ h (ne_of h B5.at_.2 (by intro z; cases z))))
            · exact .inl (.inr ⟨o, K6 _ _ h (ne_of h B5.at_.2 (by intro z; cases z))⟩)
            · exact .inr h
          rcases na with rfl | ⟨b, rfl, _⟩
          · cases ha with
            | tup h1 h2 => cases h2 with
              | cons h3 h4 => cases h3; cases h4 with
                | cons h5 h6 => cases h5; cases h6; exact .tup (t5 _ _ h1) (.cons (.str _) (.cons (.int _) .nil))
          · cases ha with
            | tup h1 h2 => cases h2 with
              | cons h3 h4 => cases h3; cases h4 with
                | cons h5 h6 => cases h5; cases h6; exact .tup (t5 _ _ h1) (.cons (.str _) (.cons (.bl _) .nil))
        refine ⟨_, rfl, _, rfl, sz_2, fun t1 ht1 => ⟨sz_2, fun t2 ht2 => ⟨sz_1, fun hp hhp => ?_⟩⟩⟩
        have vb6 := hb
        have S67 := (Same.new (o := HO.tup [va, vb]) ht1).trans ((Same.new (o := HO.tup [.str "list", .ref t1]) ht2).trans (Same.new (o := HO.lst [.ref t2]) hhp))
        have a1 : upd (upd (upd H6 t1 (.tup [va, vb])) t2 (.tup [.str "list", .ref t1])) hp (.lst [.ref t2]) t1 = some (.tup [va, vb]) := by
          rw [upd_ne (ne_of_none (by rw [upd_ne (ne_of_none upd_same ht2)]; exact upd_same) hhp), upd_ne (ne_of_none upd_same ht2)]; exact upd_same
        have a2 : upd (upd (upd H6 t1 (.tup [va, vb])) t2 (.tup [.str "list", .ref t1])) hp (.lst [.ref t2]) t2 = some (.tup [.str "list", .ref t1]) := by
          rw [upd_ne (ne_of_none upd_same hhp)]; exact upd_same
        have a3 : upd (upd (upd H6 t1 (.tup [va, vb])) t2 (.tup [.str "list", .ref t1])) hp (.lst [.ref t2]) hp = some (.lst [.ref t2]) := upd_same
        generalize upd (upd (upd H6 t1 (.tup [va, vb])) t2 (.tup [.str "list", .ref t1])) hp (.lst [.ref t2]) = H7 at S67 a1 a2 a3 ⊢
        have B7 := BoxAt.same B6 S67
        have da7 := Dp.mono S67 va5
        have db7 := Dp.mono S67 vb6
        -- for op in [..]
        refine ⟨sz_5, fun l hl => ⟨l, rfl, ⟨_, SqL.of upd_same⟩, ?_⟩⟩
        have S8 := Same.new (o := HO.lst [.str "+", .str "-", .str "*", .str "//", .str "mod"]) hl
        have e8 : upd H7 l (.lst [.str "+", .str "-", .str "*", .str "//", .str "mod"]) l = some (.lst [.str "+", .str "-", .str "*", .str "//", .str "mod"]) := upd_same
        refine for_list (xs := [.str "+", .str "-", .str "*", .str "//", .str "mod"]) (fun j σ H9 => ∃ y8, σ = [some (.ref a), some (.ref p), some (.int (0 + (i : Int))), some (.int x), some (.int y), some va, some vb, some (.ref hp), y8] ∧ Same (upd H7 l (.lst [.str "+", .str "-", .str "*", .str "//", .str "mod"])) H9)
          ⟨_, rfl, Same.refl _⟩ ?_ ?_ ?_
        · rintro j σ H9 hj ⟨y8, rfl, S9⟩
          exact SqL.of (S9 _ _ e8)
        · rintro j op σ H9 hop ⟨y8, rfl, S9⟩
          obtain ⟨o, rfl⟩ := ops_at hop
          have S := S8.trans S9
          refine ⟨_, rfl, _, rfl, _, rfl, _, rfl, .ref hp, va, vb, o, x, y, rfl, NumV.of (Dp.mono S da7) na, NumV.of (Dp.mono S db7) nb, cx, cy, fun r H10 S10 hr10 => ?_⟩
          refine ⟨_, rfl, _, rfl, _, rfl, o, x, y, rfl, cx, cy, fun r2 H11 S11 hr11 => ?_⟩
          exact ⟨r, r2, res o x y, rfl, Dp.mono S11 hr10, hr11, show_res o x y, true, rfl, iteFb rfl ⟨_, rfl, S9.trans (S10.trans S11)⟩⟩
        · rintro σ H9 ⟨y8, rfl, S9⟩
          have S := S8.trans S9
          refine ⟨_, rfl, _, rfl, .ref hp, va, x, rfl, NumV.of (Dp.mono S da7) na, fun r H10 S10 hr10 => ?_⟩
          refine ⟨_, rfl, _, _, rfl, rfl, sz_2, fun u hu => ⟨sz_2, fun v hv => ?_⟩⟩
          have hv2 := Dp.made (K := K) hv (.cons (.str "ok") (.cons (Dp.made hu (.cons (.str "int") (.cons (.int (0 - x)) .nil))) .nil))
          have S11 := (Same.new (o := HO.tup [.str "int", .int (0 - x)]) hu).trans (Same.new (o := HO.tup [.str "ok", .ref u]) hv)
          refine ⟨r, .ref v, numD (0 - x), rfl, Dp.mono S11 hr10, hv2, show_ok (by omega), true, rfl, iteFb rfl ?_⟩
          have S12 := S.trans (S10.trans S11)
          generalize upd (upd H10 u _) v _ = H12 at S12
          refine ⟨_, rfl, _, rfl, _, rfl, sz_2, fun u1 h1 => ⟨sz_2, fun u2 h2 => ⟨sz_1, fun u3 h3 => ?_⟩⟩⟩
          have S13 := (Same.new (o := HO.tup [va, vb]) h1).trans ((Same.new (o := HO.tup [.str "list", .ref u1]) h2).trans (Same.new (o := HO.lst [.ref u2]) h3))
          have L1 : Dp K H12 (.ref hp) (.list [.tuple [.str "list", .tuple [da, db]]]) :=
            .lst (SqL.of (S12 _ _ a3)) (.cons (.tup (SqT.of (S12 _ _ a2)) (.cons (.str _) (.cons (.tup (SqT.of (S12 _ _ a1)) (.cons (Dp.mono S12 da7) (.cons (Dp.mono S12 db7) .nil))) .nil))) .nil)
          have L2' := Dp.made (K := K) h2 (.cons (.str "list") (.cons (Dp.made h1 (.cons (Dp.mono S12 da7) (.cons (Dp.mono S12 db7) .nil))) .nil))
          have L3 := Dp.lst (K := K) (SqL.of (upd_same (a := u3) (o := HO.lst [.ref u2]))) (DpAll.cons (Dp.mono (Same.new h3) L2') .nil)
          refine ⟨.ref hp, .ref u3, _, rfl, Dp.mono S13 L1, L3, ?_, true, rfl, ?_⟩
          · exact (Sm.lst (.cons (Sm.tup (.cons (Sm.str (n := 10) (by decide) (strOk _ (by decide +kernel))) (.cons (Sm.tup (.cons (show_v (by omega) na) (.cons (show_v (by omega) nb) .nil))) .nil))) .nil)).show (by decide) (by decide)
          · exact iteFb rfl ⟨_, _, _, _, _, _, _, rfl, BoxAt.same B7 (S12.trans S13)⟩
      · exact iteF ⟨_, _, _, _, _, _, _, rfl, B4⟩
    · rintro σ H2 ⟨y2, y3, y4, y5, y6, y7, y8, rfl, B2⟩
      exact k H2
end
theorem walk_mk {l : PySem.W.OpenLaw} {w : World} {K : PySem.W.Frag} {h : Heap} {mg : Str → Option Value} {fa : Addr} (X : K.In h) (G : h.Ns mainGlobals mg) (hfa : mg "law" = some (.ref fa))
    (f1 : HasFn K "_law_cell" s_law_cell) (f2 : HasFn K "_law_digits" s_law_digits) (f3 : HasFn K "_law_draw" s_law_draw) (f4 : HasFn K "_law_bound" s_law_bound) (f5 : HasFn K "_law_number" s_law_number)
    (f6 : HasFn K "_law_same" s_law_same) (f7 : HasFn K "_law_value" s_law_value) (f8 : HasFn K "_law_due" s_law_due) (f9 : HasFn K "is_number" s_is_number) (f10 : HasFn K "binary" s_binary) (f11 : HasFn K "negated" s_negated)
    (f12 : HasFn K "_calculated" s_calculated) (f13 : HasFn K "law" s_law) (c1 : HasInt K "INTEGER_END" (2 ^ 256)) (c2 : HasInt K "ZERO_DIVISION_ERROR" 3) (c3 : HasTup K "INTEGER_TOO_LARGE" [.str "raise", .int 4, .str "integer too large"])
    (b1 : PySem.W.nsIn K mainGlobals "len" = some none) (b2 : PySem.W.nsIn K mainGlobals "int" = some none) (b3 : PySem.W.nsIn K mainGlobals "abs" = some none) (b4 : PySem.W.nsIn K mainGlobals "repr" = some none) (b5 : PySem.W.nsIn K mainGlobals "range" = some none) :
    ∃ fd : FuncData, (∀ (s : Shared) (v : Value), BindsTo s fd ⟨[v], []⟩ [("script", v)]) ∧ ∀ base : Heap, K.In base → base.Ns mainGlobals mg → FnG l.prog w K mg base CX0 4 fa fd ["script"] (spLaw K) := by
  have T : Txt K mg := ⟨c1.g X G, c2.g X G, c3.g X G, PySem.W.mg_none_of X G b1, PySem.W.mg_none_of X G b2, PySem.W.mg_none_of X G b3, PySem.W.mg_none_of X G b4, PySem.W.mg_none_of X G b5⟩
  refine law_use f13 X G hfa (fun _ _ _ _ _ _ _ => rfl) fun base X' G' fd F => ?_
  have U1 := mk_use (P := l.prog) (w := w) (base := base) f1 X G (fun _ _ _ _ _ _ us hl => match us, hl with | [_, _], _ => rfl) fun f fd F => ok_cell F T
  have U2 := mk_use (P := l.prog) (w := w) (base := base) f2 X G (fun _ _ _ _ _ _ us hl => match us, hl with | [_, _, _], _ => rfl) fun f fd F => ok_digits F T U1
  have U3 := mk_use (P := l.prog) (w := w) (base := base) f3 X G (fun _ _ _ _ _ _ us hl => match us, hl with | [_, _], _ => rfl) fun f fd F => ok_draw F T
  have U4 := mk_use (P := l.prog) (w := w) (mg := mg) (base := base) f4 X G (fun _ _ _ _ _ _ us hl => match us, hl with | [], _ => rfl) fun f fd F => ok_bound F
  have U5 := mk_use (P := l.prog) (w := w) (base := base) f5 X G (fun _ _ _ _ _ _ us hl => match us, hl with | [_], _ => rfl) fun f fd F => ok_number F T U3 U4
  have U6 := mk_use (P := l.prog) (w := w) (base := base) f6 X G (fun _ _ _ _ _ _ us hl => match us, hl with | [_, _], _ => rfl) fun f fd F => ok_same F T
  have U7 := mk_use (P := l.prog) (w := w) (base := base) f7 X G (fun _ _ _ _ _ _ us hl => match us, hl with | [_, _], _ => rfl) fun f fd F => ok_value F T U3
  have U8 := mk_use (P := l.prog) (w := w) (base := base) f8 X G (fun _ _ _ _ _ _ us hl => match us, hl with | [_, _, _], _ => rfl) fun f fd F => ok_law_due F T U4
  have U9 := mk_use (P := l.prog) (w := w) (base := base) f9 X G (fun _ _ _ _ _ _ us hl => match us, hl with | [_], _ => rfl) fun f fd F => ok_isnum F T
  have U12 := mk_use (P := l.prog) (w := w) (base := base) f12 X G (fun _ _ _ _ _ _ us hl => match us, hl with | [_, _, _], _ => rfl) fun f fd F => ok_calculated F T
  have U10 := mk_use (P := l.prog) (w := w) (base := base) f10 X G (fun _ _ _ _ _ _ us hl => match us, hl with | [_, _, _, _], _ => rfl) fun f fd F => ok_binary F T U9 U12
  have U11 := mk_use (P := l.prog) (w := w) (base := base) f11 X G (fun _ _ _ _ _ _ us hl => match us, hl with | [_, _], _ => rfl) fun f fd F => ok_neg F T U9
  exact ok_law F T U2 U5 U4 U7 U6 U10 U8 U11
end K18
open PySem PySem.W PyProof.Rows
set_option maxRecDepth 100000 in
set_option maxHeartbeats 0 in
theorem PySem.Challenge.cw_pyhold_k18_arithmetic_holds : PySem.Challenge.rw_pyhold_k18_arithmetic.Holds := by
  w_on; o_law; k_head; (case hw => w_witness2)
  k_fill
  refine LK.walkG (l := PySem.Challenge.rw_pyhold_k18_arithmetic) (n := 63) (k := 4) (x := "script") (CX := L2.CX0) (sp := K18.spLaw) rfl (by decide) rfl ⟨rfl, by decide, by decide⟩ (fun w h Y => PySem.W.kIn_of Y) ?F (fun K H a ns hl _ hS => ⟨a, ns, rfl, hS, hl, fun _ => rfl⟩) (fun _ _ _ _ z => z)
  case F =>
    intro w mg fa h KX G hmg
    refine' K18.walk_mk KX G hmg ?f1 ?f2 ?f3 ?f4 ?f5 ?f6 ?f7 ?f8 ?f9 ?f10 ?f11 ?f12 ?f13 ?c1 ?c2 ?c3 ?b1 ?b2 ?b3 ?b4 ?b5
    case f1 => refine' LK.HasFn.mk' ?a ?b ?c ?d; (case a => k_is); (case b => k_is); (case c => k_is); (case d => k_is)
    case f2 => refine' LK.HasFn.mk' ?a ?b ?c ?d; (case a => k_is); (case b => k_is); (case c => k_is); (case d => k_is)
    case f3 => refine' LK.HasFn.mk' ?a ?b ?c ?d; (case a => k_is); (case b => k_is); (case c => k_is); (case d => k_is)
    case f4 => refine' LK.HasFn.mk' ?a ?b ?c ?d; (case a => k_is); (case b => k_is); (case c => k_is); (case d => k_is)
    case f5 => refine' LK.HasFn.mk' ?a ?b ?c ?d; (case a => k_is); (case b => k_is); (case c => k_is); (case d => k_is)
    case f6 => refine' LK.HasFn.mk' ?a ?b ?c ?d; (case a => k_is); (case b => k_is); (case c => k_is); (case d => k_is)
    case f7 => refine' LK.HasFn.mk' ?a ?b ?c ?d; (case a => k_is); (case b => k_is); (case c => k_is); (case d => k_is)
    case f8 => refine' LK.HasFn.mk' ?a ?b ?c ?d; (case a => k_is); (case b => k_is); (case c => k_is); (case d => k_is)
    case f9 => refine' LK.HasFn.mk' ?a ?b ?c ?d; (case a => k_is); (case b => k_is); (case c => k_is); (case d => k_is)
    case f10 => refine' LK.HasFn.mk' ?a ?b ?c ?d; (case a => k_is); (case b => k_is); (case c => k_is); (case d => k_is)
    case f11 => refine' LK.HasFn.mk' ?a ?b ?c ?d; (case a => k_is); (case b => k_is); (case c => k_is); (case d => k_is)
    case f12 => refine' LK.HasFn.mk' ?a ?b ?c ?d; (case a => k_is); (case b => k_is); (case c => k_is); (case d => k_is)
    case f13 => refine' LK.HasFn.mk' ?a ?b ?c ?d; (case a => k_is); (case b => k_is); (case c => k_is); (case d => k_is)
    case c1 => refine' LK.HasInt.mk' ?a ?b; (case a => k_is); (case b => decide +kernel)
    case c2 => refine' LK.HasInt.mk' ?a ?b; (case a => k_is); (case b => decide +kernel)
    case c3 => refine' LK.HasTup.mk' ?a ?b ?c ?d; (case a => k_is); (case b => k_is); (case c => decide); (case d => exact .cons ⟨_, rfl⟩ (.cons ⟨_, rfl⟩ (.cons ⟨_, rfl⟩ .nil)))
    case b1 => k_is
    case b2 => k_is
    case b3 => k_is
    case b4 => k_is
    case b5 => k_is


