import PyProof.Rows.All
import Wide.All
import OpenK.AllK
import Wide.FinOn
import HandS.ForMost
import HandS.Wide
import HandS.WideMore
import HandS.TupAny
import HandS.TupLen
import HandS.Evl
import HandS.Codes
import PyProof.ReprLen
import PyProof.StrLawsRepr
import HandS.Walk
import HandS.Zip
import KE.GoesMore
import HandS.Style
import HandS.TupMul
import PyProof.StrOps2
import HandS.IsInst
import PySem.Challenge.RW_pyhold_k19_joins_and_repeats
set_option Elab.async false
set_option linter.all false
set_option maxRecDepth 100000
set_option maxHeartbeats 4000000
/-! A layer of one's own over the hand layer: defs by name, data, the helpers that the laws share. -/
namespace LK
open PySem PySem.Spec PyProof.Rows L2

/-! ### a def's promise where nothing is being shown (repr asks who is) -/
structure FnG (P : Program) (w : World) (K : PySem.W.Frag) (mg : Str → Option Value) (base : Heap) (CX : CXT) (k : Nat) (f : Addr) (fd : FuncData) (ps : List Str) (sp : Sp) : Prop where
  len : ∀ vs H Q E, sp vs H Q E → vs.length = ps.length
  run : ∀ (A : Around) (outer : List Env) (s : Shared) (H : Hp) (args : Args) (us : List Value) (vs : List V) (Q : VK) (E : XK), Room k A → A.guards = some [] →
    Env0 P w K mg base A outer s H → BindsTo s fd args (ps.zip us) → Vals vs us → sp vs H Q E → codeAny (model P w) A (.call (.ref f) args) (CR CX outer P w H s Q E) s
section
variable {P : Program} {w : World} {K : PySem.W.Frag} {mg : Str → Option Value} {base : Heap} {CX : CXT}
theorem FnG.imp {k : Nat} {f : Addr} {fd : FuncData} {ps : List Str} {sp sp' : Sp} (F : FnG P w K mg base CX k f fd ps sp) (h : ∀ vs H Q E, sp' vs H Q E → sp vs H Q E) : FnG P w K mg base CX k f fd ps sp' where
  len := fun vs H Q E q => F.len vs H Q E (h vs H Q E q)
  run := fun A outer s H args us vs Q E hr hg he hb hv hs => F.run A outer s H args us vs Q E hr hg he hb hv (h vs H Q E hs)
/-- the rule for a def: its body as a term of rules, and the reading of that term -/
theorem okG {x qual : Str} {st : Stmt} {f : Addr} {fd : FuncData} {N ps : List Str} {k : Nat} {sp : Sp} (F : Fun K x qual st f fd) (S : FnScope N ps (defScope st)) (len : ∀ vs H Q E, sp vs H Q E → vs.length = ps.length)
    (body : ∀ (cdv : Value) (A : Around) (outer : List Env) (s : Shared) (H : Hp) (vs : List V) (Q : VK) (E : XK), Room k (A.deeper (envOfC qual (defScope st) s.heap.objs.size f cdv)) →
      (A.deeper (envOfC qual (defScope st) s.heap.objs.size f cdv)).guards = some [] → sp vs H Q E →
      ∃ t, PSs (cxOf CX P w K mg base N qual (defScope st) f cdv A outer s H E) (defBody st) t ∧ t { nx := fun _ H' => Q .non H', rt := Q } (start N vs) H) :
    FnG P w K mg base CX (k + 1) f fd ps sp := by
  obtain ⟨oc, od, kV, doc, pm, an, cdv, ct, osl, rfl, lk, hcd⟩ := F.ex
  refine ⟨len, fun A outer s H args us vs Q E hr hgd e0 hb r hsp => ?_⟩
  have inn : K.In s.heap := e0.mod.kin.keeps fun b o e => (e0.bs b o e).1
  refine codeAny_call_function hr.depth (inn _ _ lk) rfl S.co S.gen rfl (PySem.W.codeRec_of inn hcd) (hb _ _ _ _ ?_)
  refine wpAny_newFunctionEnv_cells S.kind (fun y hy => ?_) fun env he s1 made => ?_
  · obtain ⟨n, v⟩ := y
    exact (S.par n (List.of_mem_zip hy).1).elim .inl fun q => .inr ⟨q, PySem.W.cellsFrom_some _ _ _ (.inl q)⟩
  · subst he
    have lim : s.heap.NoLimit := e0.mod.nolimit.keeps fun b o e => (e0.bs b o e).1
    refine ⟨lim.keeps made.toInCall.keep, codeAny_func ?_⟩
    obtain ⟨t, ht, hq⟩ := body cdv A outer s H vs Q E (hr.deeper _) hgd hsp
    refine wpAny_mono (ht.run [] s1 (start N vs) H _ (inv_start S hr.hd e0 (len _ _ _ _ hsp) r made) hq) (fun fl s' hs => ?_) fun e s' hs => hs
    cases fl with
    | ret u => exact let ⟨v, _, H', J, rv, q⟩ := hs; ⟨v, H', J.os, J.bare, J.base, J.hok, rv, q⟩
    | next => exact let ⟨_, H', J, q⟩ := hs; ⟨V.non, H', J.os, J.bare, J.base, J.hok, rfl, q⟩
    | brk => exact let ⟨_, _, _, q⟩ := hs; q.elim
    | cont => exact let ⟨_, _, _, q⟩ := hs; q.elim
/-- .. whose body lets no exception out -/
theorem okG0 {x qual : Str} {st : Stmt} {f : Addr} {fd : FuncData} {N ps : List Str} {k : Nat} {sp : Sp} (F : Fun K x qual st f fd) (S : FnScope N ps (defScope st)) (len : ∀ vs H Q E, sp vs H Q E → vs.length = ps.length)
    (body : ∀ (cdv : Value) (A : Around) (outer : List Env) (s : Shared) (H : Hp) (vs : List V) (Q : VK) (E : XK), Room k (A.deeper (envOfC qual (defScope st) s.heap.objs.size f cdv)) →
      (A.deeper (envOfC qual (defScope st) s.heap.objs.size f cdv)).guards = some [] → sp vs H Q E →
      ∃ t, PSs (cxOf CX0 P w K mg base N qual (defScope st) f cdv A outer s H E).nox (defBody st) t ∧ t { nx := fun _ H' => Q .non H', rt := Q } (start N vs) H) :
    FnG P w K mg base CX0 (k + 1) f fd ps sp :=
  okG F S len fun cdv A outer s H vs Q E hr hg hs => let ⟨t, ht, q⟩ := body cdv A outer s H vs Q E hr hg hs; ⟨t, ht.nox, q⟩
end
section
variable {X : Cx} {CX : CXT} {k : Nat} {f : Addr} {fd : FuncData} {ps : List Str} {sp : Sp} {E : XK} {x : Str} {p pos : Pos} {e : Expr} {es : List Expr} {t : TA}
theorem run_fnG {pins : List (Addr × Obj)} {σ : L2.St} {H : Hp} {s : Shared} {Q : VK} {us : List Value} {vs : List V} (F : FnG X.prog X.w X.K X.mg X.base CX k f fd ps sp) (hr : Room k X.A) (hg : X.A.guards = some []) (hb : Binds X.K fd ps [])
    (hx : Passes CX X E) (I : Inv X pins σ H s) (r : Vals vs us) (h : sp vs H Q E) : wpAny (model X.prog X.w) X.A (call (.ref f) us) (EP X pins σ Q) X.xe s := by
  have hl : (us ++ []).length = ps.length := by rw [List.append_nil, ← r.length, F.len _ _ _ _ h]
  have hbs := hb s us I.kIn hl
  rw [List.append_nil] at hbs
  refine wpAny_call (codeAny_mono (F.run X.A X.stack s H ⟨us, []⟩ us vs Q E hr hg I.env0 hbs r h) fun res s' hq => ?_)
  match res, hq with
  | .error e, hq => exact hx pins σ H s e s' I hq
  | .ok (.ret u), hq => exact I.after hq
  | .ok .next, hq => exact hq.elim
  | .ok .brk, hq => exact hq.elim
  | .ok .cont, hq => exact hq.elim
end

/-! ### defs of the text, by name -/
/-- what the top has left of the def x, whose statement is st -/
def HasFn (K : PySem.W.Frag) (x : Str) (st : Stmt) : Prop := ∃ (f : Addr) (oc : Value) (od an : Option Addr) (kV doc pm cdv ct : Value) (osl : Array (Option Value)),
  PySem.W.nsIn K mainGlobals x = some (some (.ref f)) ∧ K.lookup f = some ⟨oc, od, .func (PySem.W.fnOf x x (defArgs st) (defBody st) (defScope st) .none kV doc pm an cdv ct), osl⟩ ∧
  PySem.W.codeIn K cdv x = true ∧ PySem.W.keepIn K (.ref f) = true
/-- the def x may be called: its promise sp, by level k -/
structure Use (P : Program) (w : World) (K : PySem.W.Frag) (mg : Str → Option Value) (base : Heap) (CX : CXT) (x : Str) (k : Nat) (ps : List Str) (sp : Sp) : Prop where
  ex : ∃ (f : Addr) (fd : FuncData), FnG P w K mg base CX k f fd ps sp ∧ mg x = some (.ref f) ∧ PySem.W.keepIn K (.ref f) = true ∧ Binds K fd ps []
section
variable {P : Program} {w : World} {K : PySem.W.Frag} {mg : Str → Option Value} {base h : Heap} {CX : CXT}
theorem mk_use {x : Str} {st : Stmt} {k : Nat} {ps : List Str} {sp : Sp} (F : HasFn K x st) (X : K.In h) (G : h.Ns mainGlobals mg)
    (hb : ∀ (kV doc pm : Value) (an : Option Addr) (cdv ct : Value) (us : List Value), us.length = ps.length → bindArgs (PySem.W.fnOf x x (defArgs st) (defBody st) (defScope st) .none kV doc pm an cdv ct) ⟨us, []⟩ = pure (ps.zip us))
    (ok : ∀ (f : Addr) (fd : FuncData), Fun K x x st f fd → FnG P w K mg base CX k f fd ps sp) : Use P w K mg base CX x k ps sp := by
  obtain ⟨f, oc, od, an, kV, doc, pm, cdv, ct, osl, e, l, c, kp⟩ := F
  have Fn := fun_mk (st := st) l c kp
  exact ⟨f, _, ok f _ Fn, PySem.W.mg_of X G e, kp, Fn.binds hb⟩
theorem Use.imp {x : Str} {k : Nat} {ps : List Str} {sp sp' : Sp} (U : Use P w K mg base CX x k ps sp) (h : ∀ vs H Q E, sp' vs H Q E → sp vs H Q E) : Use P w K mg base CX x k ps sp' := by
  obtain ⟨f, fd, ok, r⟩ := U.ex
  exact ⟨f, fd, ok.imp h, r⟩
end
section
variable {X : Cx} {CX : CXT} {E : XK} {k : Nat} {x : Str} {ps : List Str} {sp : Sp} {p pos : Pos} {e : Expr} {es : List Expr} {t : TA}
theorem pe_useX (U : Use X.prog X.w X.K X.mg X.base CX x k ps sp) (hx : Passes CX X E) (hr : Room k X.A) (gd : X.A.guards = some []) (hg : Gl X x) (ha : PA X (e :: es) t) (hdb : (x == ("__debug__" : Str)) = false := by decide)
    (he : starEach (e :: es) X.env = (false, eval e X.env) :: starEach es X.env := by rfl) (hpl : (backTo pos (starEach es X.env)).any (·.1) = false := by rfl) : PE X (.Call (.Name x p) (e :: es) [] pos) (fun σ H Q => t σ H fun vs H1 => sp vs H1 Q E) := by
  obtain ⟨f, fd, ok, hm, kp, hb⟩ := U.ex
  refine ⟨fun pins s σ H Q I h => wpAny_Call_Name_kw (ld_glob I hg hm ?_ hdb)⟩
  exact PySem.W.callWith_K (h₀ := X.base) I.ok.mod.kin kp (thn (ha.run pos pins s σ H _ I h) fun us s1 ⟨vs, H1, I1, r, q⟩ => ⟨I1.kIn, run_fnG ok hr gd hb hx I1 r q⟩) he hpl
def tUse (sp : Sp) (E : XK) (t : TA) : TE := fun σ H Q => t σ H fun vs H1 => sp vs H1 Q E
theorem pe_use (U : Use X.prog X.w X.K X.mg X.base CX0 x k ps sp) (hr : Room k X.A) (gd : X.A.guards = some []) (hg : Gl X x) (ha : PA X (e :: es) t) (hdb : (x == ("__debug__" : Str)) = false := by decide)
    (he : starEach (e :: es) X.env = (false, eval e X.env) :: starEach es X.env := by rfl) (hpl : (backTo pos (starEach es X.env)).any (·.1) = false := by rfl) : PE X (.Call (.Name x p) (e :: es) [] pos) (tUse sp E0 t) := pe_useX U pass0 hr gd hg ha hdb he hpl
theorem pe_use0 (U : Use X.prog X.w X.K X.mg X.base CX0 x k ps sp) (hr : Room k X.A) (gd : X.A.guards = some []) (hg : Gl X x) (hdb : (x == ("__debug__" : Str)) = false := by decide) : PE X (.Call (.Name x p) [] [] pos) (tUse sp E0 tNil) := by
  obtain ⟨f, fd, ok, hm, kp, hb⟩ := U.ex
  exact ⟨fun pins s σ H Q I h => wpAny_Call_Name_kw (ld_glob I hg hm (PySem.W.callWith_K0 I.kIn kp (run_fnG (us := []) ok hr gd hb pass0 I .nil h)) hdb)⟩
end

/-! ### what stays -/
theorem Same.new {H : Hp} {p : Addr} {o : HO} (h : H p = none) : Same H (upd H p o) := fun b u e => by
  rw [upd_ne (ne_of_none e h)]; exact e
theorem Same.rd {H H' : Hp} {a : Addr} {u : HO} (e : Same H H') (h : Rd H a u) : Rd H' a u := by
  rcases h with h | ⟨o, h⟩
  · exact .inl (e _ _ h)
  · exact .inr ⟨o, e _ _ h⟩
theorem Same.tupl {K : PySem.W.Frag} {H H' : Hp} {a : Addr} {xs : List V} (e : Same H H') (h : SqT K H a xs) : SqT K H' a xs := by
  rcases h with h | h
  · exact .inl (Same.rd e h)
  · exact .inr h
theorem SqT.mono {K : PySem.W.Frag} {H H' : Hp} {a : Addr} {xs : List V} (h : SqT K H a xs) (e : Same H H') : SqT K H' a xs := Same.tupl e h
theorem SqL.mono {K : PySem.W.Frag} {H H' : Hp} {a : Addr} {xs : List V} (h : SqL K H a xs) (e : Same H H') : SqL K H' a xs := e.seq h

/-! ### data: none, bools, ints, texts, tuples (and lists that stand still) -/
mutual
theorem Dp.mono {K : PySem.W.Frag} {H H' : Hp} (e : Same H H') : ∀ {v : V} {d : PyData}, Dp K H v d → Dp K H' v d
  | _, _, .non => .non
  | _, _, .bl b => .bl b
  | _, _, .int i => .int i
  | _, _, .str x => .str x
  | _, _, .lst h a => .lst (e.seq h) (DpAll.mono e a)
  | _, _, .tup h a => .tup (Same.tupl e h) (DpAll.mono e a)
theorem DpAll.mono {K : PySem.W.Frag} {H H' : Hp} (e : Same H H') : ∀ {vs : List V} {ds : List PyData}, DpAll K H vs ds → DpAll K H' vs ds
  | _, _, .nil => .nil
  | _, _, .cons h a => .cons (Dp.mono e h) (DpAll.mono e a)
end
/-- a tuple just made -/
theorem Dp.made {K : PySem.W.Frag} {H : Hp} {p : Addr} {xs : List V} {ds : List PyData} (hp : H p = none) (h : DpAll K H xs ds) : Dp K (upd H p (.tup xs)) (.ref p) (.tuple ds) :=
  .tup (SqT.of upd_same) (DpAll.mono (Same.new hp) h)
theorem DpAll.length {K : PySem.W.Frag} {H : Hp} : ∀ {vs : List V} {ds : List PyData}, DpAll K H vs ds → vs.length = ds.length
  | _, _, .nil => rfl
  | _, _, .cons _ t => by simp [DpAll.length t]
theorem DpAll.app {K : PySem.W.Frag} {H : Hp} : ∀ {vs ws : List V} {ds es : List PyData}, DpAll K H vs ds → DpAll K H ws es → DpAll K H (vs ++ ws) (ds ++ es)
  | _, _, _, _, .nil, t => t
  | _, _, _, _, .cons h a, t => .cons h (DpAll.app a t)

/-! ### repr of data -/
mutual
theorem Dp.noDict {K : PySem.W.Frag} {H : Hp} : ∀ {v : V} {d : PyData}, Dp K H v d → d.hasDict = false
  | _, _, .non => rfl
  | _, _, .bl _ => rfl
  | _, _, .int _ => rfl
  | _, _, .str _ => rfl
  | _, _, .lst _ a => by simp only [PyData.hasDict]; exact DpAll.noDict a
  | _, _, .tup _ a => by simp only [PyData.hasDict]; exact DpAll.noDict a
theorem DpAll.noDict {K : PySem.W.Frag} {H : Hp} : ∀ {vs : List V} {ds : List PyData}, DpAll K H vs ds → PyData.hasDictAll ds = false
  | _, _, .nil => rfl
  | _, _, .cons h a => by simp only [PyData.hasDictAll, Dp.noDict h, DpAll.noDict a, Bool.or_self]
end
/-- what repr asks of data -/
structure ShowOk (d : PyData) : Prop where
  ok : d.showable = true
  dp : d.depth ≤ 60
  sz : d.shown.length ≤ sizeLine
def rRepr (K : PySem.W.Frag) : List V → Hp → VK → Prop := fun xs H Q => ∃ v d, xs = [v] ∧ Dp K H v d ∧ ShowOk d ∧ Q (.str d.shown) H
section
variable {X : Cx}
theorem call_repr_data (hg : X.A.guards = some []) (hu : X.A.units + 64 < cLine) : CallR X (.builtin "repr") (rRepr X.K) := by
  intro pins s σ H xs us Q I r h
  obtain ⟨v, d, rfl, hd, ⟨hs, hdp, hsz⟩, q⟩ := h
  obtain ⟨u, rfl, rv⟩ := vals1 r
  obtain ⟨as, rr⟩ := Dp.reads I d v u hd rv
  have nd := Dp.noDict hd
  cases d with
  | none => cases rr; exact PySem.P.repr_of_none ⟨.str _, H, I.tok _, ⟨_, rfl⟩, q⟩
  | bool b => cases rr; exact PySem.P.repr_of_bool ⟨.str _, H, I.tok _, ⟨_, rfl⟩, by simpa [PyData.shown] using q⟩
  | int i => cases rr; exact PySem.P.repr_of_int (of_decide_eq_true (by simpa [PyData.showable] using hs)) ⟨.str _, H, I.tok _, ⟨_, rfl⟩, by simpa [PyData.shown] using q⟩
  | str x => cases rr; exact PySem.P.repr_of_str (hsz := by simpa [PyData.shown] using hsz) ⟨.str _, H, I.tok _, ⟨_, rfl⟩, by simpa [PyData.shown] using q⟩
  | list ds =>
    obtain ⟨a, rfl⟩ := PyProof.Rows.isRef_of_reads rr rfl
    exact repr_of_reads' rr hs (PyData.noDict_hsm nd) hg (by omega) (fun _ _ e => e) (fun h' u tk hk => ⟨.str _, H, I.kept hk, ⟨_, rfl⟩, q⟩) hsz
  | tuple ds =>
    obtain ⟨a, rfl⟩ := PyProof.Rows.isRef_of_reads rr rfl
    exact repr_of_reads' rr hs (PyData.noDict_hsm nd) hg (by omega) (fun _ _ e => e) (fun h' u tk hk => ⟨.str _, H, I.kept hk, ⟨_, rfl⟩, q⟩) hsz
  | dict kv => cases hd
end

/-! ### the law's own call -/
/-- the heap behind the top, seen with the script at a locked, or with nothing tracked -/
theorem law_callG {P : Program} {w : World} {K : PySem.W.Frag} {mg mb : Str → Option Value} {CX : CXT} {k : Nat} {fa a : Addr} {fd : FuncData} {x : Str} {sp : Sp} {s₁ : Shared} {vs : List Value} {ns : List Int}
    (inn : K.In s₁.heap) (hns : s₁.heap.Ns mainGlobals mg) (hb : s₁.heap.Ns builtinsNs mb) (hbb : ∀ x : Str, x ≠ "__name__" → mb x = bootBuiltins x) (hlim : s₁.heap.NoLimit) (hgens : s₁.gens = #[])
    (ha : s₁.heap.get? a = some { cls := .type "list", data := .seq vs.toArray }) (hi : IntsAre vs ns) (hl : ns.length ≤ sizeLine) (hr : Room k callerA)
    (F : ∀ base : Heap, K.In base → base.Ns mainGlobals mg → FnG P w K mg base CX k fa fd [x] sp) (hbind : ∀ (s : Shared) (u : Value), BindsTo s fd ⟨[u], []⟩ [(x, u)])
    (hsp : ∀ H : Hp, Only H → SqL K H a (ns.map V.int) → sp [.ref a] H (fun v _ => v = .bl true) fun _ _ _ => False)
    (hCX : ∀ H e s', CX [] H s₁ (fun _ _ _ => False) e s' → False) :
    codeAny (model P w) callerA (.call (.ref fa) ⟨[.ref a], []⟩) (fun r s' => r = .ok (.ret (.bool true)) ∧ OldK s₁.heap s'.heap ∧ s'.os = s₁.os ∧ AllBare s'.gens) s₁ := by
  have rv := vals_ints hi
  have run : ∀ H : Hp, Only H → SqL K H a (ns.map V.int) → HOk P w H s₁.heap → (∀ b u, H b = some u → b = a ∧ K.lookup a = none) →
      codeAny (model P w) callerA (.call (.ref fa) ⟨[.ref a], []⟩) (fun r s' => r = .ok (.ret (.bool true)) ∧ OldK s₁.heap s'.heap ∧ s'.os = s₁.os ∧ AllBare s'.gens) s₁ := by
    intro H only hS hok at_a
    -- what is no list stays in the base
    have free : ∀ {b : Addr} {o : Obj}, s₁.heap.get? b = some o → (∀ its n, o.data ≠ .seq its n) → H b = none := fun {b o} e hd => by
      cases q : H b with
      | none => rfl
      | some u =>
        obtain ⟨rfl, _⟩ := at_a b u q
        rw [ha] at e; cases e
        exact absurd rfl (hd _ _)
    have names : ∀ {b : Addr} {m : Str → Option Value}, s₁.heap.Ns b m → (hidT s₁.heap H).Ns b m := fun {b m} hn => by
      obtain ⟨o, es, ep, e, d, r⟩ := hn
      exact ⟨o, es, ep, hidT_get e (free e fun its n z => by rw [d] at z; cases z), d, r⟩
    have inb : K.In (hidT s₁.heap H) := fun b o e => by
      refine hidT_get (inn b o e) ?_
      cases q : H b with
      | none => rfl
      | some u =>
        obtain ⟨rfl, hk⟩ := at_a b u q
        rw [e] at hk; cases hk
    have md : Mod K mg (hidT s₁.heap H) := by
      obtain ⟨mc, h1, h2⟩ := hlim
      exact ⟨inb, names hns, ⟨mb, names hb, hbb⟩, ⟨mc, names h1, h2⟩⟩
    have none_in : ∀ b : Addr, b ∉ ([] : List Addr) := fun b z => nomatch z
    have e0 : Env0 P w K mg (hidT s₁.heap H) callerA [] s₁ H := ⟨rfl, md, fun b o e => of_hidT e, Nat.le_of_eq (hidT_size _ _), trivial, fun b z => absurd z (none_in b), hok, .of_eq hgens⟩
    refine codeAny_mono ((F _ inb (names hns)).run callerA [] s₁ H ⟨[.ref a], []⟩ [.ref a] [.ref a] _ _ hr rfl e0 (hbind s₁ (.ref a)) (.cons rfl .nil) (hsp H only hS)) fun r s' h => ?_
    match r, h with
    | .error e, h => exact (hCX H e s' h).elim
    | .ok .next, h => exact False.elim h
    | .ok .brk, h => exact False.elim h
    | .ok .cont, h => exact False.elim h
    | .ok (.ret u), h =>
      obtain ⟨v, H', os, bare, un, hok', r', q⟩ := h
      obtain rfl : v = V.bl true := q
      obtain rfl : u = Value.bool true := r'
      refine ⟨rfl, OldK.of_keep fun b o e => ?_, os, bare⟩
      cases q : H b with
      | none => exact un.keep b o e q (none_in b) (none_in b)
      | some u =>
        rcases only b with z | ⟨ob, xs, z⟩
        · rw [q] at z; cases z
        · have e1 : s₁.heap.get? b = some ob := (hok b _ z).1
          rw [e] at e1; cases e1
          exact (hok' b _ (un.frzs b o _ z)).1
  cases hk : K.lookup a with
  | some o =>
    have e := inn a o hk
    rw [ha] at e; cases e
    have sz : vs.toArray.size ≤ sizeLine := by rw [List.size_toArray, hi.length]; exact hl
    exact run (fun _ => none) (fun _ => .inl rfl) (.inr ⟨_, vs.toArray, _, hk, rfl, rfl, rfl, sz, by simpa using rv⟩) (fun b u z => nomatch (show (none : Option HO) = some u from z)) fun b u z => nomatch (show (none : Option HO) = some u from z)
  | none =>
    let u0 : HO := .frz { cls := .type "list", data := .seq vs.toArray } (.lst (ns.map V.int))
    have at1 : ∀ b u, upd (fun _ => none) a u0 b = some u → b = a ∧ u = u0 := fun b u z => by
      by_cases hb : b = a
      · subst hb; rw [upd_same] at z; exact ⟨rfl, (Option.some.inj z).symm⟩
      · rw [upd_ne hb] at z; cases z
    refine run (upd (fun _ => none) a u0) (fun b => ?_) (.inl (.inr ⟨_, upd_same⟩)) (fun b u z => ?_) fun b u z => ⟨(at1 b u z).1, hk⟩
    · by_cases hb : b = a
      · subst hb; exact .inr ⟨_, _, upd_same⟩
      · exact .inl (by rw [upd_ne hb])
    · obtain ⟨rfl, rfl⟩ := at1 b u z
      exact ⟨ha, by rw [List.length_map]; exact hl, vs, _, rv, ha⟩
theorem walkG {l : PySem.W.OpenLaw} {n k : Nat} {q : Program} {loose : List Str} {XP : (Str → Option Value) → Heap → Prop} {YP : World → Heap → Prop} {d : DefRec} {K : Params → PySem.W.Frag} {CX : CXT} {sp : PySem.W.Frag → Sp} {x : Str}
    (hn : l.most = some n) (hn2 : n ≤ sizeLine) (hdf : d.params.defaults = []) (hr : Room k callerA)
    (hY : ∀ (w : World) (h : Heap), YP w h → (K w.params).In h)
    (F : ∀ (w : World) (mg : Str → Option Value) (fa : Addr) (h : Heap), (K w.params).In h → h.Ns mainGlobals mg → mg d.name = some (.ref fa) →
      ∃ fd : FuncData, (∀ (s : Shared) (u : Value), BindsTo s fd ⟨[u], []⟩ [(x, u)]) ∧
        ∀ base : Heap, (K w.params).In base → base.Ns mainGlobals mg → FnG l.prog w (K w.params) mg base CX k fa fd [x] (sp (K w.params)))
    (hsp : ∀ (K : PySem.W.Frag) (H : Hp) (a : Addr) (ns : List Int), ns.length ≤ n → Only H → SqL K H a (ns.map V.int) → sp K [.ref a] H (fun v _ => v = .bl true) fun _ _ _ => False)
    (hCX : ∀ (H : Hp) (s : Shared) (e : Value) (s' : Shared), CX [] H s (fun _ _ _ => False) e s' → False) :
    PySem.W.WalkO q loose XP YP l.row.toRowW d [] (fun f vs => PySem.call f vs) :=
  Att.attach_call hn hdf fun w s₀ s₁ mg mb fa o pm cd doc a vs ns G Y ho hd hcd hmg hobj hints hlen hg =>
    let ⟨fd, hb, hF⟩ := F w mg fa _ (hY w _ Y) G.T.g hmg
    law_callG (hY w _ Y) G.T.g G.T.b G.T.builtins G.T.nolimit hg hobj hints (Nat.le_trans hlen hn2) hr hF hb (fun H hO hS => hsp (K w.params) H a ns hlen hO hS) fun H e s' => hCX H s₁ e s'
/-- from the top's facts: the law's def and its arguments -/
theorem law_use {P : Program} {w : World} {K : PySem.W.Frag} {mg : Str → Option Value} {h : Heap} {CX : CXT} {k : Nat} {fa : Addr} {st : Stmt} {x : Str} {sp : Sp} (L : HasFn K "law" st) (X : K.In h) (G : h.Ns mainGlobals mg) (hfa : mg "law" = some (.ref fa))
    (hb : ∀ (kV doc pm : Value) (an : Option Addr) (cdv ct v : Value), bindArgs (PySem.W.fnOf "law" "law" (defArgs st) (defBody st) (defScope st) .none kV doc pm an cdv ct) ⟨[v], []⟩ = pure [(x, v)])
    (ok : ∀ base : Heap, K.In base → base.Ns mainGlobals mg → ∀ fd, Fun K "law" "law" st fa fd → FnG P w K mg base CX k fa fd [x] sp) :
    ∃ fd : FuncData, (∀ (s : Shared) (v : Value), BindsTo s fd ⟨[v], []⟩ [(x, v)]) ∧ ∀ base : Heap, K.In base → base.Ns mainGlobals mg → FnG P w K mg base CX k fa fd [x] sp := by
  obtain ⟨f, oc, od, an, kV, doc, pm, cdv, ct, osl, e, l, c, kp⟩ := L
  have z := hfa.symm.trans (PySem.W.mg_of X G e)
  cases z
  have Fn := fun_mk (st := st) l c kp
  exact ⟨_, fun s v => .of_eq (hb ..), fun base h1 h2 => ok base h1 h2 _ Fn⟩

/-! ### tests whose answer is known -/
theorem iteFb {c : Bool} {A B : Prop} (h : c = false) (b : B) : if c = true then A else B := by rw [h]; exact iteF b
theorem iteTb {c : Bool} {A B : Prop} (h : c = true) (a : A) : if c = true then A else B := by rw [h]; exact iteT a
theorem ite3 {c : Bool} {A B : Prop} (h1 : c = true → A) (h2 : c = false → B) : if c = true then A else B := by
  cases c with
  | true => exact iteT (h1 rfl)
  | false => exact iteF (h2 rfl)

/-! ### constants of the top -/
def HasInt (K : PySem.W.Frag) (x : Str) (n : Int) : Prop := ∃ (t : Tok) (m : Int), PySem.W.nsIn K mainGlobals x = some (some (.int m t)) ∧ m = n
def KTup (K : PySem.W.Frag) (a : Addr) (xs : List V) : Prop := ∃ (od : Option Addr) (its : Array Value) (n : Nat) (sl : Array (Option Value)), K.lookup a = some ⟨.type "tuple", od, .seq its n, sl⟩ ∧ its.size ≤ sizeLine ∧ Vals xs its.toList
def HasTup (K : PySem.W.Frag) (x : Str) (xs : List V) : Prop := ∃ a, PySem.W.nsIn K mainGlobals x = some (some (.ref a)) ∧ KTup K a xs
theorem KTup.sq {K : PySem.W.Frag} {a : Addr} {xs : List V} (h : KTup K a xs) (H : Hp) : SqT K H a xs := by
  obtain ⟨od, its, n, sl, e, z, v⟩ := h
  exact .inr ⟨_, its, n, e, rfl, rfl, z, v⟩
/-- the module's names, as the defs see them -/
def GInt (mg : Str → Option Value) (x : Str) (n : Int) : Prop := ∃ t, mg x = some (.int n t)
def GTup (K : PySem.W.Frag) (mg : Str → Option Value) (x : Str) (xs : List V) : Prop := ∃ a, mg x = some (.ref a) ∧ KTup K a xs
theorem HasInt.g {K : PySem.W.Frag} {mg : Str → Option Value} {h : Heap} {x : Str} {n : Int} (i : HasInt K x n) (X : K.In h) (G : h.Ns mainGlobals mg) : GInt mg x n := by
  obtain ⟨t, m, e, rfl⟩ := i
  exact ⟨t, PySem.W.mg_of X G e⟩
theorem HasTup.g {K : PySem.W.Frag} {mg : Str → Option Value} {h : Heap} {x : Str} {xs : List V} (i : HasTup K x xs) (X : K.In h) (G : h.Ns mainGlobals mg) : GTup K mg x xs := by
  obtain ⟨a, e, k⟩ := i
  exact ⟨a, PySem.W.mg_of X G e, k⟩
section
variable {X : Cx} {x : Str} {pos : Pos}
theorem pe_globI {n : Int} (h : GInt X.mg x n) (hg : Gl X x) (hd : (x == ("__debug__" : Str)) = false := by decide) : PE X (.Name x pos) (tC (.int n)) := by
  obtain ⟨t, e⟩ := h
  exact pe_glob hg e ⟨t, rfl⟩ hd
/-- a tuple of the top: it is read as xs, wherever it stands -/
def tGT (K : PySem.W.Frag) (xs : List V) : TE := fun _ H Q => ∀ a, KTup K a xs → Q (.ref a) H
theorem pe_globT {xs : List V} (h : GTup X.K X.mg x xs) (hg : Gl X x) (hd : (x == ("__debug__" : Str)) = false := by decide) : PE X (.Name x pos) (tGT X.K xs) := by
  obtain ⟨a, e, k⟩ := h
  exact ⟨fun pins s σ H Q I q => (pe_glob (v := .ref a) hg e rfl hd).run pins s σ H Q I (q a k)⟩
end

/-! ### // by any divisor but 0 -/
def CDivX (_ j : Int) : Prop := j ≠ 0 ∧ j.natAbs.log2 < 9000
theorem op_fdivX {X : Cx} : OpR X (binaryOp .FloorDiv) (rI CDivX fun i j => .int (i.fdiv j)) := opI fun _ _ _ _ _ _ _ hc q => floordiv_int hc.1 q (.inl (PyProof.noPylong_of_log2 hc.2))
theorem fdiv_le_pos (i : Int) {j : Int} (hj : 0 < j) : (i.fdiv j).natAbs ≤ i.natAbs + 1 := by
  have e := Int.mul_fdiv_add_fmod i j
  have h0 := Int.fmod_nonneg_of_pos i hj
  have h1 := Int.fmod_lt_of_pos i hj
  have a : (i.fdiv j).natAbs ≤ (j * i.fdiv j).natAbs := by
    rw [Int.natAbs_mul]; exact Nat.le_mul_of_pos_left _ (by omega)
  by_cases hi : 0 ≤ i
  · have : 0 ≤ i.fdiv j := Int.fdiv_nonneg hi (by omega)
    have : 0 ≤ j * i.fdiv j := Int.mul_nonneg (by omega) this
    omega
  · have q : i.fdiv j ≤ -1 := by
      by_cases z : 0 ≤ i.fdiv j
      · have := Int.mul_nonneg (show 0 ≤ j by omega) z
        omega
      · omega
    have r : -1 + i ≤ i.fdiv j := by
      have : i.fdiv j * (j - 1) ≤ (-1) * (j - 1) := Int.mul_le_mul_of_nonneg_right q (by omega)
      have e2 : j * i.fdiv j = i.fdiv j * (j - 1) + i.fdiv j := by rw [Int.mul_sub, Int.mul_one, Int.mul_comm]; omega
      omega
    omega
theorem fdiv_le (i j : Int) : (i.fdiv j).natAbs ≤ i.natAbs + 1 := by
  by_cases h : 0 < j
  · exact fdiv_le_pos i h
  · by_cases h2 : j = 0
    · subst h2; rw [Int.fdiv_zero]; omega
    · have e : i.fdiv j = (-i).fdiv (-j) := by rw [Int.neg_fdiv_neg]
      have := fdiv_le_pos (-i) (show 0 < -j by omega)
      rw [e]; omega

/-! ### how long a shown thing is at most -/
structure Sm (d : PyData) (dp N : Nat) : Prop where
  ok : d.showable = true
  dp : d.depth ≤ dp
  sz : d.shown.length ≤ N
structure SmAll (ds : List PyData) (dp n N : Nat) : Prop where
  ok : PyData.showableAll ds = true
  dp : PyData.depthAll ds ≤ dp
  len : ds.length ≤ n
  sz : ((PyData.shownAll ds).map (·.length)).sum ≤ N
theorem Sm.show {d : PyData} {dp N : Nat} (h : Sm d dp N) (h1 : dp ≤ 60) (h2 : N ≤ sizeLine) : ShowOk d := ⟨h.ok, Nat.le_trans h.dp h1, Nat.le_trans h.sz h2⟩
theorem Sm.mono {d : PyData} {dp N dp' N' : Nat} (h : Sm d dp N) (h1 : dp ≤ dp') (h2 : N ≤ N') : Sm d dp' N' := ⟨h.ok, Nat.le_trans h.dp h1, Nat.le_trans h.sz h2⟩
theorem shownAll_length : ∀ ds : List PyData, (PyData.shownAll ds).length = ds.length
  | [] => rfl
  | d :: ds => by simp [PyData.shownAll, shownAll_length ds]
theorem Sm.int {i : Int} (h : i.natAbs < 2 ^ 1900) : Sm (.int i) 0 2000 := by
  have hl : i.natAbs.log2 < 1900 := PySem.Flt.log2_lt_of (by decide) h
  refine ⟨?_, Nat.le_refl 0, ?_⟩
  · simp only [PyData.showable, decide_eq_true_eq]; omega
  · have e := int_text_length_le (k := 1900) (by decide) hl
    show (Str.ofString (toString i)).length ≤ 2000
    rw [PySem.ofString_length]; omega
theorem Sm.bool (b : Bool) : Sm (.bool b) 0 10 := ⟨rfl, Nat.le_refl 0, by cases b <;> decide +kernel⟩
theorem Sm.none : Sm .none 0 10 := ⟨rfl, Nat.le_refl 0, by decide +kernel⟩
theorem Sm.str {x : Str} {n : Nat} (h : x.length ≤ n) (hc : ∀ c ∈ x.cps.toList, c < 16 ^ 8) : Sm (.str x) 0 (10 * n + 2) := ⟨rfl, Nat.le_refl 0, by
  have e := PySem.StrLaws.reprText_len x hc
  show (reprText x).length ≤ _
  omega⟩
theorem SmAll.nil : SmAll [] 0 0 0 := ⟨rfl, Nat.le_refl 0, Nat.le_refl 0, Nat.le_refl 0⟩
theorem SmAll.cons {d : PyData} {ds : List PyData} {dp dp' n N M : Nat} (h : Sm d dp N) (t : SmAll ds dp' n M) : SmAll (d :: ds) (max dp dp') (n + 1) (N + M) := by
  have h1 := h.dp
  have h2 := t.dp
  refine ⟨by simp [PyData.showableAll, h.ok, t.ok], ?_, by have := t.len; simp; omega, ?_⟩
  · simp only [PyData.depthAll]; omega
  · have := h.sz
    have := t.sz
    simp only [PyData.shownAll, List.map_cons, List.sum_cons]; omega
theorem Sm.tup {ds : List PyData} {dp n N : Nat} (h : SmAll ds dp n N) : Sm (.tuple ds) (dp + 1) (N + 2 * n + 3) := by
  refine ⟨by simpa [PyData.showable] using h.ok, by simp only [PyData.depth]; have := h.dp; omega, ?_⟩
  have e := tupleText_len_le (PyData.shownAll ds)
  have := h.sz
  have := h.len
  rw [shownAll_length] at e
  show (tupleText (PyData.shownAll ds)).length ≤ _
  omega
theorem Sm.lst {ds : List PyData} {dp n N : Nat} (h : SmAll ds dp n N) : Sm (.list ds) (dp + 1) (N + 2 * n + 3) := by
  refine ⟨by simpa [PyData.showable] using h.ok, by simp only [PyData.depth]; have := h.dp; omega, ?_⟩
  have e := listText_len_le (PyData.shownAll ds)
  have := h.sz
  have := h.len
  rw [shownAll_length] at e
  show (listText (PyData.shownAll ds)).length ≤ _
  omega
theorem SmAll.many {dp N : Nat} : ∀ {ds : List PyData}, (∀ d ∈ ds, Sm d dp N) → SmAll ds dp ds.length (N * ds.length)
  | [], _ => ⟨rfl, Nat.zero_le _, Nat.le_refl 0, Nat.zero_le _⟩
  | d :: ds, h => by
    have t := SmAll.cons (h d (by simp)) (SmAll.many (fun e he => h e (List.mem_cons_of_mem _ he)))
    rw [Nat.max_self] at t
    refine ⟨t.ok, t.dp, t.len, Nat.le_trans t.sz ?_⟩
    rw [List.length_cons, Nat.mul_succ]; omega
theorem sz_0 : (0 : Nat) ≤ sizeLine := by decide
theorem sz_1 : (1 : Nat) ≤ sizeLine := by decide
theorem sz_2 : (2 : Nat) ≤ sizeLine := by decide
theorem sz_3 : (3 : Nat) ≤ sizeLine := by decide
theorem sz_4 : (4 : Nat) ≤ sizeLine := by decide
theorem sz_5 : (5 : Nat) ≤ sizeLine := by decide
/-! ### the ends: each premise a fact that k_is finds -/
theorem HasFn.mk' {K : PySem.W.Frag} {x : Str} {st : Stmt} {f : Addr} {oc : Value} {od an : Option Addr} {kV doc pm cdv ct : Value} {osl : Array (Option Value)} (a : PySem.W.nsIn K mainGlobals x = some (some (.ref f)))
    (b : K.lookup f = some ⟨oc, od, .func (PySem.W.fnOf x x (defArgs st) (defBody st) (defScope st) .none kV doc pm an cdv ct), osl⟩) (c : PySem.W.codeIn K cdv x = true) (d : PySem.W.keepIn K (.ref f) = true) : HasFn K x st :=
  ⟨f, oc, od, an, kV, doc, pm, cdv, ct, osl, a, b, c, d⟩
theorem HasInt.mk' {K : PySem.W.Frag} {x : Str} {n m : Int} {t : Tok} (a : PySem.W.nsIn K mainGlobals x = some (some (.int m t))) (e : m = n) : HasInt K x n := ⟨t, m, a, e⟩
theorem HasTup.mk' {K : PySem.W.Frag} {x : Str} {xs : List V} {a : Addr} {od : Option Addr} {its : Array Value} {n : Nat} {sl : Array (Option Value)} (h : PySem.W.nsIn K mainGlobals x = some (some (.ref a)))
    (b : K.lookup a = some ⟨.type "tuple", od, .seq its n, sl⟩) (z : its.size ≤ sizeLine) (v : Vals xs its.toList) : HasTup K x xs := ⟨a, h, od, its, n, sl, b, z, v⟩
/-! ### what the laws' helpers promise -/
/-! the digits and the place -/
def BoxAt (H : Hp) (p dl : Addr) : Prop := ∃ (ds : List Int) (k : Int), H p = some (.lst [.ref dl, .int k]) ∧ 0 ≤ k ∧ H dl = some (.lst (ds.map V.int)) ∧ ds.length ≤ 4000 ∧ ∀ d ∈ ds, 0 ≤ d ∧ d < 1000
theorem BoxAt.at_ {H : Hp} {p dl : Addr} (h : BoxAt H p dl) : ∃ xs, H p = some (.lst xs) := let ⟨_, _, a, _⟩ := h; ⟨_, a⟩
theorem BoxAt.dg {H : Hp} {p dl : Addr} (h : BoxAt H p dl) : ∃ xs, H dl = some (.lst xs) := let ⟨_, _, _, _, c, _⟩ := h; ⟨_, c⟩
def Keep (p : Addr) (H H' : Hp) : Prop := ∀ b o, H b = some o → b ≠ p → H' b = some o
def spDraw (K : PySem.W.Frag) : Sp := fun vs H Q _ => ∃ (p dl : Addr) (m : Int), vs = [.ref p, .int m] ∧ BoxAt H p dl ∧ 0 < m ∧ ∀ r H', 0 ≤ r → r < m → BoxAt H' p dl → Keep p H H' → Q (.int r) H'
def spCell (K : PySem.W.Frag) : Sp := fun vs H Q _ => ∃ (a : Addr) (ns : List Int) (i : Int), vs = [.ref a, .int i] ∧ SqL K H a (ns.map V.int) ∧ 0 ≤ i ∧ ∀ r, Q (.int r) H
def DigAt (H0 H : Hp) (dl : Addr) (n : Nat) : Prop := ∃ ds : List Int, H dl = some (.lst (ds.map V.int)) ∧ ds.length ≤ n ∧ (∀ d ∈ ds, 0 ≤ d ∧ d < 1000) ∧ Same H0 H
theorem DigAt.mono {H0 H : Hp} {dl : Addr} {n m : Nat} (h : DigAt H0 H dl n) (l : n ≤ m) : DigAt H0 H dl m := let ⟨ds, a, b, c, d⟩ := h; ⟨ds, a, by omega, c, d⟩
theorem DigAt.add {H0 H : Hp} {dl : Addr} {n : Nat} {r : Int} {xs : List V} (h : DigAt H0 H dl n) (hx : H dl = some (.lst xs)) (nd : H0 dl = none) (h0 : 0 ≤ r) (h1 : r < 1000) : DigAt H0 (upd H dl (.lst (xs ++ [.int r]))) dl (n + 1) := by
  obtain ⟨ds, a, b, c, d⟩ := h
  rw [hx] at a
  obtain rfl := HO.lst.inj (Option.some.inj a)
  refine ⟨ds ++ [r], by rw [upd_same, List.map_append]; rfl, by simp; omega, fun z hz => ?_, fun q o e => by rw [upd_ne (ne_of_none e nd)]; exact d q o e⟩
  rcases List.mem_append.mp hz with hz | hz
  · exact c z hz
  · have : z = r := by simpa using hz
    omega
def spDigits (K : PySem.W.Frag) : Sp := fun vs H Q _ => ∃ (a : Addr) (ns : List Int) (lo hi : Nat), vs = [.ref a, .int lo, .int hi] ∧ SqL K H a (ns.map V.int) ∧ lo ≤ hi ∧ hi ≤ 64 ∧
  ∀ (p : Addr) (H' : Hp), H p = none → DigAt H H' p 4000 → Q (.ref p) H'
def spBound : Sp := fun vs H Q _ => vs = [] ∧ Q (.int (2 ^ 256)) H
theorem Keep.trans {p : Addr} {H H1 H2 : Hp} (a : Keep p H H1) (b : Keep p H1 H2) : Keep p H H2 := fun c o h ne => b c o (a c o h ne) ne
theorem Keep.refl (p : Addr) (H : Hp) : Keep p H H := fun _ _ h _ => h
def Sgn (z : Int) : Prop := z = 1 ∨ z = -1
theorem Sgn.mul {z n : Int} (h : Sgn z) : (z * n).natAbs = n.natAbs := by
  rcases h with rfl | rfl <;> omega
theorem Sgn.wide {z n : Int} (h : Sgn z) (hn : n.natAbs < 2 ^ 300) : CMulW z n := wide_mul (a := 2) (b := 300) (by rcases h with rfl | rfl <;> decide) hn (by decide) (by decide) (by decide)
def spNumber (K : PySem.W.Frag) : Sp := fun vs H Q _ => ∃ (p dl : Addr), vs = [.ref p] ∧ BoxAt H p dl ∧ ∀ (n : Int) H', n.natAbs < 2 ^ 260 → BoxAt H' p dl → Keep p H H' → Q (.int n) H'
def spSame (K : PySem.W.Frag) : Sp := fun vs H Q _ => ∃ (x y : V) (d : PyData), vs = [x, y] ∧ Dp K H x d ∧ Dp K H y d ∧ ShowOk d ∧ Q (.bl true) H
theorem Same.keep {p : Addr} {H H' : Hp} (e : Same H H') : Keep p H H' := fun b o h _ => e b o h
theorem BoxAt.same {p dl : Addr} {H H' : Hp} (h : BoxAt H p dl) (e : Same H H') : BoxAt H' p dl := by
  obtain ⟨ds, k, a, b, c, d⟩ := h
  exact ⟨ds, k, e _ _ a, b, e _ _ c, d⟩
theorem BoxAt.upd {p dl l : Addr} {H : Hp} {o : HO} (h : BoxAt H p dl) (h1 : l ≠ p) (h2 : l ≠ dl) : BoxAt (L2.upd H l o) p dl := by
  obtain ⟨ds, k, a, b, c, d⟩ := h
  exact ⟨ds, k, by rw [upd_ne (Ne.symm h1)]; exact a, b, by rw [upd_ne (Ne.symm h2)]; exact c, d⟩
theorem strOk (s : Str) (h : s.cps.toList.all (fun c => decide (c < 16 ^ 8)) = true) : ∀ c ∈ s.cps.toList, c < 16 ^ 8 := fun c hc => of_decide_eq_true (List.all_eq_true.mp h c hc)

/-! ### data without lists: what no change of a list can reach -/
mutual
inductive Dt (K : PySem.W.Frag) (H : Hp) : V → PyData → Prop
  | non : Dt K H .non .none
  | bl (b : Bool) : Dt K H (.bl b) (.bool b)
  | int (i : Int) : Dt K H (.int i) (.int i)
  | str (x : Str) : Dt K H (.str x) (.str x)
  | tup {a : Addr} {xs : List V} {ds : List PyData} : SqT K H a xs → DtAll K H xs ds → Dt K H (.ref a) (.tuple ds)
inductive DtAll (K : PySem.W.Frag) (H : Hp) : List V → List PyData → Prop
  | nil : DtAll K H [] []
  | cons {v : V} {vs : List V} {d : PyData} {ds : List PyData} : Dt K H v d → DtAll K H vs ds → DtAll K H (v :: vs) (d :: ds)
end
mutual
theorem Dt.dp {K : PySem.W.Frag} {H : Hp} : ∀ {v : V} {d : PyData}, Dt K H v d → Dp K H v d
  | _, _, .non => .non
  | _, _, .bl b => .bl b
  | _, _, .int i => .int i
  | _, _, .str x => .str x
  | _, _, .tup h a => .tup h (DtAll.dp a)
theorem DtAll.dp {K : PySem.W.Frag} {H : Hp} : ∀ {vs : List V} {ds : List PyData}, DtAll K H vs ds → DpAll K H vs ds
  | _, _, .nil => .nil
  | _, _, .cons h a => .cons (Dt.dp h) (DtAll.dp a)
end
/-- every tuple that H reads H' reads as well -/
def KeepT (K : PySem.W.Frag) (H H' : Hp) : Prop := ∀ a xs, SqT K H a xs → SqT K H' a xs
mutual
theorem Dt.keepT {K : PySem.W.Frag} {H H' : Hp} (e : KeepT K H H') : ∀ {v : V} {d : PyData}, Dt K H v d → Dt K H' v d
  | _, _, .non => .non
  | _, _, .bl b => .bl b
  | _, _, .int i => .int i
  | _, _, .str x => .str x
  | _, _, .tup h a => .tup (e _ _ h) (DtAll.keepT e a)
theorem DtAll.keepT {K : PySem.W.Frag} {H H' : Hp} (e : KeepT K H H') : ∀ {vs : List V} {ds : List PyData}, DtAll K H vs ds → DtAll K H' vs ds
  | _, _, .nil => .nil
  | _, _, .cons h a => .cons (Dt.keepT e h) (DtAll.keepT e a)
end
theorem KeepT.refl (K : PySem.W.Frag) (H : Hp) : KeepT K H H := fun _ _ h => h
theorem KeepT.trans {K : PySem.W.Frag} {H H1 H2 : Hp} (a : KeepT K H H1) (b : KeepT K H1 H2) : KeepT K H H2 := fun c xs h => b c xs (a c xs h)
theorem Same.keepT {K : PySem.W.Frag} {H H' : Hp} (e : Same H H') : KeepT K H H' := fun _ _ h => Same.tupl e h
theorem Keep.keepT {K : PySem.W.Frag} {p : Addr} {H H' : Hp} (e : Keep p H H') (hp : ∃ xs, H p = some (.lst xs)) : KeepT K H H' := fun a xs h => by
  obtain ⟨ys, hp⟩ := hp
  rcases h with (h | ⟨o, h⟩) | h
  · exact .inl (.inl (e _ _ h (ne_of h hp (by intro z; cases z))))
  · exact .inl (.inr ⟨o, e _ _ h (ne_of h hp (by intro z; cases z))⟩)
  · exact .inr h
theorem KeepT.upd {K : PySem.W.Frag} {p : Addr} {H : Hp} {o : HO} {xs : List V} (hp : H p = some (.lst xs)) : KeepT K H (upd H p o) :=
  Keep.keepT (p := p) (fun b u e hb => by rw [upd_ne hb]; exact e) ⟨xs, hp⟩
theorem Dt.mono {K : PySem.W.Frag} {H H' : Hp} {v : V} {d : PyData} (e : Same H H') (h : Dt K H v d) : Dt K H' v d := h.keepT (Same.keepT e)
theorem DtAll.mono {K : PySem.W.Frag} {H H' : Hp} {v : List V} {d : List PyData} (e : Same H H') (h : DtAll K H v d) : DtAll K H' v d := h.keepT (Same.keepT e)
theorem Dt.made {K : PySem.W.Frag} {H : Hp} {p : Addr} {xs : List V} {ds : List PyData} (hp : H p = none) (h : DtAll K H xs ds) : Dt K (L2.upd H p (.tup xs)) (.ref p) (.tuple ds) := .tup (SqT.of upd_same) (DtAll.mono (Same.new hp) h)
theorem DtAll.length {K : PySem.W.Frag} {H : Hp} {vs : List V} {ds : List PyData} (h : DtAll K H vs ds) : vs.length = ds.length := LK.DpAll.length h.dp
theorem DtAll.app {K : PySem.W.Frag} {H : Hp} : ∀ {vs ws : List V} {ds es : List PyData}, DtAll K H vs ds → DtAll K H ws es → DtAll K H (vs ++ ws) (ds ++ es)
  | _, _, _, _, .nil, t => t
  | _, _, _, _, .cons h a, t => .cons h (DtAll.app a t)
theorem DtAll.get {K : PySem.W.Frag} {H : Hp} : ∀ {vs : List V} {ds : List PyData} {i : Nat} {d : PyData}, DtAll K H vs ds → ds[i]? = some d → ∃ v, vs[i]? = some v ∧ Dt K H v d
  | _, _, 0, _, .cons h _, e => ⟨_, rfl, Option.some.inj e ▸ h⟩
  | _, _, i + 1, _, .cons _ a, e => DtAll.get (i := i) a e
theorem DtAll.getV {K : PySem.W.Frag} {H : Hp} : ∀ {vs : List V} {ds : List PyData} {i : Nat} {v : V}, DtAll K H vs ds → vs[i]? = some v → ∃ d, ds[i]? = some d ∧ Dt K H v d
  | _, _, 0, _, .cons h _, e => ⟨_, rfl, Option.some.inj e ▸ h⟩
  | _, _, i + 1, _, .cons _ a, e => DtAll.getV (i := i) a e
theorem Dt.tuple_inv {K : PySem.W.Frag} {H : Hp} {v : V} {ds : List PyData} (h : Dt K H v (.tuple ds)) : ∃ a xs, v = .ref a ∧ SqT K H a xs ∧ DtAll K H xs ds := by
  cases h with
  | tup h a => exact ⟨_, _, rfl, h, a⟩
theorem DtAll.cons_inv {K : PySem.W.Frag} {H : Hp} {vs : List V} {d : PyData} {ds : List PyData} (h : DtAll K H vs (d :: ds)) : ∃ v ws, vs = v :: ws ∧ Dt K H v d ∧ DtAll K H ws ds := by
  cases h with
  | cons h a => exact ⟨_, _, rfl, h, a⟩
theorem DtAll.nil_inv {K : PySem.W.Frag} {H : Hp} {vs : List V} (h : DtAll K H vs []) : vs = [] := by cases h; rfl
theorem Dt.int_inv {K : PySem.W.Frag} {H : Hp} {v : V} {i : Int} (h : Dt K H v (.int i)) : v = .int i := by cases h; rfl
theorem Dt.str_inv {K : PySem.W.Frag} {H : Hp} {v : V} {x : Str} (h : Dt K H v (.str x)) : v = .str x := by cases h; rfl
theorem Dt.bool_inv {K : PySem.W.Frag} {H : Hp} {v : V} {b : Bool} (h : Dt K H v (.bool b)) : v = .bl b := by cases h; rfl
theorem dtStrs {K : PySem.W.Frag} {H : Hp} : ∀ xs : List Str, DtAll K H (xs.map V.str) (xs.map PyData.str)
  | [] => .nil
  | x :: xs => .cons (.str x) (dtStrs xs)
end LK

set_option Elab.async false
set_option linter.all false
set_option maxRecDepth 100000
set_option maxHeartbeats 4000000
/-! enumerate of a tuple. -/
namespace LK
open PySem PySem.Spec PyProof.Rows L2
open AutoSeq1 (wpAny_loadPart')
open Sem (wp)
def enumObj (it : Addr) : Obj := { cls := .type "enumerate", data := .fields #[.none, .bool false, .ref it, rawInt 0, .none, .none] }
def tupIt (t : Addr) : Obj := { cls := .type "tuple_iterator", data := .fields #[.ref t, .int 0 0] }
theorem meets_enumT (t : Addr) (items : Array Value) (n : Nat) (dct : Option Addr) (sl : Array (Option Value)) :
    Meets (Builtin.«enumerate.__new__» ⟨[.type "enumerate", .ref t], []⟩) (fun _ R s => s.heap.get? t = some { cls := .type "tuple", dict := dct, data := .seq items n, slots := sl } ∧
      R (.ok (.ret (.ref (s.heap.push (tupIt t)).objs.size))) { s with heap := (s.heap.push (tupIt t)).push (enumObj s.heap.objs.size) }) :=
  .of_wp fun prog w A R s h => by
    obtain ⟨hp, g, d, tk, os⟩ := s
    obtain ⟨hl, h⟩ := h
    have hsub := sub_enumerate
    have hT : Heap.IsTuple (Shared.heap ⟨hp, g, d, tk, os⟩) t items := ⟨_, hl, rfl, n, rfl⟩
    wp_walk using wpAny_loadPart' hl
    refine wpAny_stack_any fun st => wpAny_pure ?_
    split
    · rename_i c _ _ _ _ _
      cases (c == Value.type "enumerate") <;> (wp_walk using wpAny_loadPart' hl, wpAny_pyIter_tuple hT; exact ⟨_, rfl, h⟩)
    · wp_walk using wpAny_loadPart' hl, wpAny_pyIter_tuple hT
      exact ⟨_, rfl, h⟩
section
variable {prog : Program} {w : World} {A : Around} {E : Value → Shared → Prop} {s : Shared}
theorem call_enumT {t : Addr} {items : Array Value} {Q : Value → Shared → Prop} (hT : s.heap.IsTuple t items)
    (h : ∀ h', IsEnum h' (s.heap.objs.size + 1) s.heap.objs.size 0 .none → h'.IsTupleIter s.heap.objs.size t 0 → (∀ b o, s.heap.get? b = some o → h'.get? b = some o) → Q (.ref (s.heap.objs.size + 1)) { s with heap := h' }) :
    wpAny (model prog w) A (call (.type "enumerate") [.ref t]) Q E s := by
  obtain ⟨⟨c, dct, dt, sl⟩, hl, hc, n, hd⟩ := hT
  obtain rfl : c = .type "tuple" := hc
  obtain rfl : dt = .seq items n := hd
  refine callType_new F.called_enumerate (by decide) (F.typeCall_enumerate_1 _) (F.newCall_enumerate_1 _) (fun obj => F.args_object_init_2 obj _) F.entry_enumerate_new (meets_enumT t items n dct sl) ⟨hl, ?_⟩
  have hz : (s.heap.push (tupIt t)).objs.size = s.heap.objs.size + 1 := Heap.size_push ..
  have he : IsEnum ((s.heap.push (tupIt t)).push (enumObj s.heap.objs.size)) (s.heap.objs.size + 1) s.heap.objs.size 0 .none := by
    have q := Heap.get?_push_size (s.heap.push (tupIt t)) (o := enumObj s.heap.objs.size) rfl
    rw [hz] at q
    exact q
  show _ ∧ _
  rw [hz]
  exact ⟨⟨_, he, rfl⟩, h _ he (Heap.get?_push_of_some _ (Heap.get?_push_size _ rfl) |> fun q => ⟨_, q, rfl, rfl⟩) fun b o x => Heap.get?_push_of_some _ (Heap.get?_push_of_some _ x)⟩
end
/-- the tuple at a, each item in a new pair with its place -/
def IteT (K : PySem.W.Frag) (a : Addr) : It where
  go := fun i H => ∃ (xs : List V) (x : V), SqT K H a xs ∧ xs[i]? = some x
  yld := fun i H v H' => ∃ T x, v = .ref T ∧ H T = none ∧ H' = upd H T (.tup [.int (i : Nat), x]) ∧ ∀ xs, SqT K H a xs → xs[i]? = some x
  stop := fun i H => ∃ xs : List V, SqT K H a xs ∧ xs.length = i
theorem turn_enumT {P : Program} {w : World} {K : PySem.W.Frag} {elts : List Expr} {kk : Nat} {tpos : Pos} (a e it : Addr) :
    Turn P w K (.Tuple elts kk tpos) (IteT K a) [e, it] e (fun i h => (∃ old, IsEnum h e it ((i : Nat) : Int) old) ∧ h.IsTupleIter it a i ∧ e ≠ it) where
  mem := List.mem_cons_self
  obj := fun i h st b hb => by
    obtain ⟨⟨old, he⟩, ⟨o, ho, hc, hd⟩, _⟩ := st
    have hb : b = e ∨ b = it := by simpa using hb
    rcases hb with rfl | rfl
    · exact ⟨_, he, fun v q => nomatch q⟩
    · exact ⟨o, ho, fun v q => by rw [hd] at q; cases q⟩
  keep := fun i h h' st k => by
    obtain ⟨⟨old, he⟩, hi, hne⟩ := st
    exact ⟨⟨old, k e (by simp) _ he⟩, hi.at fun o q => k it (by simp) o q, hne⟩
  item := by
    intro X hP hw hK hc i pins s σ H E I hf st hg
    subst hP hw hK
    obtain ⟨⟨old, he⟩, hit, hne⟩ := st
    obtain ⟨xs, x, hq, hx⟩ := hg
    obtain ⟨its, rv, p, hz⟩ := I.tuple hq
    obtain ⟨u, hu, ru⟩ := rv.get hx
    have hel : e < s.heap.objs.size := Heap.lt_size he
    have hil : it < s.heap.objs.size := by obtain ⟨_, q, _⟩ := hit; exact Heap.lt_size q
    have hat : a ≠ it := by
      intro z
      subst z
      obtain ⟨o, q1, c1, _⟩ := hit
      obtain ⟨o', q2, c2, _⟩ := p
      rw [q1] at q2; cases q2
      exact absurd (Value.type.inj (c1.symm.trans c2)) (by decide)
    have D := Draws.tuple (prog := X.prog) (w := X.w) (A := X.A.in1) (I.ok.hd hc) it a hat its.toArray
    have Dst : (fun i (h : Heap) => h.IsTupleIter it a i ∧ h.IsTuple a its.toArray) i s.heap := ⟨hit, p⟩
    have eat : e ≠ a := by
      intro z
      subst z
      obtain ⟨o', q2, c2, _⟩ := p
      rw [he] at q2; cases q2
      exact absurd (Value.type.inj c2) (by decide)
    have hi : i < its.toArray.size := by
      have := (List.getElem?_eq_some_iff.mp hu).1
      simpa using this
    refine wpAny_pyNext_enum_itemD D he Dst hi hne (by simp [hne, eat]) fun v h' tk hv ho hst hT hsz hk => ?_
    obtain rfl : v = u := by
      have hv : its.toArray[i]? = some v := hv
      rw [show its.toArray[i]? = some u by simpa using hu] at hv
      exact (Option.some.inj hv).symm
    refine ⟨_, rfl, wpAny_letOwnedTupleGo_enum (s := { s with heap := h', toks := tk + 1 }) ho fun h'' he' sb => ?_⟩
    have hT2 := (sb.2 _ (Nat.ne_of_gt hel)).trans hT
    have new : ObjOk X.prog X.w (upd H s.heap.objs.size (.tup [.int (i : Nat), x])) h'' s.heap.objs.size (.tup [.int (i : Nat), x]) :=
      ⟨by show 2 ≤ sizeLine; decide, [.int i tk, v], .cons ⟨_, rfl⟩ (.cons ru .nil), ⟨_, hT2, rfl, _, rfl⟩⟩
    have I1 : Inv X pins σ (upd H s.heap.objs.size (.tup [.int (i : Nat), x])) { s with heap := h'', toks := tk + 1 } :=
      I.turnedNew (ch := [e, it]) (fun b ob hb q => (sb.2 b (fun z => hb (by simp [z]))).trans (hk b ob (fun z => hb (by simp [z])) (fun z => hb (by simp [z])) q)) hf (Nat.le_refl _) new
    refine ⟨.ref s.heap.objs.size, _, I1, rfl, ⟨_, x, rfl, I.hok.fresh (Nat.le_refl _), rfl, fun ys hy => by rw [I.tuple_inj hy hq]; exact hx⟩, ⟨⟨v, ?_⟩, hst.1.at fun o q => (sb.2 it (Ne.symm hne)).trans q, hne⟩, fun b hb => ?_⟩
    · rw [show ((i + 1 : Nat) : Int) = (i : Int) + 1 by omega]
      exact he'
    · have hb' : b < s.heap.objs.size := by
        have z : b = e ∨ b = it := by simpa using hb
        rcases z with rfl | rfl <;> assumption
      rw [upd_ne (Nat.ne_of_lt hb')]
      exact (hf b hb).1
  done := by
    intro X hP hw hK hc i pins s σ H E I hf st hg
    subst hP hw hK
    obtain ⟨⟨old, he⟩, hit, hne⟩ := st
    obtain ⟨xs, hq, hx⟩ := hg
    obtain ⟨its, rv, p, hz⟩ := I.tuple hq
    obtain ⟨f0, f1, f2, f3, f4, f5⟩ := hf it (by simp)
    have hl := rv.length
    have hat : a ≠ it := by
      intro z
      subst z
      obtain ⟨o, q1, c1, _⟩ := hit
      obtain ⟨o', q2, c2, _⟩ := p
      rw [q1] at q2; cases q2
      exact absurd (Value.type.inj (c1.symm.trans c2)) (by decide)
    have D := Draws.tuple (prog := X.prog) (w := X.w) (A := X.A.in1) (I.ok.hd hc) it a hat its.toArray
    have hn : i = its.toArray.size := by simp; omega
    subst hn
    exact wpAny_pyNext_enum_endD D he ⟨hit, p⟩ fun h' eb => ⟨rfl, I.turned (t' := s.toks) (fun b o hb q => eb b o hb q) f0 f1 f3 f4 f5⟩
  self := fun A i s Q E st h => let ⟨⟨_, he⟩, _⟩ := st; wpAny_pyIter_enum he h
def iEnumT (K : PySem.W.Frag) (ta : TA) : TI := fun σ H R => ta σ H fun vs H1 => ∃ a xs, vs = [.ref a] ∧ SqT K H1 a xs ∧ R (IteT K a) H1
theorem pi_enumT {X : Cx} {e : Expr} {ta : TA} {p pos tpos : Pos} {elts : List Expr} {kk : Nat} (hg : Gl X "enumerate") (hm : X.mg "enumerate" = none) (ha : PA X [e] ta) (hs : starEach [e] X.env = [(false, eval e X.env)] := by rfl) :
    PI X (.Tuple elts kk tpos) (.Call (.Name "enumerate" p) [e] [] pos) (iEnumT X.K ta) := by
  refine ⟨fun pins s σ H R I h => ?_⟩
  refine Call_ (ld_blt I hg hm boot_enumerate (PyProof.Rows.callWith_type1 (thn (ha.run pos pins s σ H _ I h) fun us s1 ⟨vs, H1, I1, r1, q1⟩ => ?_) hs rfl))
  obtain ⟨a, xs, rfl, hq, q⟩ := q1
  cases r1 with
  | cons r rr =>
    cases rr
    cases r
    obtain ⟨its, rv, p', hz⟩ := I1.tuple hq
    refine call_enumT (show s1.heap.IsTuple a its.toArray from p') fun h' he hit hk => wpAny_pyIter_enum he ?_
    refine ⟨s1.heap.objs.size + 1, [s1.heap.objs.size + 1, s1.heap.objs.size], _, _, H1, rfl, I1.kept (t' := s1.toks) hk, turn_enumT a (s1.heap.objs.size + 1) s1.heap.objs.size, ⟨⟨.none, he⟩, hit, Nat.succ_ne_self _⟩, fun b hb => ?_, q⟩
    have hle : s1.heap.objs.size ≤ b := by
      have z : b = s1.heap.objs.size + 1 ∨ b = s1.heap.objs.size := by simpa using hb
      rcases z with rfl | rfl <;> omega
    exact I1.fpOk hle (I1.hok.fresh hle)
theorem walk_enumT {K : PySem.W.Frag} {a : Addr} {xs : List V} : Walk (IteT K a) xs.length (fun H => SqT K H a xs) (YPair (fun i => some (.int (i : Nat))) (fun i => xs[i]?)) := by
  refine ⟨fun i _ hi q => ⟨xs, xs[i], q, by simp [hi]⟩, fun _ q => ⟨xs, q, rfl⟩, fun i H v H' _ q y => ?_⟩
  obtain ⟨T, x, h1, h2, h3, h4⟩ := y
  exact ⟨T, .int (i : Nat), x, h1, h2, h3, rfl, h4 xs q⟩

/-! ### comprehensions whose items are data -/
theorem tYes_of {σ : L2.St} {H : Hp} {P R : Hp → Prop} (h : P H) : tYes σ H fun b H3 => if b = true then P H3 else R H3 := by
  show (if true = true then P H else R H)
  rw [if_pos rfl]
  exact h
/-- each turn gives data and leaves what stood; no test -/
theorem lc_dt {K : PySem.W.Frag} {J : It} {n : Nat} {G : Hp → Prop} {Y : Nat → Hp → V → Hp → Prop} (w : Walk J n G Y) {g : TG} {te : TE} {vs : List Nat} {σ : L2.St} {H : Hp} {D : Addr} {Qd : Hp → Prop} (hD : H D = none) (ds : List PyData) (hn : ds.length = n) (hz : n < sizeLine)
    (hG : ∀ H', Same H H' → G H')
    (hs : ∀ i x H1 H2 d (Nx : V → Hp → Prop), i < n → ds[i]? = some d → Same H H1 → (∃ acc, H1 D = some (.lst acc)) → Y i H1 x H2 → (∀ y H5, Same H1 H5 → Dt K H5 y d → Nx y H5) →
      g x (wipe σ vs) H2 fun σ2 H3 => wipe σ2 vs = wipe σ vs ∧ te σ2 H3 Nx)
    (hd : ∀ H' acc, Same H H' → H' D = some (.lst acc) → DtAll K H' acc ds → Qd H')
    (mono : ∀ x σ H Q Q', (∀ σ' H', Q σ' H' → Q' σ' H') → g x σ H Q → g x σ H Q') :
    ∃ W : Nat → Nat → Hp → Prop, (∃ m, W 0 m (upd H D (.lst []))) ∧ ∀ i m H, W i m H →
      (J.stop i H ∧ Qd H) ∨ (J.go i H ∧ ∃ Nx : Hp → Prop, (∀ H', Nx H' → ∃ m', m' < m ∧ W (i + 1) m' H') ∧ ∀ x H', J.yld i H x H' → g x (wipe σ vs) H' fun σ2 H2 => wipe σ2 vs = wipe σ vs ∧ tYes σ2 H2 fun b H3 =>
        if b = true then te σ2 H3 fun y H4 => ∃ acc, H4 D = some (.lst acc) ∧ acc.length < sizeLine ∧ Nx (upd H4 D (.lst (acc ++ [y]))) else Nx H3) := by
  refine lc_it w (fun i H' => ∃ acc, H' D = some (.lst acc) ∧ DtAll K H' acc (ds.take i) ∧ Same H H') ⟨[], upd_same, .nil, Same.new hD⟩ (fun i H' _ h => let ⟨_, _, _, s⟩ := h; hG H' s) (fun i x H1 H2 hi h y => ?_) fun H' h => ?_
  · obtain ⟨acc, a1, a2, a3⟩ := h
    have hi' : i < ds.length := by omega
    have hg := hs i x H1 H2 ds[i] (fun y H4 => ∃ acc, H4 D = some (.lst acc) ∧ acc.length < sizeLine ∧ ∃ acc', upd H4 D (.lst (acc ++ [y])) D = some (.lst acc') ∧ DtAll K (upd H4 D (.lst (acc ++ [y]))) acc' (ds.take (i + 1)) ∧ Same H (upd H4 D (.lst (acc ++ [y]))))
      hi (List.getElem?_eq_getElem hi') a3 ⟨acc, a1⟩ y fun y H5 s hy => ?_
    · exact mono _ _ _ _ _ (fun σ2 H3 q => ⟨q.1, tYes_of q.2⟩) hg
    · have b1 := s _ _ a1
      have kt : KeepT K H5 (upd H5 D (.lst (acc ++ [y]))) := KeepT.upd b1
      refine ⟨acc, b1, ?_, _, upd_same, ?_, fun b o e => ?_⟩
      · rw [a2.length, List.length_take]; omega
      · rw [List.take_succ, List.getElem?_eq_getElem hi']
        exact DtAll.app (DtAll.keepT (KeepT.trans (Same.keepT s) kt) a2) (.cons (Dt.keepT kt hy) .nil)
      · rw [upd_ne (ne_of_none e hD)]
        exact s _ _ (a3 _ _ e)
  · obtain ⟨acc, a1, a2, a3⟩ := h
    rw [← hn, List.take_length] at a2
    exact hd H' acc a3 a1 a2
theorem mono_name {i : Nat} : ∀ x (σ : L2.St) (H : Hp) (Q Q' : L2.St → Hp → Prop), (∀ σ' H', Q σ' H' → Q' σ' H') → gName i x σ H Q → gName i x σ H Q' := fun _ _ _ _ _ h q => h _ _ q
theorem mono_tup2 {K : PySem.W.Frag} {i j n : Nat} : ∀ x (σ : L2.St) (H : Hp) (Q Q' : L2.St → Hp → Prop), (∀ σ' H', Q σ' H' → Q' σ' H') → gTup K n (gCons (gName i) (gCons (gName j) gNil)) x σ H Q → gTup K n (gCons (gName i) (gCons (gName j) gNil)) x σ H Q' := by
  rintro x σ H Q Q' h ⟨a, xs, e1, e2, e3, v, r, e4, v', r', e5, e6, q⟩
  exact ⟨a, xs, e1, e2, e3, v, r, e4, v', r', e5, e6, h _ _ q⟩
end LK

set_option Elab.async false
set_option linter.all false
set_option maxRecDepth 100000
set_option maxHeartbeats 4000000
set_option exponentiation.threshold 3000
/-! More rules: text * int, two rules at one place, what == says of data. -/
namespace LK
open PySem PySem.Spec PyProof.Rows L2
theorem at_of' {α : Type} {xs : List α} {z : Int} {j : Nat} {v : α} (e : z = (j : Int)) (h : xs[j]? = some v) : atI xs z = some v := by
  rw [e]
  exact atI_nat h
/-- z repeated k times, by its codes -/
def repC (z : List Nat) (k : Int) : List Nat := (List.replicate k.toNat z).flatten
def repS (z : Str) (k : Int) : Str := ⟨(repC z.cps.toList k).toArray⟩
theorem repC_length (z : List Nat) (k : Int) : (repC z k).length = k.toNat * z.length := by simp [repC]
theorem foldl_arr (z : Array Nat) : ∀ (n : Nat) (acc : Array Nat), (List.replicate n z).foldl (· ++ ·) acc = acc ++ (List.replicate n z.toList).flatten.toArray
  | 0, acc => by simp
  | n + 1, acc => by
    rw [List.replicate_succ, List.foldl_cons, foldl_arr z n, List.replicate_succ, List.flatten_cons]
    apply Array.ext'
    simp
def rRepS : R2 := fun x y H Q => ∃ (z : Str) (k : Int), x = .str z ∧ y = .int k ∧ -1000000000000 ≤ k ∧ k < 1000000000000 ∧ z.length * k.toNat ≤ 1000000 ∧ Q (.str (repS z k)) H
theorem repS_arr (z : Str) (k : Int) : (⟨(List.replicate k.toNat z.cps).foldl (· ++ ·) #[]⟩ : Str) = repS z k := by
  rw [foldl_arr]
  simp [repS, repC]
theorem op_rep_str {X : Cx} : OpR X (binaryOp .Mult) rRepS := by
  intro pins s σ H x y v u Q I rx ry h
  obtain ⟨z, k, rfl, rfl, h1, h2, h3, q⟩ := h
  obtain ⟨t, rfl⟩ := rx
  obtain ⟨t', rfl⟩ := ry
  have szl : (1000000 : Nat) ≤ sizeLine := by decide
  have e1 : ¬ k < 1 → k = (k.toNat : Int) := fun h => by omega
  refine PySem.P.mul_str ?_ (fun hk hz => ?_) (fun hk hz => ?_) ?_
  · rw [decide_eq_false (by omega), decide_eq_false (by omega)]; rfl
  · have e0 : z.length ≠ 0 := fun e => by rw [e] at hz; simp at hz
    have hd : (9223372036854775807 : Int) / k ≥ 1000000 := by
      apply Int.le_ediv_of_mul_le (by omega)
      have hlen : k.toNat ≤ 1000000 := Nat.le_trans (Nat.le_mul_of_pos_left _ (by omega)) h3
      omega
    have hl : z.length ≤ 1000000 := Nat.le_trans (Nat.le_mul_of_pos_right _ (by omega)) h3
    show ¬ ((z.length : Int) > 9223372036854775807 / k)
    omega
  · unfold Builtin.Str.tooLong
    simp
    omega
  · split
    · rename_i hk
      have e : repS z k = Str.empty := by
        have : k.toNat = 0 := by omega
        simp [repS, repC, this]; rfl
      refine ⟨by decide, .str _, H, I.tok _, ⟨_, rfl⟩, ?_⟩
      rw [← e]; exact q
    · rename_i hk
      split
      · rename_i hz
        have e : repS z k = z := by
          rcases Bool.or_eq_true_iff.mp hz with h | h
          · have : k = 1 := by simpa using h
            subst this
            simp [repS, repC]
          · have : z.cps.toList = [] := by
              have : z.cps.size = 0 := by simpa [Str.length] using h
              exact List.eq_nil_of_length_eq_zero (by simpa using this)
            have e2 : (List.replicate k.toNat ([] : List Nat)).flatten = [] := by simp
            unfold repS repC
            rw [this, e2]
            cases z with
            | mk c =>
              have : c = #[] := Array.toList_inj.mp (by simpa using this)
              subst this; rfl
        refine ⟨.str _, H, I, ⟨t, rfl⟩, ?_⟩
        rw [← e]; exact q
      · rw [repS_arr]
        refine ⟨?_, .str _, H, I.tok _, ⟨_, rfl⟩, q⟩
        show (repC z.cps.toList k).toArray.size ≤ sizeLine
        rw [List.size_toArray, repC_length]
        have : z.cps.toList.length = z.length := by simp [Str.length]
        rw [this, Nat.mul_comm]; omega
/-! ### the objects at the beginning -/
def clsNames : List Str := ["Exception", "ArithmeticError", "ZeroDivisionError", "OverflowError", "LookupError", "IndexError", "KeyError", "NameError", "AttributeError", "TypeError", "ValueError", "StopIteration", "RuntimeError", "RecursionError", "MemoryError", "HostError"]
def clsBases : List Int := [-1, 1, 2, 2, 1, 5, 5, 1, 1, 1, 1, 1, 1, 13, 1, 1]
def builtNames : List Str := ["print", "len", "range", "repr", "str", "int", "list", "tuple", "dict", "iter", "next", "isinstance", "abs"]
def clsVar (i : Nat) (n : Str) : PyData := .tuple [.str n, .tuple [.str "ref", .int ((i : Int) + 1)]]
def nameVar (k n : Str) : PyData := .tuple [.str n, .tuple [.str k, .str n]]
def clsObj (n : Str) (b : Int) : PyData := .tuple [.str "class", .str n, .int b, .tuple []]
def clsVars : List PyData := clsNames.mapIdx clsVar
def startVars (hs : List Str) : List PyData := clsVars ++ builtNames.map (nameVar "built") ++ hs.map (nameVar "host")
def startD (hs : List Str) : List PyData := .tuple [.str "scope", .tuple (startVars hs), .tuple [], .tuple [], .int (-1), .bool false] :: List.zipWith clsObj clsNames clsBases
/-- a list at p, of the data ds -/
def ListAt (K : PySem.W.Frag) (H : Hp) (p : Addr) (ds : List PyData) : Prop := ∃ xs, H p = some (.lst xs) ∧ DtAll K H xs ds
def spStart (K : PySem.W.Frag) : Sp := fun vs H Q _ => ∃ (t : Addr) (hs : List Str), vs = [.ref t] ∧ SqT K H t (hs.map V.str) ∧ hs.length ≤ 1000 ∧
  ∀ (p : Addr) (H' : Hp), H p = none → Same H H' → ListAt K H' p (startD hs) → Q (.ref p) H'
theorem at0 {α : Type} {x : α} {ws : List α} : atI (x :: ws) 0 = some x := at_of' (j := 0) rfl rfl
theorem at1 {α : Type} {x y : α} {ws : List α} : atI (x :: y :: ws) 1 = some y := at_of' (j := 1) rfl rfl
theorem at2 {α : Type} {x y z : α} {ws : List α} : atI (x :: y :: z :: ws) 2 = some z := at_of' (j := 2) rfl rfl
/-- a written pair, triple as it is read -/
theorem Dt.head {K : PySem.W.Frag} {H : Hp} {v : V} {z : Str} {rest : List PyData} (h : Dt K H v (.tuple (.str z :: rest))) : ∃ a ws, v = .ref a ∧ SqT K H a (.str z :: ws) ∧ DtAll K H ws rest := by
  obtain ⟨q, xs, rfl, hs, ha⟩ := h.tuple_inv
  obtain ⟨x, ws, rfl, h1, hw⟩ := ha.cons_inv
  cases h1.str_inv
  exact ⟨q, ws, rfl, hs, hw⟩
theorem Dt.pair {K : PySem.W.Frag} {H : Hp} {v : V} {z : Str} {d : PyData} (h : Dt K H v (.tuple [.str z, d])) : ∃ a x, v = .ref a ∧ SqT K H a [.str z, x] ∧ Dt K H x d := by
  obtain ⟨a, ws, rfl, hs, hw⟩ := h.head
  obtain ⟨x, ws', rfl, h1, hn⟩ := hw.cons_inv
  cases hn.nil_inv
  exact ⟨a, x, rfl, hs, h1⟩
theorem Dt.triple {K : PySem.W.Frag} {H : Hp} {v : V} {z : Str} {d e : PyData} (h : Dt K H v (.tuple [.str z, d, e])) : ∃ a x y, v = .ref a ∧ SqT K H a [.str z, x, y] ∧ Dt K H x d ∧ Dt K H y e := by
  obtain ⟨a, ws, rfl, hs, hw⟩ := h.head
  obtain ⟨x, ws', rfl, h1, hn⟩ := hw.cons_inv
  obtain ⟨y, ws'', rfl, h2, hn2⟩ := hn.cons_inv
  cases hn2.nil_inv
  exact ⟨a, x, y, rfl, hs, h1, h2⟩
theorem listAt_mono {K : PySem.W.Frag} {H H' : Hp} {p : Addr} {ds : List PyData} (h : ListAt K H p ds) (e : Same H H') : ListAt K H' p ds := by
  obtain ⟨xs, hx, ax⟩ := h
  exact ⟨xs, e _ _ hx, DtAll.mono e ax⟩
theorem eqv_nil (ds : List PyData) : PyData.eqv (.tuple ds) (.tuple []) = ds.isEmpty := by
  cases ds <;> simp [PyData.eqv, PyData.eqvAll]
theorem listAt_upd {K : PySem.W.Frag} {H : Hp} {l l' : Addr} {ds : List PyData} {xs : List V} {o : HO} (h : ListAt K H l ds) (ne : l ≠ l') (hl : H l' = some (.lst xs)) : ListAt K (upd H l' o) l ds := by
  obtain ⟨ys, hy, ay⟩ := h
  exact ⟨ys, by rw [upd_ne ne]; exact hy, DtAll.keepT (KeepT.upd hl) ay⟩
theorem listAt_app {K : PySem.W.Frag} {H : Hp} {l : Addr} {ds : List PyData} {xs : List V} {v : V} {d : PyData} (h : ListAt K H l ds) (hl : H l = some (.lst xs)) (hd : Dt K H v d) : ListAt K (upd H l (.lst (xs ++ [v]))) l (ds ++ [d]) := by
  obtain ⟨ys, hy, ay⟩ := h
  rw [hl] at hy
  obtain rfl := HO.lst.inj (Option.some.inj hy)
  exact ⟨_, upd_same, DtAll.app (DtAll.keepT (KeepT.upd hl) ay) (.cons (Dt.keepT (KeepT.upd hl) hd) .nil)⟩
theorem listAt_keep {K : PySem.W.Frag} {H H' : Hp} {l p : Addr} {ds : List PyData} (h : ListAt K H l ds) (e : Keep p H H') (ne : l ≠ p) (hp : ∃ xs, H p = some (.lst xs)) : ListAt K H' l ds := by
  obtain ⟨ys, hy, ay⟩ := h
  exact ⟨ys, e _ _ hy ne, DtAll.keepT (Keep.keepT e hp) ay⟩
theorem listAt_made {K : PySem.W.Frag} {H : Hp} {l : Addr} {xs : List V} {ds : List PyData} (hl : H l = none) (h : DtAll K H xs ds) : ListAt K (upd H l (.lst xs)) l ds := ⟨xs, upd_same, DtAll.mono (Same.new hl) h⟩
/-! how long the objects at the beginning are, shown -/
def shortS (n : Str) : Bool := decide (n.length ≤ 40) && n.cps.toList.all (fun c => decide (c < 16 ^ 8))
theorem Sm.short {n : Str} (h : shortS n = true) : Sm (.str n) 0 500 := by
  obtain ⟨h1, h2⟩ := Bool.and_eq_true_iff.mp h
  exact (Sm.str (of_decide_eq_true h1) (strOk n h2)).mono (by decide) (by decide)
theorem cls_short : ∀ n ∈ clsNames, shortS n = true := by decide +kernel
theorem built_short : ∀ n ∈ builtNames, shortS n = true := by decide +kernel
theorem Sm.nm {k n : Str} (hk : shortS k = true) (hn : shortS n = true) : Sm (nameVar k n) 3 4000 :=
  (Sm.tup (.cons (Sm.short hn) (.cons (Sm.tup (.cons (Sm.short hk) (.cons (Sm.short hn) .nil))) .nil))).mono (by decide) (by decide)
theorem Sm.cv {i : Nat} {n : Str} (hi : i < 1000) (hn : shortS n = true) : Sm (clsVar i n) 3 4000 :=
  (Sm.tup (.cons (Sm.short hn) (.cons (Sm.tup (.cons (Sm.short (n := "ref") (by decide +kernel)) (.cons (Sm.int (Nat.lt_of_lt_of_le (show ((i : Int) + 1).natAbs < 2 ^ 20 by omega) (Nat.pow_le_pow_right (by decide) (by decide)))) .nil))) .nil))).mono (by decide) (by decide)
theorem Sm.co {b : Int} {n : Str} (hb : b.natAbs < 1000) (hn : shortS n = true) : Sm (clsObj n b) 3 4000 :=
  (Sm.tup (.cons (Sm.short (n := "class") (by decide +kernel)) (.cons (Sm.short hn) (.cons (Sm.int (Nat.lt_of_lt_of_le (show b.natAbs < 2 ^ 20 by omega) (Nat.pow_le_pow_right (by decide) (by decide)))) (.cons (Sm.tup .nil) .nil))))).mono (by decide) (by decide)
theorem SmAll.mem {ds : List PyData} {dp n N m M : Nat} (h : SmAll ds dp n N) (h1 : n ≤ m) (h2 : N ≤ M) : SmAll ds dp m M := ⟨h.ok, h.dp, Nat.le_trans h.len h1, Nat.le_trans h.sz h2⟩
theorem sm_vars {hs : List Str} {L : Nat} (h : ∀ n ∈ hs, shortS n = true) (hl : hs.length ≤ L) : SmAll (startVars hs) 3 (29 + L) (4000 * (29 + L)) := by
  have h1 : ∀ d ∈ startVars hs, Sm d 3 4000 := fun d hd => by
    rcases List.mem_append.mp hd with hd | hd
    · rcases List.mem_append.mp hd with hd | hd
      · obtain ⟨i, hi, rfl⟩ := List.mem_mapIdx.mp hd
        exact Sm.cv (Nat.lt_trans hi (by decide)) (cls_short _ (List.getElem_mem hi))
      · obtain ⟨n, hn, rfl⟩ := List.mem_map.mp hd
        exact Sm.nm (by decide +kernel) (built_short n hn)
    · obtain ⟨n, hn, rfl⟩ := List.mem_map.mp hd
      exact Sm.nm (by decide +kernel) (h n hn)
  have hlen : (startVars hs).length = 29 + hs.length := by
    simp only [startVars, List.length_append, List.length_map]
    have : clsVars.length = 16 := by decide
    have : builtNames.length = 13 := by decide
    omega
  exact (SmAll.many h1).mem (by omega) (by omega)
theorem sm_start {hs : List Str} {L : Nat} (h : ∀ n ∈ hs, shortS n = true) (hl : hs.length ≤ L) : ∀ d ∈ startD hs, Sm d 5 (5000 * (30 + L)) := fun d hd => by
  rcases List.mem_cons.mp hd with rfl | hd
  · exact (Sm.tup (.cons (Sm.short (n := "scope") (by decide +kernel)) (.cons (Sm.tup (sm_vars h hl)) (.cons (Sm.tup .nil) (.cons (Sm.tup .nil) (.cons (Sm.int (by decide)) (.cons (Sm.bool false) .nil))))))).mono (by decide) (by omega)
  · have : ∃ n b, d = clsObj n b ∧ n ∈ clsNames ∧ b.natAbs < 1000 := by
      have key : ∀ q ∈ List.zip clsNames clsBases, q.1 ∈ clsNames ∧ q.2.natAbs < 1000 := by decide +kernel
      rw [← List.map_uncurry_zip_eq_zipWith] at hd
      obtain ⟨q, hq, rfl⟩ := List.mem_map.mp hd
      exact ⟨q.1, q.2, rfl, key q hq⟩
    obtain ⟨n, b, rfl, hn, hb⟩ := this
    exact (Sm.co hb (cls_short n hn)).mono (by decide) (by omega)
theorem start_cls {hs : List Str} {k : Nat} (h1 : 1 ≤ k) (h2 : k ≤ 16) : ∃ rest, (startD hs)[k]? = some (.tuple (.str "class" :: rest)) := by
  obtain ⟨j, rfl⟩ : ∃ j, k = j + 1 := ⟨k - 1, by omega⟩
  have l1 : clsNames.length = 16 := by decide
  have l2 : clsBases.length = 16 := by decide
  refine ⟨[.str clsNames[j]!, .int clsBases[j]!, .tuple []], ?_⟩
  have e1 : clsNames[j]? = some clsNames[j]! := by rw [List.getElem!_eq_getElem?_getD]; rw [List.getElem?_eq_getElem (by omega)]; rfl
  have e2 : clsBases[j]? = some clsBases[j]! := by rw [List.getElem!_eq_getElem?_getD]; rw [List.getElem?_eq_getElem (by omega)]; rfl
  show (List.zipWith clsObj clsNames clsBases)[j]? = _
  rw [List.getElem?_zipWith, e1, e2]
  rfl
end LK

set_option Elab.async false
set_option linter.all false
set_option maxRecDepth 100000
set_option maxHeartbeats 4000000
set_option exponentiation.threshold 3000
/-! tuple * 1; rows: texts or tuples at one place; the type of what is read as a tuple; data equal to itself. -/
namespace LK
open PySem PySem.Spec PyProof.Rows L2
theorem tuple_mul1 (l : Addr) (items : Array Value) (n : Nat) (dd : Option Addr) (sl : Array (Option Value)) (u : Tok) :
    Meets (Builtin.«tuple.__mul__» ⟨[.ref l, .int 1 u], []⟩) (fun _ R s => s.heap.get? l = some { cls := .type "tuple", dict := dd, data := .seq items n, slots := sl } ∧ R (.ok (.ret (Value.ref l))) s) :=
  .of_wp fun prog w A R s h => by
    obtain ⟨hp, g, d, tk, os⟩ := s
    obtain ⟨hl, h⟩ := h
    have f1 := AutoSeq1.idx_int
    have c0 : (decide ((1 : Int) < -(2 ^ 63)) || decide ((1 : Int) ≥ 2 ^ 63)) = false := by decide
    have c1 : (items.isEmpty || (1 : Int) == 1) = true := by simp
    wp_walk using wpAny_loadPart' hl
    exact ⟨_, rfl, h⟩
/-- a tuple times an int from 1 to 1000 -/
def rRepTA (K : PySem.W.Frag) : R2 := fun x y H Q => ∃ l k xs, x = .ref l ∧ y = .int k ∧ SqT K H l xs ∧ xs ≠ [] ∧ 1 ≤ k ∧ k ≤ 1000 ∧ xs.length ≤ 1000 ∧ (k = 1 → Q (.ref l) H) ∧ (k ≠ 1 → ∀ p, H p = none → Q (.ref p) (upd H p (.tup (List.replicate k.toNat xs).flatten)))
section
variable {X : Cx}
theorem op_repTA : OpR X (binaryOp .Mult) (rRepTA X.K) := by
  intro pins s σ H x y v u Q I rx ry h
  obtain ⟨l, k, xs, rfl, rfl, hT, hne, h1, h2, hz, q1, q2⟩ := h
  by_cases hk : k = 1
  · subst hk
    cases rx
    obtain ⟨t, rfl⟩ := ry
    obtain ⟨its, r, ⟨⟨cls, dd, data, sl⟩, ho, hc, n, hd⟩, hs⟩ := I.tuple hT
    simp only at hc hd
    subst hc hd
    refine wpAny_binaryOp_repeat_ref (T := "tuple") (U := "int") (by decide) ⟨_, ho, rfl⟩ (fun s' => typeIs_int s' 1 t) noFill_tuple_mul F.fills_int_mul F.slot_int_rmul repeat_tuple F.slot_int_index.lookup
      (call_meets F.slot_int_rmul (typeIs_int s 1 t) F.entry_int_rmul (F.args_int_rmul_2 _ _) (int_rmul_tuple 1 t l its.toArray n dd sl)
        ⟨ho, rfl, ⟨_, ho, rfl⟩, call_meets F.slot_tuple_mul ⟨_, ho, rfl⟩ F.entry_tuple_mul (F.args_tuple_mul_2 _ _) (tuple_mul1 l its.toArray n dd sl t) ⟨ho, ?_⟩⟩)
    exact ⟨.ref l, H, I, rfl, q1 rfl⟩
  · exact op_repT pins s σ H _ _ v u Q I rx ry ⟨l, k, xs, rfl, rfl, hT, hne, by omega, h2, hz, q2 hk⟩
end
theorem SqT.tyX {K : PySem.W.Frag} {H : Hp} {a : Addr} {xs : List V} (h : SqT K H a xs) : TyX K H (.ref a) (.type "tuple") := by
  rcases h with (h | ⟨o, h⟩) | ⟨o, its, n, e, c, _⟩
  · exact .base (.tup h)
  · exact .fTuple h
  · exact .kTuple e c
/-! ### data equal to itself -/
mutual
theorem eqv_self : ∀ {d : PyData}, d.canLay0 = true → PyData.eqv d d = true
  | .none, _ => by simp [PyData.eqv]
  | .bool _, _ => by simp [PyData.eqv]
  | .int _, _ => by simp [PyData.eqv]
  | .str _, _ => by simp [PyData.eqv]
  | .list xs, h => by rw [PyData.eqv]; exact eqvAll_self (by simpa [PyData.canLay0] using h)
  | .tuple xs, h => by rw [PyData.eqv]; exact eqvAll_self (by simpa [PyData.canLay0] using h)
  | .dict _, h => absurd h (by simp [PyData.canLay0])
theorem eqvAll_self : ∀ {xs : List PyData}, PyData.canLayAll0 xs = true → PyData.eqvAll xs xs = true
  | [], _ => by simp [PyData.eqvAll]
  | x :: xs, h => by
    rw [PyData.canLayAll0, Bool.and_eq_true] at h
    rw [PyData.eqvAll, eqv_self h.1, eqvAll_self h.2]; rfl
end
theorem canLayAll0_of {ds : List PyData} (h : ∀ d ∈ ds, d.canLay0 = true) : PyData.canLayAll0 ds = true := by
  induction ds with
  | nil => rfl
  | cons d ds ih => rw [PyData.canLayAll0, h d (by simp), ih fun e he => h e (List.mem_cons_of_mem _ he)]; rfl
theorem depthAll_of {ds : List PyData} {n : Nat} (h : ∀ d ∈ ds, d.depth ≤ n) : PyData.depthAll ds ≤ n := by
  induction ds with
  | nil => exact Nat.zero_le _
  | cons d ds ih => rw [PyData.depthAll]; exact Nat.max_le.mpr ⟨h d (by simp), ih fun e he => h e (List.mem_cons_of_mem _ he)⟩
/-! ### rows: a text, or a tuple of small ints -/
def Item (d : PyData) : Prop := ∃ i : Int, d = .tuple [.str "int", .int i] ∧ 0 ≤ i ∧ i < 11
def Low (z : Str) : Prop := ∀ c ∈ z.cps.toList, c < 128
inductive Row : Bool → PyData → Nat → Prop
  | txt {z : Str} {n : Nat} : z.length = n → Low z → Row true (.str z) n
  | tup {ds : List PyData} {n : Nat} : ds.length = n → (∀ d ∈ ds, Item d) → Row false (.tuple ds) n
def catD : PyData → PyData → PyData
  | .str a, .str b => .str (a ++ b)
  | .tuple a, .tuple b => .tuple (a ++ b)
  | a, _ => a
def repD (d : PyData) (k : Int) : PyData := match d with
  | .str a => .str (repS a k)
  | .tuple a => .tuple (List.replicate k.toNat a).flatten
  | a => a
def noneD : PyData → PyData
  | .str a => .str (cutS a none (some 0))
  | .tuple _ => .tuple []
  | a => a
theorem len_app (a b : Str) : (a ++ b).length = a.length + b.length := strLen_append a b
theorem len_rep (z : Str) (k : Int) : (repS z k).length = z.length * k.toNat := by
  show (repC z.cps.toList k).toArray.size = _
  rw [List.size_toArray, repC_length, Nat.mul_comm]
  simp [Str.length]
theorem Low.app {a b : Str} (h : Low a) (g : Low b) : Low (a ++ b) := by
  intro c hc
  have e : (a ++ b).cps.toList = a.cps.toList ++ b.cps.toList := by
    show (a.cps ++ b.cps).toList = _
    simp
  rw [e] at hc
  rcases List.mem_append.mp hc with hc | hc
  · exact h c hc
  · exact g c hc
theorem Low.rep {a : Str} (h : Low a) (k : Int) : Low (repS a k) := by
  intro c hc
  have hc : c ∈ (List.replicate k.toNat a.cps.toList).flatten := by simpa [repS, repC] using hc
  obtain ⟨l, hl, hcl⟩ := List.mem_flatten.mp hc
  exact h c (List.eq_of_mem_replicate hl ▸ hcl)
theorem Low.cut {a : Str} (h : Low a) (lo hi : Option Int) : Low (cutS a lo hi) := by
  intro c hc
  have hc : c ∈ (a.cps.toList.drop (HT.sIx a.length 0 lo)).take (HT.sIx a.length a.length hi - HT.sIx a.length 0 lo) := hc
  exact h c (List.mem_of_mem_drop (List.mem_of_mem_take hc))
theorem cut_to (a : Str) (m : Nat) : (cutS a none (some (m : Int))).length ≤ m := by
  show ((a.cps.toList.drop (HT.sIx a.length 0 none)).take (HT.sIx a.length a.length (some (m : Int)) - HT.sIx a.length 0 none)).toArray.size ≤ m
  rw [List.size_toArray, List.length_take, HT.sIx_nat]
  omega
theorem Row.cat {t : Bool} {a b : PyData} {n m : Nat} (h : Row t a n) (g : Row t b m) : Row t (catD a b) (n + m) := by
  cases h with
  | txt e l =>
    cases g with
    | txt e2 l2 => exact .txt (by rw [len_app, e, e2]) (l.app l2)
  | tup e l =>
    cases g with
    | tup e2 l2 => exact .tup (by rw [List.length_append, e, e2]) fun d hd => (List.mem_append.mp hd).elim (l d) (l2 d)
theorem Row.rep {t : Bool} {a : PyData} {n : Nat} (h : Row t a n) (k : Int) : Row t (repD a k) (n * k.toNat) := by
  cases h with
  | txt e l => exact .txt (by rw [len_rep, e]) (l.rep k)
  | tup e l =>
    refine .tup (by rw [PyProof.Rows.lm_len_rep_flat, e, Nat.mul_comm]) fun d hd => ?_
    obtain ⟨x, hx, hdx⟩ := List.mem_flatten.mp hd
    exact l d (List.eq_of_mem_replicate hx ▸ hdx)
theorem Row.none {t : Bool} {a : PyData} {n : Nat} (h : Row t a n) : Row t (noneD a) 0 := by
  cases h with
  | @txt z _ e l => exact .txt (Nat.le_zero.mp (cut_to z 0)) (l.cut _ _)
  | tup e l => exact .tup rfl fun d hd => by cases hd
theorem Item.sm {d : PyData} (h : Item d) : Sm d 1 3000 := by
  obtain ⟨i, rfl, h0, h1⟩ := h
  exact (Sm.tup (.cons (Sm.short (n := "int") (by decide +kernel)) (.cons (Sm.int (Nat.lt_of_lt_of_le (show i.natAbs < 2 ^ 20 by omega) (Nat.pow_le_pow_right (by decide) (by decide)))) .nil))).mono (by decide) (by decide)
theorem Row.sm {t : Bool} {d : PyData} {n : Nat} (h : Row t d n) (hn : n ≤ 1000) : Sm d 2 3100000 := by
  cases h with
  | txt e l => exact (Sm.str (n := 1000) (by omega) fun c hc => Nat.lt_of_lt_of_le (l c hc) (by decide)).mono (by decide) (by decide)
  | tup e l => exact (Sm.tup ((SmAll.many fun d hd => (l d hd).sm).mem (m := 1000) (M := 3000000) (by omega) (by omega))).mono (by decide) (by decide)
theorem Row.lay {t : Bool} {d : PyData} {n : Nat} (h : Row t d n) : d.canLay0 = true := by
  cases h with
  | @txt z _ e l =>
    rw [PyData.canLay0]
    exact Array.all_eq_true_iff_forall_mem.mpr fun c hc => by
      have := l c (Array.mem_toList_iff.mpr hc)
      exact decide_eq_true (by omega)
  | tup e l =>
    rw [PyData.canLay0]
    exact canLayAll0_of fun d hd => by obtain ⟨i, rfl, _⟩ := l d hd; simp only [PyData.canLay0, PyData.canLayAll0, Bool.and_true]; decide +kernel
section
variable {X : Cx}
/-- a + b, two rows -/
def rCatD (K : PySem.W.Frag) : R2 := fun x y H Q => ∃ (t : Bool) (a b : PyData) (n m : Nat), Row t a n ∧ Row t b m ∧ Dt K H x a ∧ Dt K H y b ∧ n + m ≤ 2000 ∧ ∀ v H', Same H H' → Dt K H' v (catD a b) → Q v H'
theorem op_catD : OpR X (binaryOp .Add) (rCatD X.K) := by
  intro pins s σ H x y v u Q I rx ry h
  obtain ⟨t, a, b, n, m, ha, hb, da, db, hz, q⟩ := h
  cases ha with
  | txt e l =>
    cases hb with
    | txt e2 l2 =>
      cases da.str_inv; cases db.str_inv
      exact op_add_str pins s σ H _ _ v u Q I rx ry ⟨_, _, rfl, rfl, by rw [e, e2]; exact Nat.le_trans hz (by decide), q _ _ (Same.refl _) (.str _)⟩
  | @tup ds _ e l =>
    cases hb with
    | @tup es _ e2 l2 =>
      obtain ⟨p, xs, rfl, hs, ax⟩ := da.tuple_inv
      obtain ⟨p2, ys, rfl, hs2, ay⟩ := db.tuple_inv
      have lx := ax.length
      have ly := ay.length
      refine op_catA pins s σ H _ _ v u Q I rx ry ⟨p, p2, xs, ys, rfl, rfl, hs, hs2, by rw [lx, ly, e, e2]; exact Nat.le_trans hz (by decide), fun h0 => ?_, fun _ h0 => ?_, fun _ _ z hz => ?_⟩
      · subst h0
        have : ds = [] := List.eq_nil_of_length_eq_zero (by rw [← lx]; rfl)
        subst this
        exact q _ _ (Same.refl _) db
      · subst h0
        have : es = [] := List.eq_nil_of_length_eq_zero (by rw [← ly]; rfl)
        subst this
        refine q _ _ (Same.refl _) ?_
        show Dt X.K H (.ref p) (.tuple (ds ++ []))
        rw [List.append_nil]; exact da
      · exact q _ _ (Same.new hz) (Dt.made hz (DtAll.app ax ay))
/-- a * k, a row and an int -/
def rRepD (K : PySem.W.Frag) : R2 := fun x y H Q => ∃ (t : Bool) (a : PyData) (n : Nat) (k : Int), Row t a n ∧ Dt K H x a ∧ y = .int k ∧ 1 ≤ n ∧ 1 ≤ k ∧ n * k ≤ 1000 ∧ ∀ v H', Same H H' → Dt K H' v (repD a k) → Q v H'
theorem dtRep {K : PySem.W.Frag} {H : Hp} {xs : List V} {ds : List PyData} (h : DtAll K H xs ds) : ∀ m : Nat, DtAll K H (List.replicate m xs).flatten (List.replicate m ds).flatten
  | 0 => .nil
  | m + 1 => by
    rw [List.replicate_succ, List.flatten_cons, List.replicate_succ, List.flatten_cons]
    exact DtAll.app h (dtRep h m)
theorem op_repD : OpR X (binaryOp .Mult) (rRepD X.K) := by
  intro pins s σ H x y v u Q I rx ry h
  obtain ⟨t, a, n, k, ha, da, rfl, hn, hk, hz, q⟩ := h
  have k1 : k ≤ 1000 := by
    have : 1 * k ≤ n * k := Int.mul_le_mul_of_nonneg_right (by omega) (by omega)
    omega
  have n1 : n ≤ 1000 := by
    have : (n : Int) * 1 ≤ n * k := Int.mul_le_mul_of_nonneg_left hk (by omega)
    omega
  cases ha with
  | txt e l =>
    cases da.str_inv
    refine op_rep_str pins s σ H _ _ v u Q I rx ry ⟨_, k, rfl, rfl, by omega, by omega, ?_, q _ _ (Same.refl _) (.str _)⟩
    rw [e]
    exact Nat.le_trans (Nat.mul_le_mul n1 (show k.toNat ≤ 1000 by omega)) (by decide)
  | @tup ds _ e l =>
    obtain ⟨p, xs, rfl, hs, ax⟩ := da.tuple_inv
    have lx := ax.length
    refine op_repTA pins s σ H _ _ v u Q I rx ry ⟨p, k, xs, rfl, rfl, hs, fun z => ?_, hk, k1, by omega, fun h1 => ?_, fun h1 z hz => ?_⟩
    · subst z
      rw [List.length_nil] at lx
      omega
    · subst h1
      refine q _ _ (Same.refl _) ?_
      show Dt X.K H (.ref p) (.tuple (List.replicate 1 ds).flatten)
      rw [show (List.replicate 1 ds).flatten = ds by simp]
      exact da
    · exact q _ _ (Same.new hz) (Dt.made hz (dtRep ax _))
/-- a[:0], a row -/
def rNoneD (K : PySem.W.Frag) : V → Option Int → Option Int → Hp → VK → Prop := fun x lo hi H Q => ∃ (t : Bool) (a : PyData) (n : Nat), Row t a n ∧ Dt K H x a ∧ n ≤ 2000 ∧ lo = none ∧ hi = some 0 ∧ ∀ v H', Same H H' → Dt K H' v (noneD a) → Q v H'
theorem sl_noneD : SlR X (rNoneD X.K) := by
  intro pins s σ H x v vl vu lo hi sl Q I rx hs pl pu h
  obtain ⟨t, a, n, ha, da, hn, rfl, rfl, q⟩ := h
  cases ha with
  | txt e l =>
    cases da.str_inv
    exact sl_str pins s σ H _ v vl vu _ _ sl Q I rx hs pl pu ⟨_, rfl, by rw [e]; exact Nat.le_trans hn (by decide), q _ _ (Same.refl _) (.str _)⟩
  | @tup ds _ e l =>
    obtain ⟨p, xs, rfl, hq, ax⟩ := da.tuple_inv
    have lx := ax.length
    refine sl_tupA pins s σ H _ v vl vu _ _ sl Q I rx hs pl pu ⟨p, xs, rfl, hq, fun hw => ?_, fun _ z hz => ?_⟩
    · have h0 : ds.length = 0 := by
        have := hw.2
        rw [show (some (0 : Int)) = some ((0 : Nat) : Int) from rfl, HT.sIx_nat] at this
        omega
      have := List.eq_nil_of_length_eq_zero h0
      subst this
      exact q _ _ (Same.refl _) da
    · refine q _ _ (Same.new hz) (Dt.made hz ?_)
      have : cutV xs none (some 0) = [] := by
        apply List.eq_nil_of_length_eq_zero
        unfold cutV
        rw [List.length_take, show (some (0 : Int)) = some ((0 : Nat) : Int) from rfl, HT.sIx_nat]
        omega
      rw [this]
      exact .nil
/-- len(a), a row -/
def rLenD (K : PySem.W.Frag) : List V → Hp → VK → Prop := fun vs H Q => ∃ (v : V) (t : Bool) (a : PyData) (n : Nat), vs = [v] ∧ Row t a n ∧ Dt K H v a ∧ n ≤ 2000 ∧ Q (.int (n : Int)) H
theorem call_lenD' : CallR X (.builtin "len") (rLenD X.K) := by
  intro pins s σ H xs us Q I r h
  obtain ⟨v, t, a, n, rfl, ha, da, hn, q⟩ := h
  cases ha with
  | txt e l =>
    cases da.str_inv
    exact call_len pins s σ H _ us Q I r ⟨_, n, rfl, ⟨by rw [e]; exact Nat.le_trans hn (by decide), e.symm⟩, q⟩
  | @tup ds _ e l =>
    obtain ⟨p, ys, rfl, hq, ax⟩ := da.tuple_inv
    exact call_len pins s σ H _ us Q I r ⟨_, n, rfl, .inr ⟨_, hq, by rw [ax.length, e]⟩, q⟩
end
end LK

set_option Elab.async false
set_option linter.all false
set_option maxRecDepth 100000
set_option maxHeartbeats 4000000
set_option exponentiation.threshold 3000
namespace K19
open PySem PySem.Spec PyProof.Rows L2 LK
def top (i : Nat) : Stmt := PySem.Challenge.pw_pyhold_k19_joins_and_repeats.main.body.getD i (.Pass ⟨0, 0, 0, 0⟩)
abbrev s_is_number : Stmt := top 10
abbrev N_is_number : List Str := ["value"]
abbrev P_is_number : List Str := ["value"]
theorem sc_is_number : FnScope N_is_number P_is_number (defScope s_is_number) := ⟨rfl, rfl, rfl, by decide +kernel, rfl, by decide +kernel, by decide +kernel⟩
abbrev s_object_kind : Stmt := top 11
abbrev N_object_kind : List Str := ["heap", "value"]
abbrev P_object_kind : List Str := ["heap", "value"]
theorem sc_object_kind : FnScope N_object_kind P_object_kind (defScope s_object_kind) := ⟨rfl, rfl, rfl, by decide +kernel, rfl, by decide +kernel, by decide +kernel⟩
abbrev s_row_kind : Stmt := top 12
abbrev N_row_kind : List Str := ["heap", "value", "kind"]
abbrev P_row_kind : List Str := ["heap", "value"]
theorem sc_row_kind : FnScope N_row_kind P_row_kind (defScope s_row_kind) := ⟨rfl, rfl, rfl, by decide +kernel, rfl, by decide +kernel, by decide +kernel⟩
abbrev s_row_of : Stmt := top 13
abbrev N_row_of : List Str := ["heap", "value"]
abbrev P_row_of : List Str := ["heap", "value"]
theorem sc_row_of : FnScope N_row_of P_row_of (defScope s_row_of) := ⟨rfl, rfl, rfl, by decide +kernel, rfl, by decide +kernel, by decide +kernel⟩
abbrev s_made_row : Stmt := top 14
abbrev N_made_row : List Str := ["heap", "kind", "row"]
abbrev P_made_row : List Str := ["heap", "kind", "row"]
theorem sc_made_row : FnScope N_made_row P_made_row (defScope s_made_row) := ⟨rfl, rfl, rfl, by decide +kernel, rfl, by decide +kernel, by decide +kernel⟩
abbrev s_joined : Stmt := top 19
abbrev N_joined : List Str := ["heap", "a", "b", "one", "other"]
abbrev P_joined : List Str := ["heap", "a", "b"]
theorem sc_joined : FnScope N_joined P_joined (defScope s_joined) := ⟨rfl, rfl, rfl, by decide +kernel, rfl, by decide +kernel, by decide +kernel⟩
abbrev s_repeated : Stmt := top 20
abbrev N_repeated : List Str := ["heap", "a", "many", "row"]
abbrev P_repeated : List Str := ["heap", "a", "many"]
theorem sc_repeated : FnScope N_repeated P_repeated (defScope s_repeated) := ⟨rfl, rfl, rfl, by decide +kernel, rfl, by decide +kernel, by decide +kernel⟩
abbrev s_binary : Stmt := top 17
abbrev N_binary : List Str := ["heap", "op", "a", "b"]
abbrev P_binary : List Str := ["heap", "op", "a", "b"]
theorem sc_binary : FnScope N_binary P_binary (defScope s_binary) := ⟨rfl, rfl, rfl, by decide +kernel, rfl, by decide +kernel, by decide +kernel⟩
abbrev s_law_row : Stmt := top 28
abbrev N_law_row : List Str := ["box", "kind", "many", "items", "k"]
abbrev P_law_row : List Str := ["box", "kind"]
theorem sc_law_row : FnScope N_law_row P_law_row (defScope s_law_row) := ⟨rfl, rfl, rfl, by decide +kernel, rfl, by decide +kernel, by decide +kernel⟩
abbrev s_law_good : Stmt := top 29
abbrev N_law_good : List Str := ["heap", "kept", "kind", "actual", "due", "at"]
abbrev P_law_good : List Str := ["heap", "kept", "kind", "actual", "due"]
theorem sc_law_good : FnScope N_law_good P_law_good (defScope s_law_good) := ⟨rfl, rfl, rfl, by decide +kernel, rfl, by decide +kernel, by decide +kernel⟩
abbrev s_law : Stmt := top 30
abbrev N_law : List Str := ["script", "box", "kind", "left", "right", "times", "heap", "a", "b", "kept", "due", "turn", "number", "actual"]
abbrev P_law : List Str := ["script"]
theorem sc_law : FnScope N_law P_law (defScope s_law) := ⟨rfl, rfl, rfl, by decide +kernel, rfl, by decide +kernel, by decide +kernel⟩
structure Txt (K : PySem.W.Frag) (mg : Str → Option Value) : Prop where
  c_MOST_ENTRIES : GInt mg "MOST_ENTRIES" 1000
  c_TOO_LARGE : GTup K mg "TOO_LARGE" [.str "raise", .int 15, .str "too large"]
  b_len : mg "len" = none
  b_int : mg "int" = none
  b_repr : mg "repr" = none
  b_range : mg "range" = none
  b_tuple : mg "tuple" = none
  b_list : mg "list" = none
  b_isinstance : mg "isinstance" = none
abbrev s_law_cell : Stmt := top 22
abbrev N_law_cell : List Str := ["script", "k"]
abbrev P_law_cell : List Str := ["script", "k"]
theorem sc_law_cell : FnScope N_law_cell P_law_cell (defScope s_law_cell) := ⟨rfl, rfl, rfl, by decide +kernel, rfl, by decide +kernel, by decide +kernel⟩
abbrev s_law_digits : Stmt := top 23
abbrev N_law_digits : List Str := ["script", "first", "last", "digits", "k", "cell", "turn", "seed"]
abbrev P_law_digits : List Str := ["script", "first", "last"]
theorem sc_law_digits : FnScope N_law_digits P_law_digits (defScope s_law_digits) := ⟨rfl, rfl, rfl, by decide +kernel, rfl, by decide +kernel, by decide +kernel⟩
abbrev s_law_draw : Stmt := top 24
abbrev N_law_draw : List Str := ["box", "many", "at"]
abbrev P_law_draw : List Str := ["box", "many"]
theorem sc_law_draw : FnScope N_law_draw P_law_draw (defScope s_law_draw) := ⟨rfl, rfl, rfl, by decide +kernel, rfl, by decide +kernel, by decide +kernel⟩
section
variable {P : Program} {w : World} {K : PySem.W.Frag} {mg : Str → Option Value} {base : Heap}
theorem ok_draw {f : Addr} {fd : FuncData} (F : Fun K "_law_draw" "_law_draw" s_law_draw f fd) (T : Txt K mg) : FnG P w K mg base CX0 1 f fd P_law_draw (spDraw K) := by
  refine okG0 F sc_law_draw (fun vs H Q E h => ?_) fun cdv A outer s H vs Q E hr hg h => ?_
  · obtain ⟨p, dl, m, rfl, _⟩ := h
    rfl
  · obtain ⟨p, dl, m, rfl, B, hm, k⟩ := h
    obtain ⟨ds, n, hp, hn, hd, hl, hds⟩ := id B
    refine ⟨_, (pss_cons (ps_set (i := 2) sc_law_draw.nd rfl (Or.inl rfl) (pe_ix ix_list (pv 0) pe_int (fun _ _ => rfl)))
  (pss_cons (ps_asg (pe_op op_add (pv 2) pe_int) (pg_sub (pv 0) pe_int set_list))
  (pss_cons (ps_if (pt_cmpR op_lt (pv 2) (pe_callB call_len (by rfl) T.b_len PySem.boot_len (pa_cons (pe_ix ix_list (pv 0) pe_int (fun _ _ => rfl)) pa_nil)) (nomark _))
   (pss_one (ps_ret (pe_op op_mod (pe_callTy call_int1 (by rfl) T.b_int (by decide +kernel) (pa_cons (pe_ix ix_list (pe_ix ix_list (pv 0) pe_int (fun _ _ => rfl)) (pv 2) (fun _ _ => rfl)) pa_nil)) (pv 1))))
   pss_nil)
  (pss_one (ps_ret pe_int))))), ?_⟩
    -- at = box[1]; box[1] = at + 1
    refine ⟨_, rfl, p, _, _, _, rfl, rfl, SqL.of hp, rfl, ?_⟩
    refine ⟨_, rfl, _, _, rfl, rfl, _, rfl, p, _, _, _, rfl, rfl, hp, rfl, ?_⟩
    have npd : dl ≠ p := by
      intro e
      subst e
      rw [hp] at hd
      have e := HO.lst.inj (Option.some.inj hd)
      cases ds with
      | nil => cases e
      | cons d ds => cases (List.cons.inj e).1
    have B' : BoxAt (upd H p (.lst [.ref dl, .int (n + 1)])) p dl := ⟨ds, n + 1, upd_same, by omega, by rw [upd_ne npd]; exact hd, hl, hds⟩
    have kp : Keep p H (upd H p (.lst [.ref dl, .int (n + 1)])) := fun b o e hb => by rw [upd_ne hb]; exact e
    have hd' : upd H p (.lst [.ref dl, .int (n + 1)]) dl = some (.lst (ds.map V.int)) := by rw [upd_ne npd]; exact hd
    -- if at < len(box[0])
    refine ⟨_, rfl, _, rfl, p, _, _, _, rfl, rfl, SqL.of upd_same, rfl, _, _, rfl, .inl ⟨_, SqL.of hd', rfl⟩, ?_⟩
    refine ⟨_, _, rfl, rfl, _, rfl, ?_⟩
    refine ite2 (fun c => ?_) fun c => ?_
    · have c1 : n < (ds.length : Int) := by simpa using c
      have c2 : n.toNat < ds.length := by omega
      have mem := hds _ (List.getElem_mem c2)
      refine ⟨_, rfl, p, _, _, _, rfl, rfl, SqL.of upd_same, rfl, _, rfl, dl, _, _, .int ds[n.toNat], rfl, rfl, SqL.of hd', ?_, .inl ⟨_, rfl, ?_⟩⟩
      · have e : n = ((n.toNat : Nat) : Int) := by omega
        exact at_of e (by simp [c2])
      · refine ⟨_, rfl, _, _, rfl, rfl, hm, ?_⟩
        exact k _ _ (Int.emod_nonneg _ (by omega)) (Int.emod_lt_of_pos _ hm) B' kp
    · exact k 0 _ (Int.le_refl 0) hm B' kp
theorem ok_cell {f : Addr} {fd : FuncData} (F : Fun K "_law_cell" "_law_cell" s_law_cell f fd) (T : Txt K mg) : FnG P w K mg base CX0 1 f fd P_law_cell (spCell K) := by
  refine okG0 F sc_law_cell (fun vs H Q E h => ?_) fun cdv A outer s H vs Q E hr hg h => ?_
  · obtain ⟨a, ns, i, rfl, _⟩ := h
    rfl
  · obtain ⟨a, ns, i, rfl, hs, hi, k⟩ := h
    refine ⟨_, (pss_cons (ps_if (pt_cmpR op_lt (pv 1) (pe_callB call_len (by rfl) T.b_len PySem.boot_len (pa_cons (pv 0) pa_nil)) (nomark _))
   (pss_one (ps_ret (pe_ix ix_list (pv 0) (pv 1) (fun _ _ => rfl))))
   pss_nil)
  (pss_one (ps_ret pe_int))), ?_⟩
    refine ⟨_, rfl, _, rfl, _, _, rfl, .inl ⟨_, hs, rfl⟩, _, _, rfl, rfl, _, rfl, ?_⟩
    refine ite3 (fun c => ?_) fun _ => k 0
    have c1 : i < (ns.length : Int) := by simpa using c
    have c2 : i.toNat < ns.length := by omega
    exact ⟨_, rfl, _, rfl, a, _, _, .int ns[i.toNat], rfl, rfl, hs, at_of (show i = ((i.toNat : Nat) : Int) by omega) (by simp [c2]), k _⟩
theorem ok_digits {f : Addr} {fd : FuncData} (F : Fun K "_law_digits" "_law_digits" s_law_digits f fd) (T : Txt K mg) (U_law_cell : Use P w K mg base CX0 "_law_cell" 1 P_law_cell (spCell K)) : FnG P w K mg base CX0 2 f fd P_law_digits (spDigits K) := by
  refine okG0 F sc_law_digits (fun vs H Q E h => ?_) fun cdv A outer s H vs Q E hr hg h => ?_
  · obtain ⟨a, ns, lo, hi, rfl, _⟩ := h
    rfl
  · obtain ⟨a, ns, lo, hi, rfl, hs, hlo, hhi, k⟩ := h
    refine ⟨_, (pss_cons (ps_set (i := 3) sc_law_digits.nd rfl (Or.inl rfl) (pe_lst pa_nil))
  (pss_cons (ps_for PassesOwn.never rfl (pi_range2 (by rfl) T.b_range (pa_cons (pv 1) (pa_cons (pv 2) pa_nil))) (pg_name (i := 4) sc_law_digits.nd rfl (Or.inl rfl))
   (pss_cons (ps_set (i := 5) sc_law_digits.nd rfl (Or.inl rfl) (pe_use U_law_cell (hr.mono (by decide)) hg rfl (pa_cons (pv 0) (pa_cons (pv 4) pa_nil))))
  (C8.pss_cut (ps_if (pt_cmpR op_lt (pv 5) pe_int (nomark _))
   (pss_one (ps_set (i := 5) sc_law_digits.nd rfl (Or.inl rfl) (pe_op op_sub pe_int (pe_op op_mul pe_int (pv 5)))))
   pss_nil)
  (pss_one (ps_if (pt_cmpR op_ge (pv 5) (pe_op op_pow pe_int pe_int) (nomark _))
   (pss_one (ps_for PassesOwn.never rfl (pi_range1 (by rfl) T.b_range (pa_cons pe_int pa_nil)) (pg_name (i := 6) sc_law_digits.nd rfl (Or.inl rfl))
   (pss_one (ps_if (pt_cmpR op_gt (pv 5) pe_int (nomark _))
   (pss_cons (ps_expr (pe_bm PySem.F.plainAttrs_list PySem.F.slot_list_append PySem.F.type_list_append mt_append (pv 3) (pa_cons (pe_op op_mod (pe_callTy call_int1 (by rfl) T.b_int (by decide +kernel) (pa_cons (pv 5) pa_nil)) pe_int) pa_nil)))
  (pss_one (ps_set (i := 5) sc_law_digits.nd rfl (Or.inl rfl) (pe_op op_fdiv (pv 5) pe_int))))
   pss_nil))))
   (pss_cons (ps_set (i := 7) sc_law_digits.nd rfl (Or.inl rfl) (pe_op op_mod (pe_callTy call_int1 (by rfl) T.b_int (by decide +kernel) (pa_cons (pe_op op_add (pe_op op_add (pe_op op_mul (pv 5) pe_int) (pe_op op_mul (pv 4) pe_int)) pe_int) pa_nil)) pe_int))
  (pss_one (ps_for PassesOwn.never rfl (pi_range1 (by rfl) T.b_range (pa_cons pe_int pa_nil)) (pg_name (i := 6) sc_law_digits.nd rfl (Or.inl rfl))
   (pss_cons (ps_set (i := 7) sc_law_digits.nd rfl (Or.inl rfl) (pe_op op_mod (pe_callTy call_int1 (by rfl) T.b_int (by decide +kernel) (pa_cons (pe_op op_add (pe_op op_add (pe_op op_mul (pv 7) pe_int) (pe_op op_mul pe_int (pv 6))) pe_int) pa_nil)) pe_int))
  (pss_one (ps_expr (pe_bm PySem.F.plainAttrs_list PySem.F.slot_list_append PySem.F.type_list_append mt_append (pv 3) (pa_cons (pe_op op_mod (pe_callTy call_int1 (by rfl) T.b_int (by decide +kernel) (pa_cons (pe_op op_fdiv (pv 7) pe_int) pa_nil)) pe_int) pa_nil)))))))))))))
  (pss_one (ps_ret (pv 3))))), ?_⟩
    refine ⟨by decide, fun dl nd => ?_⟩
    have sz : (4000 : Nat) < sizeLine := by decide
    -- for k in range(first, last)
    refine ⟨_, rfl, _, rfl, _, _, rfl, ⟨by omega, by omega, by omega, by omega⟩, ?_⟩
    refine for_range (lo := (lo : Int)) (n := ((hi : Int) - (lo : Int)).toNat) (fun i σ H1 => ∃ x5 x6 x7 x4, σ = [some (.ref a), some (.int lo), some (.int hi), some (.ref dl), x4, x5, x6, x7] ∧ DigAt H H1 dl (60 * i)) ?_ ?_ ?_
    · exact ⟨none, none, none, none, rfl, [], upd_same, by simp, by simp, Same.new nd⟩
    · rintro i σ H1 hi' ⟨x5, x6, x7, x4, rfl, D⟩
      have S1 : Same H H1 := let ⟨_, _, _, _, z⟩ := D; z
      -- cell = _law_cell(script, k)
      refine ⟨_, rfl, _, rfl, a, ns, _, rfl, S1.seq hs, by omega, fun cell => ?_⟩
      -- if cell < 0: cell = 1 - 2 * cell
      refine ⟨fun σ H2 => ∃ c : Int, σ = [some (.ref a), some (.int lo), some (.int hi), some (.ref dl), some (.int ((lo : Int) + i)), some (.int c), x6, x7] ∧ H2 = H1, ?_, ?_⟩
      · refine ⟨_, rfl, _, _, rfl, rfl, _, rfl, ?_⟩
        refine ite3 (fun _ => ?_) fun _ => ⟨cell, rfl, rfl⟩
        exact ⟨_, rfl, _, _, rfl, rfl, .inl ⟨by decide, by decide⟩, _, _, rfl, rfl, _, rfl, rfl⟩
      · rintro _ _ ⟨c, rfl, rfl⟩
        -- if cell >= 10 ** 18
        refine ⟨_, rfl, _, _, rfl, rfl, ⟨by decide, by decide, by decide⟩, _, _, rfl, rfl, _, rfl, ?_⟩
        refine ite3 (fun hc => ?_) fun hc => ?_
        · refine ⟨_, rfl, by decide, by decide, ?_⟩
          refine for_range (lo := 0) (n := 60) (fun j σ H1 => ∃ (c : Int) (y6 : Option V), σ = [some (.ref a), some (.int lo), some (.int hi), some (.ref dl), some (.int ((lo : Int) + i)), some (.int c), y6, x7] ∧ DigAt H H1 dl (60 * i + j)) ⟨c, x6, rfl, D⟩ ?_ ?_
          · rintro j σ H2 hj ⟨c, y6, rfl, D2⟩
            obtain ⟨ds, hd, hl, _⟩ := id D2
            refine ⟨_, rfl, _, _, rfl, rfl, _, rfl, ?_⟩
            refine ite3 (fun hp => ?_) fun _ => ⟨c, _, rfl, D2.mono (by omega)⟩
            have hp : 0 < c := by simpa using hp
            refine ⟨_, rfl, .inl ⟨rfl, _, SqL.of hd⟩, _, rfl, .inl ⟨_, rfl, _, _, rfl, rfl, (by show (0 : Int) < 1000; decide), dl, _, _, rfl, rfl, hd, (by simp; omega), ?_⟩⟩
            refine ⟨_, rfl, _, _, rfl, rfl, ⟨by decide, by decide⟩, ?_⟩
            exact ⟨_, _, rfl, D2.add hd nd (Int.emod_nonneg _ (by decide)) (Int.emod_lt_of_pos _ (by decide))⟩
          · rintro σ H2 ⟨c, y6, rfl, D2⟩
            exact ⟨_, _, _, _, rfl, D2.mono (by omega)⟩
        · refine ⟨_, rfl, _, _, rfl, rfl, .inr ⟨by decide, by decide⟩, _, rfl, _, _, rfl, rfl, .inr ⟨by decide, by decide⟩, _, _, rfl, rfl, _, _, rfl, rfl, .inl ⟨_, rfl, _, _, rfl, rfl, (by show (0 : Int) < 2147483647; decide), ?_⟩⟩
          refine ⟨_, rfl, by decide, by decide, ?_⟩
          refine for_range (lo := 0) (n := 12) (fun j σ H1 => ∃ (sd : Int) (y6 : Option V), σ = [some (.ref a), some (.int lo), some (.int hi), some (.ref dl), some (.int ((lo : Int) + i)), some (.int c), y6, some (.int sd)] ∧ DigAt H H1 dl (60 * i + j)) ⟨_, x6, rfl, D⟩ ?_ ?_
          · rintro j σ H2 hj ⟨sd, y6, rfl, D2⟩
            obtain ⟨ds, hd, hl, _⟩ := id D2
            refine ⟨_, rfl, _, _, rfl, rfl, .inr ⟨by decide, by decide⟩, _, rfl, _, _, rfl, rfl, .inl ⟨by decide, by decide⟩, _, _, rfl, rfl, _, _, rfl, rfl, .inl ⟨_, rfl, _, _, rfl, rfl, (by show (0 : Int) < 2147483647; decide), ?_⟩⟩
            refine ⟨_, rfl, .inl ⟨rfl, _, SqL.of hd⟩, _, rfl, _, _, rfl, rfl, ⟨by decide, by decide⟩, .inl ⟨_, rfl, _, _, rfl, rfl, (by show (0 : Int) < 1000; decide), dl, _, _, rfl, rfl, hd, (by simp; omega), ?_⟩⟩
            exact ⟨_, _, rfl, D2.add hd nd (Int.emod_nonneg _ (by decide)) (Int.emod_lt_of_pos _ (by decide))⟩
          · rintro σ H2 ⟨sd, y6, rfl, D2⟩
            exact ⟨_, _, _, _, rfl, D2.mono (by omega)⟩
    · rintro σ H1 ⟨x5, x6, x7, x4, rfl, D⟩
      exact ⟨_, rfl, k dl H1 nd (D.mono (by omega))⟩
end

abbrev s_law_same : Stmt := top 27
abbrev N_law_same : List Str := ["actual", "due"]
abbrev P_law_same : List Str := ["actual", "due"]
theorem sc_law_same : FnScope N_law_same P_law_same (defScope s_law_same) := ⟨rfl, rfl, rfl, by decide +kernel, rfl, by decide +kernel, by decide +kernel⟩
section
variable {P : Program} {w : World} {K : PySem.W.Frag} {mg : Str → Option Value} {base : Heap}
theorem ok_same {f : Addr} {fd : FuncData} (F : Fun K "_law_same" "_law_same" s_law_same f fd) (T : Txt K mg) : FnG P w K mg base CX0 1 f fd P_law_same (spSame K) := by
  refine okG0 F sc_law_same (fun vs H Q E h => ?_) fun cdv A outer s H vs Q E hr hg h => ?_
  · obtain ⟨x, y, d, rfl, _⟩ := h
    rfl
  · obtain ⟨x, y, d, rfl, hx, hy, hs, k⟩ := h
    refine ⟨_, (pss_one (ps_ret (pe_cmpR op_eq (pe_callB (call_repr_data hg hr.units) (by rfl) T.b_repr (by decide +kernel) (pa_cons (pv 0) pa_nil)) (pe_callB (call_repr_data hg hr.units) (by rfl) T.b_repr (by decide +kernel) (pa_cons (pv 1) pa_nil)) (nomark _)))), ?_⟩
    refine ⟨_, rfl, _, d, rfl, hx, hs, _, rfl, _, d, rfl, hy, hs, rfl, ?_⟩
    rw [decide_eq_true rfl]
    exact k
end

section
variable {P : Program} {w : World} {K : PySem.W.Frag} {mg : Str → Option Value} {base : Heap}
/-! kinds -/
def spIsNum (K : PySem.W.Frag) : Sp := fun vs H Q _ => ∃ (v : V) (z : Str) (rest : List PyData), vs = [v] ∧ Dt K H v (.tuple (.str z :: rest)) ∧ ∀ H', Same H H' → Q (.bl (inV (V.str z) [V.str "int", V.str "bool"])) H'
theorem ok_isnum {f : Addr} {fd : FuncData} (F : Fun K "is_number" "is_number" s_is_number f fd) (T : Txt K mg) : FnG P w K mg base CX0 1 f fd P_is_number (spIsNum K) := by
  refine okG0 F sc_is_number (fun vs H Q E h => ?_) fun cdv A outer s H vs Q E hr hg h => ?_
  · obtain ⟨v, z, r, rfl, _⟩ := h
    rfl
  · obtain ⟨v, z, r, rfl, hd, k⟩ := h
    obtain ⟨q, ws, rfl, hs, _⟩ := hd.head
    refine ⟨_, (pss_one (ps_ret (pe_cmpR op_in_seq (pe_ix ix_tup (pv 0) pe_int (fun _ _ => rfl)) (pe_tup (pa_cons pe_str (pa_cons pe_str pa_nil))) (by rfl)))), ?_⟩
    exact ⟨_, rfl, q, _, _, .str z, rfl, rfl, hs, at0, sz_2, fun u hu => ⟨u, _, rfl, .inr (SqT.of upd_same), rfl, rfl, k _ (Same.new hu)⟩⟩
inductive KindIs (hds : List PyData) : PyData → Str → Prop
  | plain {z : Str} {rest : List PyData} : V.str z ≠ V.str "ref" → KindIs hds (.tuple (.str z :: rest)) ""
  | obj {k : Nat} {kd : Str} {rest : List PyData} : hds[k]? = some (.tuple (.str kd :: rest)) → KindIs hds (.tuple [.str "ref", .int (k : Nat)]) kd
def spKind (K : PySem.W.Frag) : Sp := fun vs H Q _ => ∃ (hp : Addr) (hds : List PyData) (v : V) (d : PyData) (kd : Str), vs = [.ref hp, v] ∧ ListAt K H hp hds ∧ Dt K H v d ∧ KindIs hds d kd ∧ Q (.str kd) H
theorem ok_kind {f : Addr} {fd : FuncData} (F : Fun K "object_kind" "object_kind" s_object_kind f fd) (T : Txt K mg) : FnG P w K mg base CX0 1 f fd P_object_kind (spKind K) := by
  refine okG0 F sc_object_kind (fun vs H Q E h => ?_) fun cdv A outer s H vs Q E hr hg h => ?_
  · obtain ⟨hp, hds, v, d, kd, rfl, _⟩ := h
    rfl
  · obtain ⟨hp, hds, v, d, kd, rfl, ⟨xs, hx, ax⟩, hd, hk, k⟩ := h
    refine ⟨_, (pss_cons (ps_if (pt_cmpR op_ne (pe_ix ix_tup (pv 1) pe_int (fun _ _ => rfl)) pe_str (nomark _))
   (pss_one (ps_ret pe_str))
   pss_nil)
  (pss_one (ps_ret (pe_ix ix_tup (pe_ix ix_list (pv 0) (pe_ix ix_tup (pv 1) pe_int (fun _ _ => rfl)) (fun _ _ => rfl)) pe_int (fun _ _ => rfl))))), ?_⟩
    cases hk with
    | plain hz =>
      obtain ⟨q, ws, rfl, hs, _⟩ := hd.head
      exact ⟨_, rfl, q, _, _, _, rfl, rfl, hs, at0, rfl, _, rfl, iteTb (by rw [decide_eq_false hz]; rfl) k⟩
    | @obj i _ rest hh =>
      obtain ⟨q, y, rfl, hs, h2⟩ := hd.pair
      cases h2.int_inv
      obtain ⟨o, ho, dO⟩ := ax.get hh
      obtain ⟨qo, zs, rfl, hso, _⟩ := dO.head
      refine ⟨_, rfl, q, _, _, _, rfl, rfl, hs, at0, rfl, _, rfl, iteFb (by decide +kernel) ?_⟩
      exact ⟨_, rfl, _, rfl, q, _, _, _, rfl, rfl, hs, at1, hp, _, _, _, rfl, rfl, SqL.of hx, atI_nat ho, qo, _, _, _, rfl, rfl, hso, at0, k⟩
/-! rows -/
def KdIs (t : Bool) (kd : Str) : Prop := (t = true ∧ kd = "text") ∨ (t = false ∧ (kd = "tuple" ∨ kd = "list"))
inductive ValIs (hds : List PyData) : Bool → Str → PyData → PyData → Prop
  | txt {z : Str} : ValIs hds true "text" (.str z) (.tuple [.str "text", .str z])
  | obj {k : Nat} {kd : Str} {rd : PyData} : kd = "tuple" ∨ kd = "list" → hds[k]? = some (.tuple [.str kd, rd]) → ValIs hds false kd rd (.tuple [.str "ref", .int (k : Nat)])
theorem ValIs.kd {hds : List PyData} {t : Bool} {kd : Str} {rd d : PyData} (h : ValIs hds t kd rd d) : KdIs t kd := by
  cases h with
  | txt => exact .inl ⟨rfl, rfl⟩
  | obj e _ => exact .inr ⟨rfl, e⟩
inductive NumIs : Int → PyData → Prop
  | int (n : Int) : NumIs n (.tuple [.str "int", .int n])
  | one : NumIs 1 (.tuple [.str "bool", .bool true])
inductive RkIs (hds : List PyData) : PyData → Str → Prop
  | val {t : Bool} {kd : Str} {rd d : PyData} : ValIs hds t kd rd d → RkIs hds d kd
  | num {n : Int} {d : PyData} : NumIs n d → RkIs hds d ""
def spRowKind (K : PySem.W.Frag) : Sp := fun vs H Q _ => ∃ (hp : Addr) (hds : List PyData) (v : V) (d : PyData) (kd : Str), vs = [.ref hp, v] ∧ ListAt K H hp hds ∧ Dt K H v d ∧ RkIs hds d kd ∧ ∀ H', Same H H' → Q (.str kd) H'
theorem ok_rowkind {f : Addr} {fd : FuncData} (F : Fun K "row_kind" "row_kind" s_row_kind f fd) (T : Txt K mg) (U_object_kind : Use P w K mg base CX0 "object_kind" 1 P_object_kind (spKind K)) :
    FnG P w K mg base CX0 2 f fd P_row_kind (spRowKind K) := by
  refine okG0 F sc_row_kind (fun vs H Q E h => ?_) fun cdv A outer s H vs Q E hr hg h => ?_
  · obtain ⟨hp, hds, v, d, kd, rfl, _⟩ := h
    rfl
  · obtain ⟨hp, hds, v, d, kd, rfl, L, hd, hk, k⟩ := h
    refine ⟨_, (pss_cons (ps_if (pt_cmpR op_eq (pe_ix ix_tup (pv 1) pe_int (fun _ _ => rfl)) pe_str (nomark _))
   (pss_one (ps_ret pe_str))
   pss_nil)
  (pss_cons (ps_set (i := 2) sc_row_kind.nd rfl (Or.inl rfl) (pe_use U_object_kind (hr.mono (by decide)) hg rfl (pa_cons (pv 0) (pa_cons (pv 1) pa_nil))))
  (pss_cons (ps_if (pt_cmpR op_in_seq (pv 2) (pe_tup (pa_cons pe_str (pa_cons pe_str pa_nil))) (by rfl))
   (pss_one (ps_ret (pv 2)))
   pss_nil)
  (pss_one (ps_ret pe_str))))), ?_⟩
    cases hk with
    | val hv =>
      cases hv with
      | txt =>
        obtain ⟨q, ws, rfl, hs, _⟩ := hd.head
        exact ⟨_, rfl, q, _, _, _, rfl, rfl, hs, at0, rfl, _, rfl, iteTb (by decide +kernel) (k _ (Same.refl _))⟩
      | @obj i _ rd he hh =>
        obtain ⟨q, y, rfl, hs, h2⟩ := hd.pair
        refine ⟨_, rfl, q, _, _, _, rfl, rfl, hs, at0, rfl, _, rfl, iteFb (by decide +kernel) ?_⟩
        refine ⟨_, rfl, _, rfl, hp, hds, _, _, kd, rfl, L, hd, .obj hh, ?_⟩
        refine ⟨_, rfl, sz_2, fun u hu => ⟨u, _, rfl, .inr (SqT.of upd_same), rfl, rfl, _, rfl, ?_⟩⟩
        exact iteTb (by rcases he with rfl | rfl <;> decide +kernel) ⟨_, rfl, k _ (Same.new hu)⟩
    | @num n _ hn =>
      cases hn with
      | int => 
        obtain ⟨q, ws, rfl, hs, _⟩ := hd.head
        refine ⟨_, rfl, q, _, _, _, rfl, rfl, hs, at0, rfl, _, rfl, iteFb (by decide +kernel) ?_⟩
        refine ⟨_, rfl, _, rfl, hp, hds, _, _, _, rfl, L, hd, .plain (by decide +kernel), ?_⟩
        refine ⟨_, rfl, sz_2, fun u hu => ⟨u, _, rfl, .inr (SqT.of upd_same), rfl, rfl, _, rfl, ?_⟩⟩
        exact iteFb (by decide +kernel) (k _ (Same.new hu))
      | one =>
        obtain ⟨q, ws, rfl, hs, _⟩ := hd.head
        refine ⟨_, rfl, q, _, _, _, rfl, rfl, hs, at0, rfl, _, rfl, iteFb (by decide +kernel) ?_⟩
        refine ⟨_, rfl, _, rfl, hp, hds, _, _, _, rfl, L, hd, .plain (by decide +kernel), ?_⟩
        refine ⟨_, rfl, sz_2, fun u hu => ⟨u, _, rfl, .inr (SqT.of upd_same), rfl, rfl, _, rfl, ?_⟩⟩
        exact iteFb (by decide +kernel) (k _ (Same.new hu))
def spRowOf (K : PySem.W.Frag) : Sp := fun vs H Q _ => ∃ (hp : Addr) (hds : List PyData) (v : V) (t : Bool) (kd : Str) (rd d : PyData), vs = [.ref hp, v] ∧ ListAt K H hp hds ∧ Dt K H v d ∧ ValIs hds t kd rd d ∧ ∀ v, Dt K H v rd → Q v H
theorem ok_rowof {f : Addr} {fd : FuncData} (F : Fun K "row_of" "row_of" s_row_of f fd) (T : Txt K mg) : FnG P w K mg base CX0 1 f fd P_row_of (spRowOf K) := by
  refine okG0 F sc_row_of (fun vs H Q E h => ?_) fun cdv A outer s H vs Q E hr hg h => ?_
  · obtain ⟨hp, hds, v, t, kd, rd, d, rfl, _⟩ := h
    rfl
  · obtain ⟨hp, hds, v, t, kd, rd, d, rfl, ⟨xs, hx, ax⟩, hd, hv, k⟩ := h
    refine ⟨_, (pss_cons (ps_if (pt_cmpR op_eq (pe_ix ix_tup (pv 1) pe_int (fun _ _ => rfl)) pe_str (nomark _))
   (pss_one (ps_ret (pe_ix ix_tup (pv 1) pe_int (fun _ _ => rfl))))
   pss_nil)
  (pss_one (ps_ret (pe_ix ix_tup (pe_ix ix_list (pv 0) (pe_ix ix_tup (pv 1) pe_int (fun _ _ => rfl)) (fun _ _ => rfl)) pe_int (fun _ _ => rfl))))), ?_⟩
    cases hv with
    | txt =>
      obtain ⟨q, y, rfl, hs, h1⟩ := hd.pair
      exact ⟨_, rfl, q, _, _, _, rfl, rfl, hs, at0, rfl, _, rfl, iteTb (by decide +kernel) ⟨_, rfl, q, _, _, _, rfl, rfl, hs, at1, k _ h1⟩⟩
    | @obj i _ _ he hh =>
      obtain ⟨q, y, rfl, hs, h2⟩ := hd.pair
      cases h2.int_inv
      obtain ⟨o, ho, dO⟩ := ax.get hh
      obtain ⟨qo, zs, rfl, hso, h3⟩ := dO.pair
      refine ⟨_, rfl, q, _, _, _, rfl, rfl, hs, at0, rfl, _, rfl, iteFb (by decide +kernel) ?_⟩
      exact ⟨_, rfl, _, rfl, q, _, _, _, rfl, rfl, hs, at1, hp, _, _, _, rfl, rfl, SqL.of hx, atI_nat ho, qo, _, _, _, rfl, rfl, hso, at1, k _ h3⟩
def okD (d : PyData) : PyData := .tuple [.str "ok", d]
def bigD : PyData := .tuple [.str "raise", .int 15, .str "too large"]
def resL (t : Bool) (kd : Str) : Option PyData → List PyData
  | some rd => if t = true then [] else [.tuple [.str kd, rd]]
  | none => []
def resR (n : Nat) (t : Bool) : Option PyData → PyData
  | some rd => if t = true then okD (.tuple [.str "text", rd]) else okD (.tuple [.str "ref", .int (n : Nat)])
  | none => bigD
def Out (K : PySem.W.Frag) (H : Hp) (hp : Addr) (hds : List PyData) (t : Bool) (kd : Str) (o : Option PyData) (Q : VK) : Prop :=
  ∀ r H', Keep hp H H' → ListAt K H' hp (hds ++ resL t kd o) → Dt K H' r (resR hds.length t o) → Q r H'
theorem Out.same {H H1 : Hp} {hp : Addr} {hds : List PyData} {t : Bool} {kd : Str} {o : Option PyData} {Q : VK} (h : Out K H hp hds t kd o Q) (e : Same H H1) : Out K H1 hp hds t kd o Q := fun r H' k l d => h r H' ((Same.keep e).trans k) l d
def spMade (K : PySem.W.Frag) : Sp := fun vs H Q _ => ∃ (hp : Addr) (hds : List PyData) (v : V) (t : Bool) (kd : Str) (rd : PyData), vs = [.ref hp, .str kd, v] ∧ ListAt K H hp hds ∧ hds.length ≤ 100 ∧ Dt K H v rd ∧ KdIs t kd ∧ Out K H hp hds t kd (some rd) Q
theorem ok_made {f : Addr} {fd : FuncData} (F : Fun K "made_row" "made_row" s_made_row f fd) (T : Txt K mg) : FnG P w K mg base CX0 1 f fd P_made_row (spMade K) := by
  refine okG0 F sc_made_row (fun vs H Q E h => ?_) fun cdv A outer s H vs Q E hr hg h => ?_
  · obtain ⟨hp, hds, v, t, kd, rd, rfl, _⟩ := h
    rfl
  · obtain ⟨hp, hds, v, t, kd, rd, rfl, L, hl, hd, hk, k⟩ := h
    refine ⟨_, (pss_cons (ps_if (pt_cmpR op_eq (pv 1) pe_str (nomark _))
   (pss_one (ps_ret (pe_tup (pa_cons pe_str (pa_cons (pe_tup (pa_cons pe_str (pa_cons (pv 2) pa_nil))) pa_nil)))))
   pss_nil)
  (pss_cons (ps_expr (pe_bm PySem.F.plainAttrs_list PySem.F.slot_list_append PySem.F.type_list_append mt_append (pv 0) (pa_cons (pe_tup (pa_cons (pv 1) (pa_cons (pv 2) pa_nil))) pa_nil)))
  (pss_one (ps_ret (pe_tup (pa_cons pe_str (pa_cons (pe_tup (pa_cons pe_str (pa_cons (pe_op op_sub (pe_callB call_len (by rfl) T.b_len PySem.boot_len (pa_cons (pv 0) pa_nil)) pe_int) pa_nil))) pa_nil))))))), ?_⟩
    rcases hk with ⟨rfl, rfl⟩ | ⟨rfl, he⟩
    · refine ⟨_, rfl, rfl, _, rfl, iteTb (by decide +kernel) ?_⟩
      refine ⟨_, rfl, sz_2, fun u hu => ⟨sz_2, fun z hz => ?_⟩⟩
      have S := (Same.new (o := .tup [.str "text", v]) hu).trans (Same.new (o := .tup [.str "ok", .ref u]) hz)
      refine k _ _ (Same.keep S) ?_ ?_
      · show ListAt K _ hp (hds ++ [])
        rw [List.append_nil]
        exact listAt_mono L S
      · exact Dt.made hz (.cons (.str _) (.cons (Dt.made hu (.cons (.str _) (.cons hd .nil))) .nil))
    · refine ⟨_, rfl, rfl, _, rfl, iteFb (by rcases he with rfl | rfl <;> decide +kernel) ?_⟩
      obtain ⟨xs, hx, ax⟩ := L
      have lx := ax.length
      refine ⟨_, rfl, .inl ⟨rfl, _, SqL.of hx⟩, _, rfl, _, rfl, sz_2, fun u hu => ⟨hp, _, _, rfl, rfl, (Same.new hu) _ _ hx, Nat.lt_of_le_of_lt (show xs.length ≤ 100 by omega) (by decide), ?_⟩⟩
      have Su := Same.new (o := .tup [.str kd, v]) hu
      have Lu : ListAt K _ hp hds := ⟨xs, Su _ _ hx, DtAll.mono Su ax⟩
      have Ku : Keep hp (upd H u (.tup [.str kd, v])) (upd (upd H u (.tup [.str kd, v])) hp (.lst (xs ++ [.ref u]))) := fun b o hb ne => by rw [upd_ne ne]; exact hb
      have Da : Dt K (upd H u (.tup [.str kd, v])) (.ref u) (.tuple [.str kd, rd]) := Dt.made hu (.cons (.str _) (.cons hd .nil))
      have L2 := listAt_app Lu (Su _ _ hx) Da
      generalize upd (upd H u (.tup [.str kd, v])) hp (.lst (xs ++ [.ref u])) = H2 at Ku L2
      have K2 := (Same.keep (p := hp) Su).trans Ku
      obtain ⟨ys, hy, ay⟩ := id L2
      have ly := ay.length
      rw [List.length_append, List.length_singleton] at ly
      refine ⟨_, rfl, _, _, rfl, .inl ⟨_, SqL.of hy, rfl⟩, _, _, rfl, rfl, sz_2, fun a ha => ⟨sz_2, fun b hb => ?_⟩⟩
      have e : ((ys.length : Nat) : Int) - 1 = ((hds.length : Nat) : Int) := by omega
      dsimp only at hb ⊢
      rw [e] at hb ⊢
      have S3 := (Same.new (o := .tup [.str "ref", .int (hds.length : Nat)]) ha).trans (Same.new (o := .tup [.str "ok", .ref a]) hb)
      refine k _ _ (K2.trans (Same.keep S3)) (listAt_mono L2 S3) ?_
      exact Dt.made hb (.cons (.str _) (.cons (Dt.made ha (.cons (.str _) (.cons (.int _) .nil))) .nil))
def spJoined (K : PySem.W.Frag) : Sp := fun vs H Q _ => ∃ (hp : Addr) (hds : List PyData) (va vb : V) (t : Bool) (kd : Str) (ra rb da db : PyData) (n m : Nat), vs = [.ref hp, va, vb] ∧ ListAt K H hp hds ∧ hds.length ≤ 100 ∧ Dt K H va da ∧ Dt K H vb db ∧
  ValIs hds t kd ra da ∧ ValIs hds t kd rb db ∧ Row t ra n ∧ Row t rb m ∧ n + m ≤ 2000 ∧ Out K H hp hds t kd (if n + m ≤ 1000 then some (catD ra rb) else none) Q
theorem ok_joined {f : Addr} {fd : FuncData} (F : Fun K "_joined" "_joined" s_joined f fd) (T : Txt K mg) (U_row_of : Use P w K mg base CX0 "row_of" 1 P_row_of (spRowOf K)) (U_row_kind : Use P w K mg base CX0 "row_kind" 2 P_row_kind (spRowKind K))
    (U_made_row : Use P w K mg base CX0 "made_row" 1 P_made_row (spMade K)) : FnG P w K mg base CX0 3 f fd P_joined (spJoined K) := by
  refine okG0 F sc_joined (fun vs H Q E h => ?_) fun cdv A outer s H vs Q E hr hg h => ?_
  · obtain ⟨hp, hds, va, vb, t, kd, ra, rb, da, db, n, m, rfl, _⟩ := h
    rfl
  · obtain ⟨hp, hds, va, vb, t, kd, ra, rb, da, db, n, m, rfl, L, hl, hda, hdb, ia, ib, wa, wb, hz, k⟩ := h
    refine ⟨_, (pss_cons (ps_set (i := 3) sc_joined.nd rfl (Or.inl rfl) (pe_use U_row_of (hr.mono (by decide)) hg rfl (pa_cons (pv 0) (pa_cons (pv 1) pa_nil))))
  (pss_cons (ps_set (i := 4) sc_joined.nd rfl (Or.inl rfl) (pe_use U_row_of (hr.mono (by decide)) hg rfl (pa_cons (pv 0) (pa_cons (pv 2) pa_nil))))
  (pss_cons (ps_if (pt_cmpR op_gt (pe_op op_add (pe_callB call_lenD' (by rfl) T.b_len PySem.boot_len (pa_cons (pv 3) pa_nil)) (pe_callB call_lenD' (by rfl) T.b_len PySem.boot_len (pa_cons (pv 4) pa_nil))) (pe_globI T.c_MOST_ENTRIES (by rfl)) (nomark _))
   (pss_one (ps_ret (pe_globT T.c_TOO_LARGE (by rfl))))
   pss_nil)
  (pss_one (ps_ret (pe_use U_made_row (hr.mono (by decide)) hg rfl (pa_cons (pv 0) (pa_cons (pe_use U_row_kind (hr.mono (by decide)) hg rfl (pa_cons (pv 0) (pa_cons (pv 1) pa_nil))) (pa_cons (pe_op op_catD (pv 3) (pv 4)) pa_nil))))))))), ?_⟩
    refine ⟨_, rfl, _, rfl, hp, hds, va, t, kd, ra, da, rfl, L, hda, ia, fun one d1 => ?_⟩
    refine ⟨_, rfl, _, rfl, hp, hds, vb, t, kd, rb, db, rfl, L, hdb, ib, fun two d2 => ?_⟩
    refine ⟨_, rfl, one, t, ra, n, rfl, wa, d1, by omega, _, rfl, two, t, rb, m, rfl, wb, d2, by omega, _, _, rfl, rfl, _, _, rfl, rfl, _, rfl, ?_⟩
    refine ite3 (fun c => ?_) fun c => ?_
    · have c := of_decide_eq_true c
      intro a' ka
      rw [if_neg (by omega)] at k
      refine k _ _ (Keep.refl _ _) ?_ (.tup (ka.sq _) (.cons (.str _) (.cons (.int _) (.cons (.str _) .nil))))
      show ListAt K H hp (hds ++ [])
      rw [List.append_nil]; exact L
    · have c := of_decide_eq_false c
      rw [if_pos (by omega)] at k
      refine ⟨_, rfl, _, rfl, _, rfl, hp, hds, va, da, kd, rfl, L, hda, .val ia, fun H1 S1 => ?_⟩
      refine ⟨_, rfl, _, rfl, t, ra, rb, n, m, wa, wb, Dt.mono S1 d1, Dt.mono S1 d2, hz, fun v H2 S2 d3 => ?_⟩
      exact ⟨hp, hds, v, t, kd, _, rfl, listAt_mono L (S1.trans S2), hl, d3, ia.kd, k.same (S1.trans S2)⟩
def repO (rd : PyData) (n : Nat) (k : Int) : Option PyData := if k < 1 ∨ n = 0 then some (noneD rd) else if n * k ≤ 1000 then some (repD rd k) else none
def spRepeated (K : PySem.W.Frag) : Sp := fun vs H Q _ => ∃ (hp : Addr) (hds : List PyData) (va : V) (t : Bool) (kd : Str) (ra da : PyData) (n : Nat) (m : Int), vs = [.ref hp, va, .int m] ∧ ListAt K H hp hds ∧ hds.length ≤ 100 ∧ Dt K H va da ∧
  ValIs hds t kd ra da ∧ Row t ra n ∧ n ≤ 1000 ∧ m.natAbs < 2 ^ 300 ∧ Out K H hp hds t kd (repO ra n m) Q
theorem ok_repeated {f : Addr} {fd : FuncData} (F : Fun K "_repeated" "_repeated" s_repeated f fd) (T : Txt K mg) (U_row_of : Use P w K mg base CX0 "row_of" 1 P_row_of (spRowOf K)) (U_row_kind : Use P w K mg base CX0 "row_kind" 2 P_row_kind (spRowKind K))
    (U_made_row : Use P w K mg base CX0 "made_row" 1 P_made_row (spMade K)) : FnG P w K mg base CX0 3 f fd P_repeated (spRepeated K) := by
  refine okG0 F sc_repeated (fun vs H Q E h => ?_) fun cdv A outer s H vs Q E hr hg h => ?_
  · obtain ⟨hp, hds, va, t, kd, ra, da, n, m, rfl, _⟩ := h
    rfl
  · obtain ⟨hp, hds, va, t, kd, ra, da, n, m, rfl, L, hl, hda, ia, wa, hn, hm, k⟩ := h
    refine ⟨_, (pss_cons (ps_set (i := 3) sc_repeated.nd rfl (Or.inl rfl) (pe_use U_row_of (hr.mono (by decide)) hg rfl (pa_cons (pv 0) (pa_cons (pv 1) pa_nil))))
  (pss_cons (ps_if (PW.pt (pw_or (pt_cmpR op_lt (pv 2) pe_int (nomark _)) (pw_or1 (pt_cmpR op_eq (pe_callB call_lenD' (by rfl) T.b_len PySem.boot_len (pa_cons (pv 3) pa_nil)) pe_int (nomark _)))))
   (pss_one (ps_ret (pe_use U_made_row (hr.mono (by decide)) hg rfl (pa_cons (pv 0) (pa_cons (pe_use U_row_kind (hr.mono (by decide)) hg rfl (pa_cons (pv 0) (pa_cons (pv 1) pa_nil))) (pa_cons (pe_slice sl_noneD (pv 3) po_none (po_some pe_int)) pa_nil))))))
   pss_nil)
  (pss_cons (ps_if (pt_cmpR op_gt (pe_op op_mulW (pe_callB call_lenD' (by rfl) T.b_len PySem.boot_len (pa_cons (pv 3) pa_nil)) (pv 2)) (pe_globI T.c_MOST_ENTRIES (by rfl)) (nomark _))
   (pss_one (ps_ret (pe_globT T.c_TOO_LARGE (by rfl))))
   pss_nil)
  (pss_one (ps_ret (pe_use U_made_row (hr.mono (by decide)) hg rfl (pa_cons (pv 0) (pa_cons (pe_use U_row_kind (hr.mono (by decide)) hg rfl (pa_cons (pv 0) (pa_cons (pv 1) pa_nil))) (pa_cons (pe_op op_repD (pv 3) (pv 2)) pa_nil))))))))), ?_⟩
    refine ⟨_, rfl, _, rfl, hp, hds, va, t, kd, ra, da, rfl, L, hda, ia, fun row d1 => ?_⟩
    refine ⟨_, rfl, _, _, rfl, rfl, _, rfl, ?_⟩
    refine ite3 (fun c => ?_) fun c => ?_
    · have c := of_decide_eq_true c
      unfold repO at k
      rw [if_pos (.inl c)] at k
      refine ⟨_, rfl, _, rfl, _, rfl, hp, hds, va, da, kd, rfl, L, hda, .val ia, fun H1 S1 => ?_⟩
      refine ⟨_, rfl, _, rfl, t, ra, n, wa, Dt.mono S1 d1, by omega, rfl, rfl, fun v H2 S2 d3 => ?_⟩
      exact ⟨hp, hds, v, t, kd, _, rfl, listAt_mono L (S1.trans S2), hl, d3, ia.kd, k.same (S1.trans S2)⟩
    have c := of_decide_eq_false c
    refine ⟨_, rfl, row, t, ra, n, rfl, wa, d1, by omega, rfl, _, rfl, ?_⟩
    refine ite3 (fun c0 => ?_) fun c0 => ?_
    · have c0 : n = 0 := by have := of_decide_eq_true c0; rw [V.int.injEq] at this; omega
      unfold repO at k
      rw [if_pos (.inr c0)] at k
      refine ⟨_, rfl, _, rfl, _, rfl, hp, hds, va, da, kd, rfl, L, hda, .val ia, fun H1 S1 => ?_⟩
      refine ⟨_, rfl, _, rfl, t, ra, n, wa, Dt.mono S1 d1, by omega, rfl, rfl, fun v H2 S2 d3 => ?_⟩
      exact ⟨hp, hds, v, t, kd, _, rfl, listAt_mono L (S1.trans S2), hl, d3, ia.kd, k.same (S1.trans S2)⟩
    have c0 : n ≠ 0 := fun e => by subst e; exact absurd c0 (by decide)
    unfold repO at k
    rw [if_neg (by omega)] at k
    refine ⟨_, rfl, row, t, ra, n, rfl, wa, d1, by omega, _, rfl, _, _, rfl, rfl, wide_mul (a := 10) (b := 300) (by omega) hm (by decide) (by decide) (by decide), _, _, rfl, rfl, _, rfl, ?_⟩
    refine ite3 (fun c2 => ?_) fun c2 => ?_
    · have c2 := of_decide_eq_true c2
      rw [if_neg (by omega)] at k
      intro a' ka
      refine k _ _ (Keep.refl _ _) ?_ (.tup (ka.sq _) (.cons (.str _) (.cons (.int _) (.cons (.str _) .nil))))
      show ListAt K H hp (hds ++ [])
      rw [List.append_nil]; exact L
    · have c2 := of_decide_eq_false c2
      rw [if_pos (by omega)] at k
      refine ⟨_, rfl, _, rfl, _, rfl, hp, hds, va, da, kd, rfl, L, hda, .val ia, fun H1 S1 => ?_⟩
      refine ⟨_, rfl, _, rfl, t, ra, n, m, wa, Dt.mono S1 d1, rfl, by omega, by omega, by omega, fun v H2 S2 d3 => ?_⟩
      exact ⟨hp, hds, v, t, kd, _, rfl, listAt_mono L (S1.trans S2), hl, d3, ia.kd, k.same (S1.trans S2)⟩
inductive BinIs (hds : List PyData) : Str → PyData → PyData → Bool → Str → Option PyData → Prop
  | add {da db ra rb : PyData} {t : Bool} {kd : Str} {n m : Nat} : ValIs hds t kd ra da → ValIs hds t kd rb db → Row t ra n → Row t rb m → n ≤ 1000 → m ≤ 1000 → BinIs hds "+" da db t kd (if n + m ≤ 1000 then some (catD ra rb) else none)
  | mulR {da db ra : PyData} {t : Bool} {kd : Str} {n : Nat} {m : Int} : ValIs hds t kd ra da → NumIs m db → Row t ra n → n ≤ 1000 → m.natAbs < 2 ^ 300 → BinIs hds "*" da db t kd (repO ra n m)
  | mulL {da db rb : PyData} {t : Bool} {kd : Str} {n : Nat} {m : Int} : NumIs m da → ValIs hds t kd rb db → Row t rb n → n ≤ 1000 → m.natAbs < 2 ^ 300 → BinIs hds "*" da db t kd (repO rb n m)
/-- what is_number is asked for: the word ahead -/
theorem ValIs.word {hds : List PyData} {t : Bool} {kd : Str} {rd d : PyData} (h : ValIs hds t kd rd d) : ∃ z rest, d = .tuple (.str z :: rest) ∧ inV (V.str z) [V.str "int", V.str "bool"] = false := by
  cases h with
  | txt => exact ⟨_, _, rfl, by decide +kernel⟩
  | obj _ _ => exact ⟨_, _, rfl, by decide +kernel⟩
theorem NumIs.word {n : Int} {d : PyData} (h : NumIs n d) : ∃ z rest, d = .tuple (.str z :: rest) ∧ inV (V.str z) [V.str "int", V.str "bool"] = true := by
  cases h with
  | int => exact ⟨_, _, rfl, by decide +kernel⟩
  | one => exact ⟨_, _, rfl, by decide +kernel⟩
theorem KdIs.some {t : Bool} {kd : Str} (h : KdIs t kd) : decide (V.str kd = V.str "") = false := by
  rcases h with ⟨_, rfl⟩ | ⟨_, rfl | rfl⟩ <;> decide +kernel
def spBinary (K : PySem.W.Frag) : Sp := fun vs H Q _ => ∃ (hp : Addr) (hds : List PyData) (va vb : V) (op : Str) (da db : PyData) (t : Bool) (kd : Str) (o : Option PyData), vs = [.ref hp, .str op, va, vb] ∧ ListAt K H hp hds ∧ hds.length ≤ 100 ∧ Dt K H va da ∧ Dt K H vb db ∧
  BinIs hds op da db t kd o ∧ Out K H hp hds t kd o Q
theorem ok_binary {f : Addr} {fd : FuncData} (F : Fun K "binary" "binary" s_binary f fd) (T : Txt K mg) (U_is_number : Use P w K mg base CX0 "is_number" 1 P_is_number (spIsNum K)) (U_row_kind : Use P w K mg base CX0 "row_kind" 2 P_row_kind (spRowKind K))
    (U_joined : Use P w K mg base CX0 "_joined" 3 P_joined (spJoined K)) (U_repeated : Use P w K mg base CX0 "_repeated" 3 P_repeated (spRepeated K)) : FnG P w K mg base CX0 4 f fd P_binary (spBinary K) := by
  refine okG0 F sc_binary (fun vs H Q E h => ?_) fun cdv A outer s H vs Q E hr hg h => ?_
  · obtain ⟨hp, hds, va, vb, op, da, db, t, kd, o, rfl, _⟩ := h
    rfl
  · obtain ⟨hp, hds, va, vb, op, da, db, t, kd, o, rfl, L, hl, hda, hdb, hb, k⟩ := h
    refine ⟨_, (pss_cons (ps_if (PW.pt (pw_and (pt_val (pe_use U_is_number (hr.mono (by decide)) hg rfl (pa_cons (pv 2) pa_nil))) (pw_and1 (pt_val (pe_use U_is_number (hr.mono (by decide)) hg rfl (pa_cons (pv 3) pa_nil))))))
   pss_never
   pss_nil)
  (pss_cons (ps_if (PW.pt (pw_and (pt_cmpR op_eq (pv 1) pe_str (nomark _)) (pw_and (pt_cmpR op_ne (pe_use U_row_kind (hr.mono (by decide)) hg rfl (pa_cons (pv 0) (pa_cons (pv 2) pa_nil))) pe_str (nomark _)) (pw_and1 (pt_cmpR op_eq (pe_use U_row_kind (hr.mono (by decide)) hg rfl (pa_cons (pv 0) (pa_cons (pv 2) pa_nil))) (pe_use U_row_kind (hr.mono (by decide)) hg rfl (pa_cons (pv 0) (pa_cons (pv 3) pa_nil))) (nomark _))))))
   (pss_one (ps_ret (pe_use U_joined (hr.mono (by decide)) hg rfl (pa_cons (pv 0) (pa_cons (pv 2) (pa_cons (pv 3) pa_nil))))))
   pss_nil)
  (pss_cons (ps_if (PW.pt (pw_and (pt_cmpR op_eq (pv 1) pe_str (nomark _)) (pw_and (pt_cmpR op_ne (pe_use U_row_kind (hr.mono (by decide)) hg rfl (pa_cons (pv 0) (pa_cons (pv 2) pa_nil))) pe_str (nomark _)) (pw_and1 (pt_val (pe_use U_is_number (hr.mono (by decide)) hg rfl (pa_cons (pv 3) pa_nil)))))))
   (pss_one (ps_ret (pe_use U_repeated (hr.mono (by decide)) hg rfl (pa_cons (pv 0) (pa_cons (pv 2) (pa_cons (pe_callTy call_int1 (by rfl) T.b_int (by decide +kernel) (pa_cons (pe_ix ix_tup (pv 3) pe_int (fun _ _ => rfl)) pa_nil)) pa_nil))))))
   pss_nil)
  (pss_cons (ps_if (PW.pt (pw_and (pt_cmpR op_eq (pv 1) pe_str (nomark _)) (pw_and (pt_cmpR op_ne (pe_use U_row_kind (hr.mono (by decide)) hg rfl (pa_cons (pv 0) (pa_cons (pv 3) pa_nil))) pe_str (nomark _)) (pw_and1 (pt_val (pe_use U_is_number (hr.mono (by decide)) hg rfl (pa_cons (pv 2) pa_nil)))))))
   (pss_one (ps_ret (pe_use U_repeated (hr.mono (by decide)) hg rfl (pa_cons (pv 0) (pa_cons (pv 3) (pa_cons (pe_callTy call_int1 (by rfl) T.b_int (by decide +kernel) (pa_cons (pe_ix ix_tup (pv 2) pe_int (fun _ _ => rfl)) pa_nil)) pa_nil))))))
   pss_nil)
  pss_never)))), ?_⟩
    cases hb with
    | @add _ _ ra rb _ _ n m ia ib wa wb hn hm =>
      obtain ⟨z, rest, e, hz⟩ := ia.word
      refine ⟨_, rfl, va, z, rest, rfl, e ▸ hda, fun H1 S1 => ⟨_, rfl, iteFb hz ?_⟩⟩
      refine ⟨_, rfl, rfl, _, rfl, iteTb (by decide +kernel) ?_⟩
      refine ⟨_, rfl, _, rfl, hp, hds, va, da, kd, rfl, listAt_mono L S1, Dt.mono S1 hda, .val ia, fun H2 S2 => ?_⟩
      have S12 := S1.trans S2
      refine ⟨rfl, _, rfl, iteTb (by rw [ia.kd.some]; rfl) ?_⟩
      refine ⟨_, rfl, _, rfl, hp, hds, va, da, kd, rfl, listAt_mono L S12, Dt.mono S12 hda, .val ia, fun H3 S3 => ?_⟩
      have S13 := S12.trans S3
      refine ⟨_, rfl, _, rfl, hp, hds, vb, db, kd, rfl, listAt_mono L S13, Dt.mono S13 hdb, .val ib, fun H4 S4 => ?_⟩
      have S14 := S13.trans S4
      refine ⟨rfl, _, rfl, iteTb (decide_eq_true rfl) ?_⟩
      exact ⟨_, rfl, _, rfl, _, rfl, hp, hds, va, vb, t, kd, ra, rb, da, db, n, m, rfl, listAt_mono L S14, hl, Dt.mono S14 hda, Dt.mono S14 hdb, ia, ib, wa, wb, by omega, k.same S14⟩
    | @mulR _ _ ra _ _ n m ia ib wa hn hm =>
      obtain ⟨z, rest, e, hz⟩ := ia.word
      refine ⟨_, rfl, va, z, rest, rfl, e ▸ hda, fun H1 S1 => ⟨_, rfl, iteFb hz ?_⟩⟩
      refine ⟨_, rfl, rfl, _, rfl, iteFb (by decide +kernel) ?_⟩
      refine ⟨_, rfl, rfl, _, rfl, iteTb (by decide +kernel) ?_⟩
      refine ⟨_, rfl, _, rfl, hp, hds, va, da, kd, rfl, listAt_mono L S1, Dt.mono S1 hda, .val ia, fun H2 S2 => ?_⟩
      have S12 := S1.trans S2
      refine ⟨rfl, _, rfl, iteTb (by rw [ia.kd.some]; rfl) ?_⟩
      obtain ⟨z2, rest2, e2, hz2⟩ := ib.word
      refine ⟨_, rfl, vb, z2, rest2, rfl, e2 ▸ Dt.mono S12 hdb, fun H3 S3 => ⟨_, rfl, iteTb hz2 ?_⟩⟩
      have S13 := S12.trans S3
      cases ib with
      | int =>
        obtain ⟨q, y, rfl, hs, h1⟩ := hdb.pair
        cases h1.int_inv
        exact ⟨_, rfl, _, rfl, _, rfl, q, _, _, _, rfl, rfl, Same.tupl S13 hs, at1, .inl ⟨m, rfl, hp, hds, va, t, kd, ra, da, n, m, rfl, listAt_mono L S13, hl, Dt.mono S13 hda, ia, wa, hn, hm, k.same S13⟩⟩
      | one =>
        obtain ⟨q, y, rfl, hs, h1⟩ := hdb.pair
        cases h1.bool_inv
        exact ⟨_, rfl, _, rfl, _, rfl, q, _, _, _, rfl, rfl, Same.tupl S13 hs, at1, .inr ⟨true, rfl, hp, hds, va, t, kd, ra, da, n, 1, rfl, listAt_mono L S13, hl, Dt.mono S13 hda, ia, wa, hn, hm, k.same S13⟩⟩
    | @mulL _ _ rb _ _ n m ia ib wb hn hm =>
      obtain ⟨z, rest, e, hz⟩ := ia.word
      refine ⟨_, rfl, va, z, rest, rfl, e ▸ hda, fun H1 S1 => ⟨_, rfl, iteTb hz ?_⟩⟩
      obtain ⟨z2, rest2, e2, hz2⟩ := ib.word
      refine ⟨_, rfl, vb, z2, rest2, rfl, e2 ▸ Dt.mono S1 hdb, fun H2 S2 => ⟨_, rfl, iteFb hz2 ?_⟩⟩
      have S12 := S1.trans S2
      refine ⟨_, rfl, rfl, _, rfl, iteFb (by decide +kernel) ?_⟩
      refine ⟨_, rfl, rfl, _, rfl, iteTb (by decide +kernel) ?_⟩
      refine ⟨_, rfl, _, rfl, hp, hds, va, da, _, rfl, listAt_mono L S12, Dt.mono S12 hda, .num ia, fun H3 S3 => ?_⟩
      have S13 := S12.trans S3
      refine ⟨rfl, _, rfl, iteFb (by decide +kernel) ?_⟩
      refine ⟨_, rfl, rfl, _, rfl, iteTb (by decide +kernel) ?_⟩
      refine ⟨_, rfl, _, rfl, hp, hds, vb, db, kd, rfl, listAt_mono L S13, Dt.mono S13 hdb, .val ib, fun H4 S4 => ?_⟩
      have S14 := S13.trans S4
      refine ⟨rfl, _, rfl, iteTb (by rw [ib.kd.some]; rfl) ?_⟩
      refine ⟨_, rfl, va, z, rest, rfl, e ▸ Dt.mono S14 hda, fun H5 S5 => ⟨_, rfl, iteTb hz ?_⟩⟩
      have S15 := S14.trans S5
      cases ia with
      | int =>
        obtain ⟨q, y, rfl, hs, h1⟩ := hda.pair
        cases h1.int_inv
        exact ⟨_, rfl, _, rfl, _, rfl, q, _, _, _, rfl, rfl, Same.tupl S15 hs, at1, .inl ⟨m, rfl, hp, hds, vb, t, kd, rb, db, n, m, rfl, listAt_mono L S15, hl, Dt.mono S15 hdb, ib, wb, hn, hm, k.same S15⟩⟩
      | one =>
        obtain ⟨q, y, rfl, hs, h1⟩ := hda.pair
        cases h1.bool_inv
        exact ⟨_, rfl, _, rfl, _, rfl, q, _, _, _, rfl, rfl, Same.tupl S15 hs, at1, .inr ⟨true, rfl, hp, hds, vb, t, kd, rb, db, n, 1, rfl, listAt_mono L S15, hl, Dt.mono S15 hdb, ib, wb, hn, hm, k.same S15⟩⟩
/-! the law -/
def spLawRow (K : PySem.W.Frag) : Sp := fun vs H Q _ => ∃ (p dl : Addr) (t : Bool) (kd : Str), vs = [.ref p, .str kd] ∧ BoxAt H p dl ∧ KdIs t kd ∧ ∀ v H' d n, Row t d n → n ≤ 1000 → Dt K H' v d → BoxAt H' p dl → Keep p H H' → Q v H'
theorem ok_lawrow {f : Addr} {fd : FuncData} (F : Fun K "_law_row" "_law_row" s_law_row f fd) (T : Txt K mg) (U_law_draw : Use P w K mg base CX0 "_law_draw" 1 P_law_draw (spDraw K)) : FnG P w K mg base CX0 2 f fd P_law_row (spLawRow K) := by
  refine okG0 F sc_law_row (fun vs H Q E h => ?_) fun cdv A outer s H vs Q E hr hg h => ?_
  · obtain ⟨p, dl, t, kd, rfl, _⟩ := h
    rfl
  · obtain ⟨p, dl, t, kd, rfl, B, hk, k⟩ := h
    refine ⟨_, (pss_cons (ps_set (i := 2) sc_law_row.nd rfl (Or.inl rfl) (pe_ix ix_list (pe_lst (pa_cons (pe_use U_law_draw (hr.mono (by decide)) hg rfl (pa_cons (pv 0) (pa_cons pe_int pa_nil))) (pa_cons (pe_op op_add pe_int (pe_use U_law_draw (hr.mono (by decide)) hg rfl (pa_cons (pv 0) (pa_cons pe_int pa_nil)))) (pa_cons pe_int (pa_cons pe_int (pa_cons pe_int pa_nil)))))) (pe_op op_mulW (pe_use U_law_draw (hr.mono (by decide)) hg rfl (pa_cons (pv 0) (pa_cons pe_int pa_nil))) (pe_callTy call_int1 (by rfl) T.b_int (by decide +kernel) (pa_cons (pe_cmpR op_eq (pe_use U_law_draw (hr.mono (by decide)) hg rfl (pa_cons (pv 0) (pa_cons pe_int pa_nil))) pe_int (nomark _)) pa_nil))) (fun _ _ => rfl)))
  (pss_cons (ps_if (pt_cmpR op_eq (pv 1) pe_str (nomark _))
   (pss_one (ps_ret (pe_slice sl_str (pe_op op_rep_str pe_str (pv 2)) po_none (po_some (pv 2)))))
   pss_nil)
  (pss_cons (ps_set (i := 3) sc_law_row.nd rfl (Or.inl rfl) (pe_lst pa_nil))
  (pss_cons (ps_for PassesOwn.never rfl (pi_range1 (by rfl) T.b_range (pa_cons (pv 2) pa_nil)) (pg_name (i := 4) sc_law_row.nd rfl (Or.inl rfl))
   (pss_one (ps_expr (pe_bm PySem.F.plainAttrs_list PySem.F.slot_list_append PySem.F.type_list_append mt_append (pv 3) (pa_cons (pe_tup (pa_cons pe_str (pa_cons (pe_op op_mod (pe_callTy call_int1 (by rfl) T.b_int (by decide +kernel) (pa_cons (pe_op op_add (pe_op op_mulW (pv 4) (pv 4)) (pe_use U_law_draw (hr.mono (by decide)) hg rfl (pa_cons (pv 0) (pa_cons pe_int pa_nil)))) pa_nil)) pe_int) pa_nil))) pa_nil)))))
  (pss_one (ps_ret (pe_callTy call_tuple_of (by rfl) T.b_tuple (by decide +kernel) (pa_cons (pv 3) pa_nil)))))))), ?_⟩
    refine ⟨_, rfl, p, dl, 9, rfl, B, by decide, fun r1 H1 a0 a1 B1 K1 => ?_⟩
    refine ⟨_, rfl, p, dl, 4, rfl, B1, by decide, fun r2 H2 b0 b1 B2 K2 => ?_⟩
    refine ⟨_, _, rfl, rfl, sz_5, fun l hl => ?_⟩
    dsimp only
    have Bl := B2.same (Same.new (o := .lst [.int r1, .int (499 + r2), .int 1000, .int 0, .int 1]) hl)
    have Kl := (K1.trans K2).trans (Same.keep (p := p) (Same.new (o := .lst [.int r1, .int (499 + r2), .int 1000, .int 0, .int 1]) hl))
    have el := upd_same (H := H2) (a := l) (o := HO.lst [.int r1, .int (499 + r2), .int 1000, .int 0, .int 1])
    have np : l ≠ p := fun e => by subst e; obtain ⟨_, z⟩ := B2.at_; rw [hl] at z; cases z
    generalize upd H2 l _ = H3 at Bl Kl el
    refine ⟨_, rfl, p, dl, 5, rfl, Bl, by decide, fun r3 H4 c0 c1 B4 K4 => ?_⟩
    refine ⟨_, rfl, p, dl, 3, rfl, B4, by decide, fun r4 H5 d0 d1 B5 K5 => ⟨rfl, .inr ⟨_, rfl, ?_⟩⟩⟩
    have K45 := K4.trans K5
    have el5 := K45 _ _ el np
    have Ka := Kl.trans K45
    obtain ⟨m, hm, hm1⟩ : ∃ m : Nat, atI [V.int r1, V.int (499 + r2), V.int 1000, V.int 0, V.int 1] (r3 * (if decide (V.int r4 = V.int 0) = true then 1 else 0)) = some (.int (m : Int)) ∧ m ≤ 1000 := by
      have key : ∀ x : Int, 0 ≤ x → x < 5 → ∃ m : Nat, atI [V.int r1, V.int (499 + r2), V.int 1000, V.int 0, V.int 1] x = some (.int (m : Int)) ∧ m ≤ 1000 := by
        intro x h0 h1
        obtain ⟨j, rfl⟩ := Int.eq_ofNat_of_zero_le h0
        match j, h1 with
        | 0, _ => exact ⟨r1.toNat, by rw [Int.toNat_of_nonneg a0]; exact at_of' (j := 0) rfl rfl, by omega⟩
        | 1, _ => exact ⟨(499 + r2).toNat, by rw [Int.toNat_of_nonneg (by omega)]; exact at_of' (j := 1) rfl rfl, by omega⟩
        | 2, _ => exact ⟨1000, at_of' (j := 2) rfl rfl, by omega⟩
        | 3, _ => exact ⟨0, at_of' (j := 3) rfl rfl, by omega⟩
        | 4, _ => exact ⟨1, at_of' (j := 4) rfl rfl, by omega⟩
        | j + 5, h => omega
      split
      · rw [Int.mul_one]; exact key _ c0 c1
      · rw [Int.mul_zero]; exact key _ (by decide) (by decide)
    refine ⟨_, _, rfl, rfl, wide_mul (a := 4) (b := 2) (by omega) (by split <;> decide) (by decide) (by decide) (by decide), l, _, _, _, rfl, rfl, SqL.of el5, hm, ?_⟩
    -- kind == "text"
    refine ⟨_, rfl, rfl, _, rfl, ?_⟩
    rcases hk with ⟨rfl, rfl⟩ | ⟨rfl, he⟩
    · refine iteTb (by decide +kernel) ?_
      refine ⟨_, rfl, _, _, rfl, rfl, by omega, by omega, ?_, ?_⟩
      · have : (("abc d" : Str).length : Nat) = 5 := by decide +kernel
        rw [this, Int.toNat_natCast]; omega
      have low : Low (cutS (repS "abc d" (m : Int)) none (some (m : Int))) := Low.cut (Low.rep (fun c hc => by
        have : ∀ c ∈ ("abc d" : Str).cps.toList, c < 128 := by decide +kernel
        exact this c hc) _) _ _
      have len := cut_to (repS "abc d" (m : Int)) m
      refine ⟨_, rfl, _, rfl, _, rfl, ?_, ?_⟩
      · have : (("abc d" : Str).length : Nat) = 5 := by decide +kernel
        rw [len_rep, this, Int.toNat_natCast]
        exact Nat.le_trans (show 5 * m ≤ 5000 by omega) (by decide)
      · exact k _ _ _ _ (.txt rfl low) (by omega) (.str _) B5 Ka
    · refine iteFb (by rcases he with rfl | rfl <;> decide +kernel) ?_
      refine ⟨sz_0, fun li hli => ?_⟩
      have npi : li ≠ p := fun e => by subst e; obtain ⟨_, z⟩ := B5.at_; rw [hli] at z; cases z
      have ndi : li ≠ dl := fun e => by subst e; obtain ⟨_, z⟩ := B5.dg; rw [hli] at z; cases z
      have L0 : ListAt K (upd H5 li (.lst [])) li [] := ⟨[], upd_same, .nil⟩
      have B6 := B5.same (Same.new (o := .lst []) hli)
      have K6 := Keep.trans (Keep.refl p H5) (Same.keep (p := p) (Same.new (o := .lst []) hli))
      generalize upd H5 li (.lst []) = H6 at L0 B6 K6
      refine ⟨_, rfl, _, rfl, by omega, by omega, ?_⟩
      refine for_range (lo := 0) (n := m) (fun i σ H7 => ∃ (x4 : Option V) (ds : List PyData), σ = [some (.ref p), some (.str kd), some (.int (m : Int)), some (.ref li), x4] ∧ ListAt K H7 li ds ∧ ds.length = i ∧ (∀ d ∈ ds, Item d) ∧ BoxAt H7 p dl ∧ Keep p H5 H7) ?_ ?_ ?_
      · exact ⟨none, [], rfl, L0, rfl, (fun d hd => by cases hd), B6, K6⟩
      · rintro i σ H7 hi ⟨x4, ds, rfl, L7, hl7, it7, B7, K7⟩
        obtain ⟨xs, hx, ax⟩ := id L7
        refine ⟨_, rfl, .inl ⟨rfl, _, SqL.of hx⟩, _, rfl, _, rfl, _, _, rfl, rfl, wide_mul (a := 20) (b := 20) (by omega) (by omega) (by decide) (by decide) (by decide), ?_⟩
        refine ⟨_, rfl, p, dl, 3, rfl, B7, by decide, fun r H8 e0 e1 B8 K8 => ?_⟩
        refine ⟨_, _, rfl, rfl, .inl ⟨_, rfl, _, _, rfl, rfl, (by show (0 : Int) < 11; decide), sz_2, fun u hu => ?_⟩⟩
        dsimp only at hu ⊢
        have S8 := Same.new (o := .tup [.str "int", .int (((0 + (i : Int)) * (0 + (i : Int)) + r) % 11)]) hu
        have L8 := listAt_mono (listAt_keep L7 K8 npi B7.at_) S8
        have x8 := S8 _ _ (K8 _ _ hx npi)
        refine ⟨li, _, _, rfl, rfl, x8, ?_, ?_⟩
        · have := ax.length
          exact Nat.lt_of_le_of_lt (show xs.length ≤ 1000 by omega) (by decide)
        · refine ⟨_, ds ++ [.tuple [.str "int", .int (((0 + (i : Int)) * (0 + (i : Int)) + r) % 11)]], rfl, listAt_app L8 x8 (Dt.made hu (.cons (.str _) (.cons (.int _) .nil))), by simp; omega, fun d hd => ?_, BoxAt.upd (B8.same S8) npi ndi, fun b o h ne => ?_⟩
          · rcases List.mem_append.mp hd with hd | hd
            · exact it7 d hd
            · exact ⟨_, List.mem_singleton.mp hd, Int.emod_nonneg _ (by decide), Int.emod_lt_of_pos _ (by decide)⟩
          · rw [upd_ne (ne_of_none h hli)]
            exact (K7.trans (K8.trans (Same.keep S8))) b o h ne
      · rintro σ H7 ⟨x4, ds, rfl, L7, hl7, it7, B7, K7⟩
        obtain ⟨xs, hx, ax⟩ := id L7
        refine ⟨_, rfl, li, _, rfl, .inl ⟨SqL.of hx, fun z hz => ?_⟩⟩
        exact k _ _ _ _ (.tup hl7 it7) hm1 (Dt.made hz ax) (B7.same (Same.new hz)) (Ka.trans (K7.trans (Same.keep (Same.new hz))))
theorem cutV_to (xs : List V) (n : Nat) : cutV xs none (some (n : Int)) = xs.take n := by
  unfold cutV
  rw [HT.sIx_nat]
  show (xs.drop 0).take (min n xs.length - 0) = _
  rw [List.drop_zero, Nat.sub_zero]
  exact List.take_eq_take_min.symm
theorem dtTake {K : PySem.W.Frag} {H : Hp} : ∀ {xs : List V} {ds : List PyData} (n : Nat), DtAll K H xs ds → DtAll K H (xs.take n) (ds.take n)
  | _, _, 0, _ => .nil
  | _, _, _ + 1, .nil => .nil
  | _, _, n + 1, .cons h t => .cons h (dtTake n t)
def DueIs (K : PySem.W.Frag) (H : Hp) (v : V) (t : Bool) : Option PyData → Prop
  | none => v = .non
  | some rd => Dt K H v rd ∧ ∃ n, Row t rd n ∧ n ≤ 1000
def spLawGood (K : PySem.W.Frag) : Sp := fun vs H Q _ => ∃ (hp kp : Addr) (kds : List PyData) (va vd : V) (t : Bool) (kd : Str) (o : Option PyData), vs = [.ref hp, .ref kp, .str kd, va, vd] ∧ KdIs t kd ∧ ListAt K H hp (kds ++ resL t kd o) ∧ ListAt K H kp kds ∧ kds.length ≤ 10 ∧
  ShowOk (.list kds) ∧ SeqAt.shaped (.list kds) = true ∧ Dt K H va (resR kds.length t o) ∧ DueIs K H vd t o ∧ ∀ H', Same H H' → Q (.bl true) H'
theorem ok_lawgood {f : Addr} {fd : FuncData} (F : Fun K "_law_good" "_law_good" s_law_good f fd) (T : Txt K mg) (U_law_same : Use P w K mg base CX0 "_law_same" 1 P_law_same (spSame K)) : FnG P w K mg base CX0 2 f fd P_law_good (spLawGood K) := by
  refine okG0 F sc_law_good (fun vs H Q E h => ?_) fun cdv A outer s H vs Q E hr hg h => ?_
  · obtain ⟨hp, kp, kds, va, vd, t, kd, o, rfl, _⟩ := h
    rfl
  · obtain ⟨hp, kp, kds, va, vd, t, kd, o, rfl, hk, ⟨xs, hx, ax⟩, ⟨ys, hy, ay⟩, hl, hs, hsh, da, du, k⟩ := h
    refine ⟨_, (pss_cons (ps_if (PW.pt (pw_or (pt_cmpR (op_neD hr.units) (pe_slice sl_list (pv 0) po_none (po_some (pe_callB call_len (by rfl) T.b_len PySem.boot_len (pa_cons (pv 1) pa_nil)))) (pv 1) (nomark _)) (pw_or1 (pt_cmpR op_ne (pe_callB (call_repr_data hg hr.units) (by rfl) T.b_repr (by decide +kernel) (pa_cons (pe_slice sl_list (pv 0) po_none (po_some (pe_callB call_len (by rfl) T.b_len PySem.boot_len (pa_cons (pv 1) pa_nil)))) pa_nil)) (pe_callB (call_repr_data hg hr.units) (by rfl) T.b_repr (by decide +kernel) (pa_cons (pv 1) pa_nil)) (nomark _)))))
   (pss_one (ps_ret pe_bl))
   pss_nil)
  (pss_cons (ps_if (pt_cmpR op_isN (pv 4) pe_non (nomark _))
   (pss_one (ps_ret (pe_and (pe_use U_law_same (hr.mono (by decide)) hg rfl (pa_cons (pv 3) (pa_cons (pe_tup (pa_cons pe_str (pa_cons pe_int (pa_cons pe_str pa_nil)))) pa_nil))) (pe_one (pe_cmpR op_eq (pe_callB call_len (by rfl) T.b_len PySem.boot_len (pa_cons (pv 0) pa_nil)) (pe_callB call_len (by rfl) T.b_len PySem.boot_len (pa_cons (pv 1) pa_nil)) (nomark _))))))
   pss_nil)
  (pss_cons (ps_if (pt_cmpR op_eq (pv 2) pe_str (nomark _))
   (pss_one (ps_ret (pe_and (pe_use U_law_same (hr.mono (by decide)) hg rfl (pa_cons (pv 3) (pa_cons (pe_tup (pa_cons pe_str (pa_cons (pe_tup (pa_cons pe_str (pa_cons (pv 4) pa_nil))) pa_nil))) pa_nil))) (pe_one (pe_cmpR op_eq (pe_callB call_len (by rfl) T.b_len PySem.boot_len (pa_cons (pv 0) pa_nil)) (pe_callB call_len (by rfl) T.b_len PySem.boot_len (pa_cons (pv 1) pa_nil)) (nomark _))))))
   pss_nil)
  (pss_cons (ps_if (PW.pt (pw_or (pt_not (pt_val (pe_callB call_isi (by rfl) T.b_isinstance (by decide +kernel) (pa_cons (pv 3) (pa_cons (pe_bltn (v := .ty "tuple") (by rfl) T.b_tuple (by decide +kernel) rfl) pa_nil))))) (pw_or (pt_cmpR op_ne (pe_callB call_len (by rfl) T.b_len PySem.boot_len (pa_cons (pv 3) pa_nil)) pe_int (nomark _)) (pw_or (pt_cmpR op_ne (pe_ix ix_tup (pv 3) pe_int (fun _ _ => rfl)) pe_str (nomark _)) (pw_or1 (pt_cmpR op_ne (pe_ix ix_tup (pe_ix ix_tup (pv 3) pe_int (fun _ _ => rfl)) pe_int (fun _ _ => rfl)) pe_str (nomark _)))))))
   (pss_one (ps_ret pe_bl))
   pss_nil)
  (pss_cons (ps_set (i := 5) sc_law_good.nd rfl (Or.inl rfl) (pe_ix ix_tup (pe_ix ix_tup (pv 3) pe_int (fun _ _ => rfl)) pe_int (fun _ _ => rfl)))
  (pss_one (ps_ret (pe_and (pe_chain op_le op_lt (pe_callB call_len (by rfl) T.b_len PySem.boot_len (pa_cons (pv 1) pa_nil)) (pv 5) (pe_callB call_len (by rfl) T.b_len PySem.boot_len (pa_cons (pv 0) pa_nil))) (pe_one (pe_use U_law_same (hr.mono (by decide)) hg rfl (pa_cons (pe_ix ix_list (pv 0) (pv 5) (fun _ _ => rfl)) (pa_cons (pe_tup (pa_cons (pv 2) (pa_cons (pv 4) pa_nil))) pa_nil)))))))))))), ?_⟩
    have lx := ax.length
    have ly := ay.length
    have at1 : DtAll K H (cutV xs none (some (ys.length : Int))) kds := by
      rw [cutV_to, ly]
      have := dtTake kds.length ax
      rwa [List.take_append_of_le_length (Nat.le_refl _), List.take_length] at this
    have ev : PyData.eqv (.list kds) (.list kds) = true := eqv_self (SeqAt.canLay_of_shaped hsh)
    refine ⟨_, rfl, _, rfl, _, _, rfl, .inl ⟨_, SqL.of hy, rfl⟩, _, rfl, hp, _, rfl, SqL.of hx, fun z hz => ?_⟩
    have Sz := Same.new (o := .lst (cutV xs none (some (ys.length : Int)))) hz
    refine ⟨_, rfl, .list kds, .list kds, .lst (SqL.of upd_same) (DpAll.mono Sz at1.dp), .lst (SqL.of (Sz _ _ hy)) (DpAll.mono Sz ay.dp), hsh, hsh, _, rfl, iteFb (by rw [ev]; rfl) ?_⟩
    refine ⟨_, rfl, _, rfl, _, _, rfl, .inl ⟨_, SqL.of (Sz _ _ hy), rfl⟩, _, rfl, hp, _, rfl, SqL.of (Sz _ _ hx), fun z2 hz2 => ?_⟩
    have S2 := Same.new (o := .lst (cutV xs none (some (ys.length : Int)))) hz2
    have Sz2 := Sz.trans S2
    refine ⟨_, .list kds, rfl, .lst (SqL.of upd_same) (DpAll.mono Sz2 at1.dp), hs, _, rfl, _, .list kds, rfl, .lst (SqL.of (Sz2 _ _ hy)) (DpAll.mono Sz2 ay.dp), hs, rfl, _, rfl, iteFb (by rw [decide_eq_true rfl]; rfl) ?_⟩
    have hx := Sz2 _ _ hx
    have hy := Sz2 _ _ hy
    have da := Dt.mono Sz2 da
    have ax := DtAll.mono Sz2 ax
    generalize upd (upd H z _) z2 _ = H2 at hx hy da Sz2 ax
    cases o with
    | none =>
      obtain rfl : vd = V.non := du
      refine ⟨_, rfl, rfl, _, rfl, iteTb (decide_eq_true rfl) ?_⟩
      refine ⟨_, rfl, sz_3, fun u hu => ?_⟩
      have Su := Same.new (o := .tup [.str "raise", .int 15, .str "too large"]) hu
      refine ⟨_, _, bigD, rfl, (Dt.mono Su da).dp, Dp.made hu (.cons (.str _) (.cons (.int _) (.cons (.str _) .nil))), ?_, true, rfl, iteTb rfl ?_⟩
      · exact (Sm.tup (.cons (Sm.short (n := "raise") (by decide +kernel)) (.cons (Sm.int (by decide)) (.cons (Sm.short (n := "too large") (by decide +kernel)) .nil)))).show (by decide) (by decide)
      · refine ⟨_, rfl, _, _, rfl, .inl ⟨_, SqL.of (Su _ _ hx), rfl⟩, _, rfl, _, _, rfl, .inl ⟨_, SqL.of (Su _ _ hy), rfl⟩, rfl, ?_⟩
        have e : xs.length = ys.length := by rw [lx, ly]; show (kds ++ []).length = _; rw [List.append_nil]
        rw [decide_eq_true (by rw [e])]
        exact k _ (Sz2.trans Su)
    | some rd =>
      obtain ⟨dd, n, wr, hn⟩ := du
      have dd := Dt.mono Sz2 dd
      have nn : vd ≠ V.non := fun e => by subst e; cases dd; cases wr
      refine ⟨_, rfl, rfl, _, rfl, iteFb (decide_eq_false nn) ?_⟩
      rcases hk with ⟨rfl, rfl⟩ | ⟨rfl, he⟩
      · refine ⟨_, rfl, rfl, _, rfl, iteTb (by decide +kernel) ?_⟩
        refine ⟨_, rfl, _, rfl, sz_2, fun u hu => ⟨sz_2, fun u2 hu2 => ?_⟩⟩
        have Su := (Same.new (o := .tup [.str "text", vd]) hu).trans (Same.new (o := .tup [.str "ok", .ref u]) hu2)
        refine ⟨_, _, okD (.tuple [.str "text", rd]), rfl, (Dt.mono Su da).dp, (Dt.made hu2 (.cons (.str _) (.cons (Dt.made hu (.cons (.str _) (.cons dd .nil))) .nil))).dp, ?_, true, rfl, iteTb rfl ?_⟩
        · exact (Sm.tup (.cons (Sm.short (n := "ok") (by decide +kernel)) (.cons (Sm.tup (.cons (Sm.short (n := "text") (by decide +kernel)) (.cons (wr.sm hn) .nil))) .nil))).show (by decide) (by decide)
        · refine ⟨_, rfl, _, _, rfl, .inl ⟨_, SqL.of (Su _ _ hx), rfl⟩, _, rfl, _, _, rfl, .inl ⟨_, SqL.of (Su _ _ hy), rfl⟩, rfl, ?_⟩
          have e : xs.length = ys.length := by rw [lx, ly]; show (kds ++ []).length = _; rw [List.append_nil]
          rw [decide_eq_true (by rw [e])]
          exact k _ (Sz2.trans Su)
      · refine ⟨_, rfl, rfl, _, rfl, iteFb (by rcases he with rfl | rfl <;> decide +kernel) ?_⟩
        obtain ⟨q, x, rfl, hq, d1⟩ := (show Dt K H2 va (.tuple [.str "ok", .tuple [.str "ref", .int (kds.length : Nat)]]) from da).pair
        obtain ⟨q2, x2, rfl, hq2, d2⟩ := d1.pair
        cases d2.int_inv
        refine ⟨_, rfl, _, _, _, _, true, rfl, .ty _, SqT.tyX hq, if_pos (beq_self_eq_true _), ?_⟩
        refine ⟨_, rfl, iteFb rfl ?_⟩
        refine ⟨_, rfl, _, _, rfl, .inr ⟨_, hq, rfl⟩, rfl, _, rfl, iteFb (by rw [decide_eq_true (show V.int ((([V.str "ok", V.ref q2] : List V).length : Nat) : Int) = V.int 2 from rfl)]; rfl) ?_⟩
        refine ⟨_, rfl, q, _, _, _, rfl, rfl, hq, at0, rfl, _, rfl, iteFb (by decide +kernel) ?_⟩
        refine ⟨_, rfl, q, _, _, _, rfl, rfl, hq, LK.at1, q2, _, _, _, rfl, rfl, hq2, at0, rfl, _, rfl, iteFb (by decide +kernel) ?_⟩
        refine ⟨_, rfl, q, _, _, _, rfl, rfl, hq, LK.at1, q2, _, _, _, rfl, rfl, hq2, LK.at1, ?_⟩
        refine ⟨_, rfl, _, _, rfl, .inl ⟨_, SqL.of hy, rfl⟩, _, rfl, _, _, rfl, rfl, ?_⟩
        have lx : xs.length = kds.length + 1 := by rw [lx]; show (kds ++ [_]).length = _; simp
        refine ⟨_, rfl, iteTb (decide_eq_true (by omega)) ?_⟩
        refine ⟨_, rfl, _, _, rfl, .inl ⟨_, SqL.of hx, rfl⟩, _, _, rfl, rfl, _, rfl, iteTb (decide_eq_true (by omega)) ?_⟩
        obtain ⟨w, hw, dw⟩ := ax.get (i := kds.length) (d := .tuple [.str kd, rd]) (by rw [List.getElem?_append_right (Nat.le_refl _), Nat.sub_self]; rfl)
        refine ⟨_, rfl, _, rfl, hp, _, _, _, rfl, rfl, SqL.of hx, atI_nat hw, ?_⟩
        refine ⟨_, rfl, _, rfl, sz_2, fun u hu => ?_⟩
        have Su := Same.new (o := .tup [.str kd, vd]) hu
        refine ⟨_, _, .tuple [.str kd, rd], rfl, (Dt.mono Su dw).dp, (Dt.made hu (.cons (.str _) (.cons dd .nil))).dp, ?_, k _ (Sz2.trans Su)⟩
        exact (Sm.tup (.cons (Sm.short (n := kd) (by rcases he with rfl | rfl <;> decide +kernel)) (.cons (wr.sm hn) .nil))).show (by decide) (by decide)
theorem DueIs.keepT {K : PySem.W.Frag} {H H' : Hp} {v : V} {t : Bool} {o : Option PyData} (h : DueIs K H v t o) (e : KeepT K H H') : DueIs K H' v t o := by
  cases o with
  | none => exact h
  | some rd => exact ⟨h.1.keepT e, h.2⟩
structure Kds (kds : List PyData) : Prop where
  len : kds.length ≤ 2
  sh : ShowOk (.list kds)
  sp : SeqAt.shaped (.list kds) = true
theorem kds_of {kds : List PyData} (h : ∀ d ∈ kds, Sm d 5 7000000) (hl : kds.length ≤ 2) (hc : ∀ d ∈ kds, d.canLay0 = true) : Kds kds where
  len := hl
  sh := (Sm.lst ((SmAll.many h).mem (m := 2) (M := 14000000) hl (by omega))).show (by decide) (by decide)
  sp := by
    unfold SeqAt.shaped
    rw [show (PyData.list kds).canLay0 = true from by rw [PyData.canLay0]; exact canLayAll0_of hc, Bool.true_and]
    refine decide_eq_true ?_
    rw [PyData.depth]
    have := depthAll_of (n := 5) fun d hd => (h d hd).dp
    omega
def spLaw (K : PySem.W.Frag) : Sp := fun vs H Q _ => ∃ (a : Addr) (ns : List Int), vs = [.ref a] ∧ SqL K H a (ns.map V.int) ∧ ns.length ≤ 63 ∧ ∀ H', Q (.bl true) H'
theorem ok_law {f : Addr} {fd : FuncData} (F : Fun K "law" "law" s_law f fd) (T : Txt K mg) (U_law_digits : Use P w K mg base CX0 "_law_digits" 2 P_law_digits (spDigits K)) (U_law_draw : Use P w K mg base CX0 "_law_draw" 1 P_law_draw (spDraw K))
    (U_law_row : Use P w K mg base CX0 "_law_row" 2 P_law_row (spLawRow K)) (U_law_good : Use P w K mg base CX0 "_law_good" 2 P_law_good (spLawGood K)) (U_binary : Use P w K mg base CX0 "binary" 4 P_binary (spBinary K)) :
    FnG P w K mg base CX0 5 f fd P_law (spLaw K) := by
  refine okG0 F sc_law (fun vs H Q E h => ?_) fun cdv A outer s H vs Q E hr hg h => ?_
  · obtain ⟨a, ns, rfl, _⟩ := h
    rfl
  · obtain ⟨a, ns, rfl, hs, hn, k⟩ := h
    refine ⟨_, (pss_cons (ps_set (i := 1) sc_law.nd rfl (Or.inl rfl) (pe_lst (pa_cons (pe_use U_law_digits (hr.mono (by decide)) hg rfl (pa_cons (pv 0) (pa_cons pe_int (pa_cons pe_int pa_nil)))) (pa_cons pe_int pa_nil))))
  (pss_cons (ps_set (i := 2) sc_law.nd rfl (Or.inl rfl) (pe_ix ix_list (pe_lst (pa_cons pe_str (pa_cons pe_str (pa_cons pe_str pa_nil)))) (pe_use U_law_draw (hr.mono (by decide)) hg rfl (pa_cons (pv 1) (pa_cons pe_int pa_nil))) (fun _ _ => rfl)))
  (pss_cons (ps_set (i := 3) sc_law.nd rfl (Or.inl rfl) (pe_use U_law_row (hr.mono (by decide)) hg rfl (pa_cons (pv 1) (pa_cons (pv 2) pa_nil))))
  (pss_cons (ps_set (i := 4) sc_law.nd rfl (Or.inl rfl) (pe_use U_law_row (hr.mono (by decide)) hg rfl (pa_cons (pv 1) (pa_cons (pv 2) pa_nil))))
  (pss_cons (ps_set (i := 5) sc_law.nd rfl (Or.inl rfl) (pe_ix ix_list (pe_lst (pa_cons (pe_op op_sub (pe_use U_law_draw (hr.mono (by decide)) hg rfl (pa_cons (pv 1) (pa_cons pe_int pa_nil))) pe_int) (pa_cons pe_int (pa_cons (pe_op op_mulW (pe_op op_pow pe_int pe_int) (pe_use U_law_draw (hr.mono (by decide)) hg rfl (pa_cons (pv 1) (pa_cons pe_int pa_nil)))) pa_nil)))) (pe_use U_law_draw (hr.mono (by decide)) hg rfl (pa_cons (pv 1) (pa_cons pe_int pa_nil))) (fun _ _ => rfl)))
  (pss_cons (ps_set (i := 6) sc_law.nd rfl (Or.inl rfl) (pe_lst (pa_cons (pe_tup (pa_cons (pv 2) (pa_cons (pv 3) pa_nil))) (pa_cons (pe_tup (pa_cons (pv 2) (pa_cons (pv 4) pa_nil))) pa_nil))))
  (pss_cons (ps_set (i := 7) sc_law.nd rfl (Or.inl rfl) (pe_tup (pa_cons pe_str (pa_cons pe_int pa_nil))))
  (pss_cons (ps_set (i := 8) sc_law.nd rfl (Or.inl rfl) (pe_tup (pa_cons pe_str (pa_cons pe_int pa_nil))))
  (C8.pss_cut (ps_if (pt_cmpR op_eq (pv 2) pe_str (nomark _))
   (pss_cons (ps_set (i := 7) sc_law.nd rfl (Or.inl rfl) (pe_tup (pa_cons pe_str (pa_cons (pv 3) pa_nil))))
  (pss_cons (ps_set (i := 8) sc_law.nd rfl (Or.inl rfl) (pe_tup (pa_cons pe_str (pa_cons (pv 4) pa_nil))))
  (pss_one (ps_set (i := 6) sc_law.nd rfl (Or.inl rfl) (pe_lst (pa_cons (pe_tup (pa_cons pe_str (pa_cons (pe_tup (pa_cons (pv 7) (pa_cons (pv 8) pa_nil))) pa_nil))) pa_nil))))))
   pss_nil)
  (pss_cons (ps_set (i := 9) sc_law.nd rfl (Or.inl rfl) (pe_callTy call_list_of (by rfl) T.b_list (by decide +kernel) (pa_cons (pv 6) pa_nil)))
  (pss_cons (ps_set (i := 10) sc_law.nd rfl (Or.inl rfl) (pe_op op_catD (pv 3) (pv 4)))
  (C8.pss_cut (ps_if (pt_cmpR op_gt (pe_callB call_lenD' (by rfl) T.b_len PySem.boot_len (pa_cons (pv 10) pa_nil)) pe_int (nomark _))
   (pss_one (ps_set (i := 10) sc_law.nd rfl (Or.inl rfl) pe_non))
   pss_nil)
  (pss_cons (ps_if (pt_not (pt_val (pe_use U_law_good (hr.mono (by decide)) hg rfl (pa_cons (pv 6) (pa_cons (pv 9) (pa_cons (pv 2) (pa_cons (pe_use U_binary (hr.mono (by decide)) hg rfl (pa_cons (pv 6) (pa_cons pe_str (pa_cons (pv 7) (pa_cons (pv 8) pa_nil))))) (pa_cons (pv 10) pa_nil))))))))
   (pss_one (ps_ret pe_bl))
   pss_nil)
  (pss_cons (ps_set (i := 10) sc_law.nd rfl (Or.inl rfl) (pe_slice sl_noneD (pv 3) po_none (po_some pe_int)))
  (C8.pss_cut (ps_if (PW.pt (pw_and (pt_cmpR op_gt (pv 5) pe_int (nomark _)) (pw_and1 (pt_cmpR op_gt (pe_callB call_lenD' (by rfl) T.b_len PySem.boot_len (pa_cons (pv 3) pa_nil)) pe_int (nomark _)))))
   (pss_cons (ps_set (i := 10) sc_law.nd rfl (Or.inl rfl) pe_non)
  (pss_one (ps_if (pt_cmpR op_le (pe_op op_mulW (pe_callB call_lenD' (by rfl) T.b_len PySem.boot_len (pa_cons (pv 3) pa_nil)) (pv 5)) pe_int (nomark _))
   (pss_one (ps_set (i := 10) sc_law.nd rfl (Or.inl rfl) (pe_op op_repD (pv 3) (pv 5))))
   pss_nil)))
   pss_nil)
  (pss_cons (ps_for PassesOwn.never rfl (pi_range1 (by rfl) T.b_range (pa_cons pe_int pa_nil)) (pg_name (i := 11) sc_law.nd rfl (Or.inl rfl))
   (pss_cons (ps_set (i := 6) sc_law.nd rfl (Or.inl rfl) (pe_callTy call_list_of (by rfl) T.b_list (by decide +kernel) (pa_cons (pv 9) pa_nil)))
  (pss_cons (ps_set (i := 12) sc_law.nd rfl (Or.inl rfl) (pe_tup (pa_cons pe_str (pa_cons (pv 5) pa_nil))))
  (C8.pss_cut (ps_if (pt_cmpR op_eq (pv 5) pe_int (nomark _))
   (pss_one (ps_set (i := 12) sc_law.nd rfl (Or.inl rfl) (pe_tup (pa_cons pe_str (pa_cons pe_bl pa_nil)))))
   pss_nil)
  (C8.pss_cut (ps_if (pt_cmpR op_eq (pv 11) pe_int (nomark _))
   (pss_one (ps_set (i := 13) sc_law.nd rfl (Or.inl rfl) (pe_use U_binary (hr.mono (by decide)) hg rfl (pa_cons (pv 6) (pa_cons pe_str (pa_cons (pv 7) (pa_cons (pv 12) pa_nil)))))))
   (pss_one (ps_set (i := 13) sc_law.nd rfl (Or.inl rfl) (pe_use U_binary (hr.mono (by decide)) hg rfl (pa_cons (pv 6) (pa_cons pe_str (pa_cons (pv 12) (pa_cons (pv 7) pa_nil))))))))
  (pss_one (ps_if (pt_not (pt_val (pe_use U_law_good (hr.mono (by decide)) hg rfl (pa_cons (pv 6) (pa_cons (pv 9) (pa_cons (pv 2) (pa_cons (pv 13) (pa_cons (pv 10) pa_nil))))))))
   (pss_one (ps_ret pe_bl))
   pss_nil)))))))
  (pss_one (ps_ret pe_bl)))))))))))))))))), ?_⟩
    refine ⟨_, rfl, a, ns, 0, 63, rfl, hs, by decide, by decide, fun dl H1 nd D => ?_⟩
    obtain ⟨ds, hd, hl, hds, S1⟩ := D
    refine ⟨sz_2, fun p hp => ?_⟩
    have B0 : BoxAt (upd H1 p (.lst [.ref dl, .int 0])) p dl := ⟨ds, 0, upd_same, by decide, by rw [upd_ne (ne_of_none hd hp)]; exact hd, hl, hds⟩
    generalize upd H1 p (.lst [.ref dl, .int 0]) = H2 at B0
    -- kind
    refine ⟨sz_3, fun l hl => ?_⟩
    have np : l ≠ p := fun e => by subst e; obtain ⟨_, z⟩ := B0.at_; rw [hl] at z; cases z
    have B1 := B0.same (Same.new (o := .lst [.str "text", .str "tuple", .str "list"]) hl)
    have el := upd_same (H := H2) (a := l) (o := HO.lst [.str "text", .str "tuple", .str "list"])
    generalize upd H2 l _ = H3 at B1 el
    refine ⟨_, rfl, p, dl, 3, rfl, B1, by decide, fun r H4 r0 r1 B4 K4 => ?_⟩
    obtain ⟨t, kd, hat, hk⟩ : ∃ t kd, atI [V.str "text", V.str "tuple", V.str "list"] r = some (.str kd) ∧ KdIs t kd := by
      obtain ⟨j, rfl⟩ := Int.eq_ofNat_of_zero_le r0
      match j, r1 with
      | 0, _ => exact ⟨true, "text", at_of' (j := 0) rfl rfl, .inl ⟨rfl, rfl⟩⟩
      | 1, _ => exact ⟨false, "tuple", at_of' (j := 1) rfl rfl, .inr ⟨rfl, .inl rfl⟩⟩
      | 2, _ => exact ⟨false, "list", at_of' (j := 2) rfl rfl, .inr ⟨rfl, .inr rfl⟩⟩
      | j + 3, h => omega
    refine ⟨l, _, _, _, rfl, rfl, SqL.of (K4 _ _ el np), hat, ?_⟩
    -- left, right
    refine ⟨_, rfl, _, rfl, p, dl, t, kd, rfl, B4, hk, fun v1 H5 ra n1 w1 l1 d1 B5 K5 => ?_⟩
    refine ⟨_, rfl, _, rfl, p, dl, t, kd, rfl, B5, hk, fun v2 H6 rb n2 w2 l2 d2 B6 K6 => ?_⟩
    have d1 := d1.keepT (Keep.keepT K6 B5.at_)
    -- times
    refine ⟨_, rfl, p, dl, 9, rfl, B6, by decide, fun r1 H7 a0 a1 B7 K7 => ?_⟩
    refine ⟨_, _, rfl, rfl, _, _, rfl, rfl, ⟨by decide, by decide, by decide⟩, _, rfl, p, dl, 900, rfl, B7, by decide, fun r2 H8 b0 b1 B8 K8 => ?_⟩
    refine ⟨_, _, rfl, rfl, wide_mul (a := 220) (b := 10) (by decide +kernel) (by omega) (by decide) (by decide) (by decide), sz_3, fun l8 hl8 => ?_⟩
    dsimp only
    have np8 : l8 ≠ p := fun e => by subst e; obtain ⟨_, z⟩ := B8.at_; rw [hl8] at z; cases z
    have B9 := B8.same (Same.new (o := .lst [.int (r1 - 3), .int 1000, .int (10 ^ (60 : Int).toNat * r2)]) hl8)
    have e8 := upd_same (H := H8) (a := l8) (o := HO.lst [.int (r1 - 3), .int 1000, .int (10 ^ (60 : Int).toNat * r2)])
    have K9 := ((K6.trans K7).trans K8).trans (Same.keep (p := p) (Same.new (o := .lst [.int (r1 - 3), .int 1000, .int (10 ^ (60 : Int).toNat * r2)]) hl8))
    have d1 := ((d1.keepT (Keep.keepT K7 B6.at_)).keepT (Keep.keepT K8 B7.at_)).mono (Same.new (o := .lst [.int (r1 - 3), .int 1000, .int (10 ^ (60 : Int).toNat * r2)]) hl8)
    have d2 := ((d2.keepT (Keep.keepT K7 B6.at_)).keepT (Keep.keepT K8 B7.at_)).mono (Same.new (o := .lst [.int (r1 - 3), .int 1000, .int (10 ^ (60 : Int).toNat * r2)]) hl8)
    generalize upd H8 l8 _ = H9 at B9 e8 K9 d1 d2
    refine ⟨_, rfl, p, dl, 3, rfl, B9, by decide, fun r3 H10 c0 c1 B10 K10 => ?_⟩
    obtain ⟨tm, hat, htm⟩ : ∃ tm : Int, atI [V.int (r1 - 3), V.int 1000, V.int (10 ^ (60 : Int).toNat * r2)] r3 = some (.int tm) ∧ tm.natAbs < 2 ^ 300 := by
      obtain ⟨j, rfl⟩ := Int.eq_ofNat_of_zero_le c0
      match j, c1 with
      | 0, _ => exact ⟨r1 - 3, at_of' (j := 0) rfl rfl, by omega⟩
      | 1, _ => exact ⟨1000, at_of' (j := 1) rfl rfl, by decide⟩
      | 2, _ =>
        refine ⟨_, at_of' (j := 2) rfl rfl, ?_⟩
        rw [Int.natAbs_mul, show ((10 : Int) ^ (60 : Int).toNat).natAbs = 10 ^ 60 by decide +kernel]
        exact Nat.lt_of_le_of_lt (Nat.mul_le_mul_left _ (show r2.natAbs ≤ 900 by omega)) (by decide +kernel)
      | j + 3, h => omega
    refine ⟨l8, _, _, _, rfl, rfl, SqL.of (K10 _ _ e8 np8), hat, ?_⟩
    have d1 := d1.keepT (Keep.keepT K10 B9.at_)
    have d2 := d2.keepT (Keep.keepT K10 B9.at_)
    clear K4 K5 K6 K7 K8 K9 K10 B0 B1 B4 B5 B6 B7 B8 B9 B10 el e8 hat
    -- heap, a, b
    refine ⟨_, rfl, _, rfl, sz_2, fun u1 h1 => ⟨_, rfl, _, rfl, sz_2, fun u2 h2 => ⟨sz_2, fun hp h3 => ⟨sz_2, fun ua h4 => ⟨sz_2, fun ub h5 => ?_⟩⟩⟩⟩⟩
    have T1 : Dt K _ (.ref u1) (.tuple [.str kd, ra]) := Dt.made h1 (.cons (.str _) (.cons d1 .nil))
    have T2 : Dt K _ (.ref u2) (.tuple [.str kd, rb]) := Dt.made h2 (.cons (.str _) (.cons (d2.mono (Same.new (o := .tup [.str kd, v1]) h1)) .nil))
    have Lh : ListAt K _ hp [.tuple [.str kd, ra], .tuple [.str kd, rb]] := listAt_made h3 (.cons (T1.mono (Same.new (o := .tup [.str kd, v2]) h2)) (.cons T2 .nil))
    have S45 := (Same.new (o := .tup [.str "ref", .int 0]) h4).trans (Same.new (o := .tup [.str "ref", .int 1]) h5)
    have Lh := listAt_mono Lh S45
    have Da : Dt K _ (.ref ua) (.tuple [.str "ref", .int (0 : Nat)]) := Dt.mono (Same.new (o := .tup [.str "ref", .int 1]) h5) (Dt.made h4 (.cons (.str _) (.cons (.int _) .nil)))
    have Db : Dt K _ (.ref ub) (.tuple [.str "ref", .int (1 : Nat)]) := Dt.made h5 (.cons (.str _) (.cons (.int _) .nil))
    have S15 := (((Same.new (o := .tup [.str kd, v1]) h1).trans (Same.new (o := .tup [.str kd, v2]) h2)).trans (Same.new (o := .lst [.ref u1, .ref u2]) h3)).trans S45
    have d1 := d1.mono S15
    have d2 := d2.mono S15
    generalize upd (upd (upd (upd (upd H10 u1 _) u2 _) hp _) ua _) ub _ = H11 at Lh Da Db d1 d2
    clear T1 T2 S45 S15 h1 h2 h3 h4 h5
    refine ⟨fun σ H12 => ∃ hp kds va vb da db, σ = [some (.ref a), some (.ref p), some (.str kd), some v1, some v2, some (.int tm), some (.ref hp), some va, some vb, none, none, none, none, none] ∧ ListAt K H12 hp kds ∧ Kds kds ∧
      Dt K H12 va da ∧ Dt K H12 vb db ∧ ValIs kds t kd ra da ∧ ValIs kds t kd rb db ∧ Dt K H12 v1 ra ∧ Dt K H12 v2 rb, ?_, ?_⟩
    · refine ⟨_, rfl, rfl, _, rfl, ?_⟩
      rcases hk with ⟨rfl, rfl⟩ | ⟨rfl, he⟩
      · refine iteTb (by decide +kernel) ?_
        cases w1 with
        | @txt z1 _ ln1 lw1 =>
          cases w2 with
          | @txt z2 _ ln2 lw2 =>
            refine ⟨_, rfl, sz_2, fun u1 h1 => ⟨_, rfl, sz_2, fun u2 h2 => ⟨_, rfl, _, rfl, sz_2, fun u3 h3 => ⟨sz_2, fun u4 h4 => ⟨sz_1, fun hp2 h5 => ?_⟩⟩⟩⟩⟩
            have T1 : Dt K _ (.ref u1) (.tuple [.str "text", .str z1]) := Dt.made h1 (.cons (.str _) (.cons d1 .nil))
            have T2 : Dt K _ (.ref u2) (.tuple [.str "text", .str z2]) := Dt.made h2 (.cons (.str _) (.cons (d2.mono (Same.new (o := .tup [.str "text", v1]) h1)) .nil))
            have T1 := T1.mono (Same.new (o := .tup [.str "text", v2]) h2)
            have T3 : Dt K _ (.ref u3) (.tuple [.tuple [.str "text", .str z1], .tuple [.str "text", .str z2]]) := Dt.made h3 (.cons T1 (.cons T2 .nil))
            have T4 : Dt K _ (.ref u4) (.tuple [.str "list", .tuple [.tuple [.str "text", .str z1], .tuple [.str "text", .str z2]]]) := Dt.made h4 (.cons (.str _) (.cons T3 .nil))
            have Lh2 : ListAt K _ hp2 [.tuple [.str "list", .tuple [.tuple [.str "text", .str z1], .tuple [.str "text", .str z2]]]] := listAt_made h5 (.cons T4 .nil)
            have S35 := ((Same.new (o := .tup [.ref u1, .ref u2]) h3).trans (Same.new (o := .tup [.str "list", .ref u3]) h4)).trans (Same.new (o := .lst [.ref u4]) h5)
            have S15 := ((Same.new (o := .tup [.str "text", v1]) h1).trans (Same.new (o := .tup [.str "text", v2]) h2)).trans S35
            have g1 := (Row.txt ln1 lw1).sm l1
            have g2 := (Row.txt ln2 lw2).sm l2
            refine ⟨hp2, _, _, _, _, _, rfl, Lh2, kds_of (fun d hd => ?_) (by simp) (fun d hd => ?_), T1.mono S35, T2.mono S35, .txt, .txt, d1.mono S15, d2.mono S15⟩
            · obtain rfl := List.mem_singleton.mp hd
              have q1 := Sm.tup (.cons (Sm.short (n := "text") (by decide +kernel)) (.cons g1 .nil))
              have q2 := Sm.tup (.cons (Sm.short (n := "text") (by decide +kernel)) (.cons g2 .nil))
              exact (Sm.tup (.cons (Sm.short (n := "list") (by decide +kernel)) (.cons (Sm.tup (.cons q1 (.cons q2 .nil))) .nil))).mono (by decide) (by decide)
            · obtain rfl := List.mem_singleton.mp hd
              have e1 := (Row.txt ln1 lw1).lay
              have e2 := (Row.txt ln2 lw2).lay
              have f1 : (PyData.str "text").canLay0 = true := by decide +kernel
              have f2 : (PyData.str "list").canLay0 = true := by decide +kernel
              simp only [PyData.canLay0, PyData.canLayAll0, Bool.and_true, Bool.and_eq_true] at e1 e2 f1 f2 ⊢
              exact ⟨f2, ⟨f1, e1⟩, f1, e2⟩
      · refine iteFb (by rcases he with rfl | rfl <;> decide +kernel) ?_
        refine ⟨hp, _, _, _, _, _, rfl, Lh, ?_, Da, Db, .obj he rfl, .obj he rfl, d1, d2⟩
        have sk : shortS kd = true := by rcases he with rfl | rfl <;> decide +kernel
        have fk : (PyData.str kd).canLay0 = true := by rcases he with rfl | rfl <;> decide +kernel
        have q1 : Sm (.tuple [.str kd, ra]) 5 7000000 := (Sm.tup (.cons (Sm.short sk) (.cons (w1.sm l1) .nil))).mono (by decide) (by decide)
        have q2 : Sm (.tuple [.str kd, rb]) 5 7000000 := (Sm.tup (.cons (Sm.short sk) (.cons (w2.sm l2) .nil))).mono (by decide) (by decide)
        have c1 : (PyData.tuple [.str kd, ra]).canLay0 = true := by
          rw [PyData.canLay0, PyData.canLayAll0, PyData.canLayAll0, PyData.canLayAll0, fk, w1.lay]; rfl
        have c2 : (PyData.tuple [.str kd, rb]).canLay0 = true := by
          rw [PyData.canLay0, PyData.canLayAll0, PyData.canLayAll0, PyData.canLayAll0, fk, w2.lay]; rfl
        refine kds_of (fun d hd => ?_) (by simp) (fun d hd => ?_)
        · rcases List.mem_cons.mp hd with rfl | hd
          · exact q1
          · obtain rfl := List.mem_singleton.mp hd
            exact q2
        · rcases List.mem_cons.mp hd with rfl | hd
          · exact c1
          · obtain rfl := List.mem_singleton.mp hd
            exact c2
    rintro _ H12 ⟨hp, kds, va, vb, da, db, rfl, Lh, hK, Da, Db, ia, ib, d1, d2⟩
    -- kept
    obtain ⟨xh, hxh, axh⟩ := id Lh
    refine ⟨_, rfl, hp, _, rfl, .inl (SqL.of hxh), fun kp hkp => ?_⟩
    have nk : kp ≠ hp := fun e => by subst e; rw [hkp] at hxh; cases hxh
    have Sk := Same.new (o := .lst xh) hkp
    have Lk : ListAt K (upd H12 kp (.lst xh)) kp kds := listAt_made hkp axh
    have Lh := listAt_mono Lh Sk
    have Da := Da.mono Sk
    have Db := Db.mono Sk
    have d1 := d1.mono Sk
    have d2 := d2.mono Sk
    generalize upd H12 kp (.lst xh) = H13 at Lk Lh Da Db d1 d2
    clear Sk
    -- due
    refine ⟨_, rfl, _, rfl, t, ra, rb, n1, n2, w1, w2, d1, d2, by omega, fun v3 H14 S14 d3 => ?_⟩
    have w3 := w1.cat w2
    have Lk := listAt_mono Lk S14
    have Lh := listAt_mono Lh S14
    have Da := Da.mono S14
    have Db := Db.mono S14
    have d1 := d1.mono S14
    have hph : ∃ xs, H14 hp = some (.lst xs) := let ⟨xs, e, _⟩ := Lh; ⟨xs, e⟩
    refine ⟨fun σ H15 => ∃ vd, σ = [some (.ref a), some (.ref p), some (.str kd), some v1, some v2, some (.int tm), some (.ref hp), some va, some vb, some (.ref kp), some vd, none, none, none] ∧ H15 = H14 ∧
      DueIs K H14 vd t (if n1 + n2 ≤ 1000 then some (catD ra rb) else none), ?_, ?_⟩
    · refine ⟨_, rfl, v3, t, _, _, rfl, w3, d3, by omega, _, _, rfl, rfl, _, rfl, ?_⟩
      refine ite3 (fun c => ?_) fun c => ?_
      · have c := of_decide_eq_true c
        refine ⟨_, rfl, rfl, ?_⟩
        rw [if_neg (by omega)]; rfl
      · have c := of_decide_eq_false c
        refine ⟨_, rfl, rfl, ?_⟩
        rw [if_pos (by omega)]
        exact ⟨d3, _, w3, by omega⟩
    rintro _ _ ⟨vd, rfl, rfl, D⟩
    -- +
    refine ⟨_, rfl, _, rfl, _, rfl, _, rfl, _, rfl, _, rfl, hp, kds, va, vb, _, da, db, t, kd, _, rfl, Lh, by have := hK.len; omega, Da, Db, .add ia ib w1 w2 l1 l2, fun r H15 K15 L15 D15 => ?_⟩
    have T15 := Keep.keepT (K := K) K15 hph
    have Lk15 := listAt_keep Lk K15 nk hph
    refine ⟨_, rfl, hp, kp, kds, r, vd, t, kd, _, rfl, hk, L15, Lk15, by have := hK.len; omega, hK.sh, hK.sp, D15, D.keepT T15, fun H16 S16 => ⟨true, rfl, iteFb rfl ?_⟩⟩
    have T16 := T15.trans (Same.keepT S16)
    have Lk16 := listAt_mono Lk15 S16
    have Da := Da.keepT T16
    have Db := Db.keepT T16
    have d1 := d1.keepT T16
    clear T15 T16 K15 L15 D15 S16 Lk15 D d3 Lh Lk hph
    -- left[:0]
    refine ⟨_, rfl, _, rfl, t, ra, n1, w1, d1, by omega, rfl, rfl, fun v4 H17 S17 d4 => ?_⟩
    have w4 := w1.none
    have Lk17 := listAt_mono Lk16 S17
    have Da := Da.mono S17
    have Db := Db.mono S17
    have d1 := d1.mono S17
    refine ⟨fun σ H18 => ∃ vd, σ = [some (.ref a), some (.ref p), some (.str kd), some v1, some v2, some (.int tm), some (.ref hp), some va, some vb, some (.ref kp), some vd, none, none, none] ∧ Same H17 H18 ∧
      DueIs K H18 vd t (repO ra n1 tm), ?_, ?_⟩
    · refine ⟨_, rfl, _, _, rfl, rfl, _, rfl, ?_⟩
      refine ite3 (fun c => ?_) fun c => ?_
      · have c := of_decide_eq_true c
        refine ⟨_, rfl, v1, t, ra, n1, rfl, w1, d1, by omega, _, _, rfl, rfl, _, rfl, ?_⟩
        refine ite3 (fun c0 => ?_) fun c0 => ?_
        · have c0 := of_decide_eq_true c0
          refine ⟨_, rfl, v1, t, ra, n1, rfl, w1, d1, by omega, _, rfl, _, _, rfl, rfl, wide_mul (a := 10) (b := 300) (by omega) htm (by decide) (by decide) (by decide), _, _, rfl, rfl, _, rfl, ?_⟩
          refine ite3 (fun c2 => ?_) fun c2 => ?_
          · have c2 := of_decide_eq_true c2
            refine ⟨_, rfl, _, rfl, t, ra, n1, tm, w1, d1, rfl, by omega, by omega, c2, fun v5 H18 S18 d5 => ⟨_, rfl, S18, ?_⟩⟩
            unfold repO
            rw [if_neg (by omega), if_pos c2]
            refine ⟨d5, _, w1.rep tm, ?_⟩
            have : ((n1 * tm.toNat : Nat) : Int) = n1 * tm := by rw [Int.natCast_mul, Int.toNat_of_nonneg (by omega)]
            omega
          · have c2 := of_decide_eq_false c2
            refine ⟨_, rfl, Same.refl _, ?_⟩
            unfold repO
            rw [if_neg (by omega), if_neg c2]
            rfl
        · have c0 := of_decide_eq_false c0
          refine ⟨_, rfl, Same.refl _, ?_⟩
          unfold repO
          rw [if_pos (.inr (by omega))]
          exact ⟨d4, _, w4, by omega⟩
      · have c := of_decide_eq_false c
        refine ⟨_, rfl, Same.refl _, ?_⟩
        unfold repO
        rw [if_pos (.inl (by omega))]
        exact ⟨d4, _, w4, by omega⟩
    rintro _ H18 ⟨vd, rfl, S18, D⟩
    have Lk := listAt_mono Lk17 S18
    have Da := Da.mono S18
    clear S18 Lk17 Lk16 Db d1 d4 S17
    -- the loop
    refine ⟨_, rfl, by decide, by decide, ?_⟩
    refine for_range (lo := 0) (n := 2) (fun i σ H19 => ∃ (h0 : Addr) (x11 x12 x13 : Option V), σ = [some (.ref a), some (.ref p), some (.str kd), some v1, some v2, some (.int tm), some (.ref h0), some va, some vb, some (.ref kp), some vd, x11, x12, x13] ∧ ListAt K H19 kp kds ∧ Dt K H19 va da ∧ DueIs K H19 vd t (repO ra n1 tm)) ?_ ?_ ?_
    · exact ⟨hp, none, none, none, rfl, Lk, Da, D⟩
    · rintro i σ H19 hi ⟨h0, x11, x12, x13, rfl, Lk, Da, D⟩
      obtain ⟨xk, hxk, axk⟩ := id Lk
      refine ⟨_, rfl, kp, _, rfl, .inl (SqL.of hxk), fun h1 hh1 => ?_⟩
      have nk : kp ≠ h1 := fun e => by subst e; rw [hh1] at hxk; cases hxk
      have Sn := Same.new (o := .lst xk) hh1
      have Lh : ListAt K (upd H19 h1 (.lst xk)) h1 kds := listAt_made hh1 axk
      have Lk := listAt_mono Lk Sn
      have Da := Da.mono Sn
      have D := D.keepT (Same.keepT Sn)
      generalize upd H19 h1 (.lst xk) = H20 at Lh Lk Da D
      clear Sn
      -- number
      refine ⟨_, rfl, sz_2, fun un hun => ?_⟩
      have Sn := Same.new (o := .tup [.str "int", .int tm]) hun
      have Dn : Dt K (upd H20 un (.tup [.str "int", .int tm])) (.ref un) (.tuple [.str "int", .int tm]) := Dt.made hun (.cons (.str _) (.cons (.int _) .nil))
      have Lk := listAt_mono Lk Sn
      have Lh := listAt_mono Lh Sn
      have Da := Da.mono Sn
      have D := D.keepT (Same.keepT Sn)
      generalize upd H20 un (.tup [.str "int", .int tm]) = H21 at Lh Lk Da D Dn
      clear Sn
      refine ⟨fun σ H22 => ∃ vn dn, σ = [some (.ref a), some (.ref p), some (.str kd), some v1, some v2, some (.int tm), some (.ref h1), some va, some vb, some (.ref kp), some vd, some (.int (0 + (i : Int))), some vn, x13] ∧ Same H21 H22 ∧ NumIs tm dn ∧ Dt K H22 vn dn, ?_, ?_⟩
      · refine ⟨_, rfl, rfl, _, rfl, ?_⟩
        refine ite3 (fun c => ?_) fun _ => ⟨_, _, rfl, Same.refl _, .int tm, Dn⟩
        have c := of_decide_eq_true c
        rw [V.int.injEq] at c
        subst c
        refine ⟨sz_2, fun ub hub => ?_⟩
        exact ⟨_, _, rfl, Same.new hub, .one, Dt.made hub (.cons (.str _) (.cons (.bl _) .nil))⟩
      rintro _ H22 ⟨vn, dn, rfl, S22, hn2, Dn⟩
      have Lk := listAt_mono Lk S22
      have Lh := listAt_mono Lh S22
      have Da := Da.mono S22
      have D := D.keepT (Same.keepT S22)
      clear S22
      have hph : ∃ xs, H22 h1 = some (.lst xs) := let ⟨xs, e, _⟩ := Lh; ⟨xs, e⟩
      refine ⟨fun σ H23 => ∃ r, σ = [some (.ref a), some (.ref p), some (.str kd), some v1, some v2, some (.int tm), some (.ref h1), some va, some vb, some (.ref kp), some vd, some (.int (0 + (i : Int))), some vn, some r] ∧ Keep h1 H22 H23 ∧ ListAt K H23 h1 (kds ++ resL t kd (repO ra n1 tm)) ∧ Dt K H23 r (resR kds.length t (repO ra n1 tm)), ?_, ?_⟩
      · refine ⟨_, rfl, rfl, _, rfl, ?_⟩
        refine ite3 (fun _ => ?_) fun _ => ?_
        · exact ⟨_, rfl, _, rfl, _, rfl, h1, kds, va, vn, _, da, dn, t, kd, _, rfl, Lh, by have := hK.len; omega, Da, Dn, .mulR ia hn2 w1 l1 htm, fun r H23 K23 L23 D23 => ⟨r, rfl, K23, L23, D23⟩⟩
        · exact ⟨_, rfl, _, rfl, _, rfl, h1, kds, vn, va, _, dn, da, t, kd, _, rfl, Lh, by have := hK.len; omega, Dn, Da, .mulL hn2 ia w1 l1 htm, fun r H23 K23 L23 D23 => ⟨r, rfl, K23, L23, D23⟩⟩
      rintro _ H23 ⟨r, rfl, K23, L23, D23⟩
      have T23 := Keep.keepT (K := K) K23 hph
      have Lk := listAt_keep Lk K23 nk hph
      refine ⟨_, rfl, _, rfl, _, rfl, _, rfl, _, rfl, h1, kp, kds, r, vd, t, kd, _, rfl, hk, L23, Lk, by have := hK.len; omega, hK.sh, hK.sp, D23, D.keepT T23, fun H24 S24 => ⟨true, rfl, iteFb rfl ?_⟩⟩
      have T24 := T23.trans (Same.keepT S24)
      exact ⟨_, _, _, _, rfl, listAt_mono Lk S24, Da.keepT T24, D.keepT T24⟩
    · rintro σ H19 ⟨h0, x11, x12, x13, rfl, _⟩
      exact k _
end
theorem walk_mk {l : PySem.W.OpenLaw} {w : World} {K : PySem.W.Frag} {h : Heap} {mg : Str → Option Value} {fa : Addr} (X : K.In h) (G : h.Ns mainGlobals mg) (hfa : mg "law" = some (.ref fa))
    (f0 : HasFn K "_law_cell" s_law_cell)
    (f1 : HasFn K "_law_digits" s_law_digits)
    (f2 : HasFn K "_law_draw" s_law_draw)
    (f3 : HasFn K "_law_row" s_law_row)
    (f4 : HasFn K "_law_same" s_law_same)
    (f5 : HasFn K "_law_good" s_law_good)
    (f6 : HasFn K "is_number" s_is_number)
    (f7 : HasFn K "object_kind" s_object_kind)
    (f8 : HasFn K "row_kind" s_row_kind)
    (f9 : HasFn K "row_of" s_row_of)
    (f10 : HasFn K "made_row" s_made_row)
    (f11 : HasFn K "_joined" s_joined)
    (f12 : HasFn K "_repeated" s_repeated)
    (f13 : HasFn K "binary" s_binary)
    (f14 : HasFn K "law" s_law)
    (c0 : HasInt K "MOST_ENTRIES" 1000)
    (c1 : HasTup K "TOO_LARGE" [.str "raise", .int 15, .str "too large"])
    (b_len : PySem.W.nsIn K mainGlobals "len" = some none)
    (b_int : PySem.W.nsIn K mainGlobals "int" = some none)
    (b_repr : PySem.W.nsIn K mainGlobals "repr" = some none)
    (b_range : PySem.W.nsIn K mainGlobals "range" = some none)
    (b_tuple : PySem.W.nsIn K mainGlobals "tuple" = some none)
    (b_list : PySem.W.nsIn K mainGlobals "list" = some none)
    (b_isinstance : PySem.W.nsIn K mainGlobals "isinstance" = some none) :
    ∃ fd : FuncData, (∀ (s : Shared) (v : Value), BindsTo s fd ⟨[v], []⟩ [("script", v)]) ∧ ∀ base : Heap, K.In base → base.Ns mainGlobals mg → FnG l.prog w K mg base CX0 5 fa fd ["script"] (spLaw K) := by
  have T : Txt K mg := ⟨c0.g X G, c1.g X G, PySem.W.mg_none_of X G b_len, PySem.W.mg_none_of X G b_int, PySem.W.mg_none_of X G b_repr, PySem.W.mg_none_of X G b_range, PySem.W.mg_none_of X G b_tuple, PySem.W.mg_none_of X G b_list, PySem.W.mg_none_of X G b_isinstance⟩
  refine law_use f14 X G hfa (fun _ _ _ _ _ _ _ => rfl) fun base X' G' fd F => ?_
  have U_law_cell := mk_use (P := l.prog) (w := w) (mg := mg) (base := base) f0 X G (fun _ _ _ _ _ _ us hl => match us, hl with | [_, _], _ => rfl) fun f fd F => ok_cell F T 
  have U_law_digits := mk_use (P := l.prog) (w := w) (mg := mg) (base := base) f1 X G (fun _ _ _ _ _ _ us hl => match us, hl with | [_, _, _], _ => rfl) fun f fd F => ok_digits F T U_law_cell
  have U_law_draw := mk_use (P := l.prog) (w := w) (mg := mg) (base := base) f2 X G (fun _ _ _ _ _ _ us hl => match us, hl with | [_, _], _ => rfl) fun f fd F => ok_draw F T 
  have U_law_row := mk_use (P := l.prog) (w := w) (mg := mg) (base := base) f3 X G (fun _ _ _ _ _ _ us hl => match us, hl with | [_, _], _ => rfl) fun f fd F => ok_lawrow F T U_law_draw
  have U_law_same := mk_use (P := l.prog) (w := w) (mg := mg) (base := base) f4 X G (fun _ _ _ _ _ _ us hl => match us, hl with | [_, _], _ => rfl) fun f fd F => ok_same F T 
  have U_law_good := mk_use (P := l.prog) (w := w) (mg := mg) (base := base) f5 X G (fun _ _ _ _ _ _ us hl => match us, hl with | [_, _, _, _, _], _ => rfl) fun f fd F => ok_lawgood F T U_law_same
  have U_is_number := mk_use (P := l.prog) (w := w) (mg := mg) (base := base) f6 X G (fun _ _ _ _ _ _ us hl => match us, hl with | [_], _ => rfl) fun f fd F => ok_isnum F T 
  have U_object_kind := mk_use (P := l.prog) (w := w) (mg := mg) (base := base) f7 X G (fun _ _ _ _ _ _ us hl => match us, hl with | [_, _], _ => rfl) fun f fd F => ok_kind F T 
  have U_row_kind := mk_use (P := l.prog) (w := w) (mg := mg) (base := base) f8 X G (fun _ _ _ _ _ _ us hl => match us, hl with | [_, _], _ => rfl) fun f fd F => ok_rowkind F T U_object_kind
  have U_row_of := mk_use (P := l.prog) (w := w) (mg := mg) (base := base) f9 X G (fun _ _ _ _ _ _ us hl => match us, hl with | [_, _], _ => rfl) fun f fd F => ok_rowof F T 
  have U_made_row := mk_use (P := l.prog) (w := w) (mg := mg) (base := base) f10 X G (fun _ _ _ _ _ _ us hl => match us, hl with | [_, _, _], _ => rfl) fun f fd F => ok_made F T 
  have U_joined := mk_use (P := l.prog) (w := w) (mg := mg) (base := base) f11 X G (fun _ _ _ _ _ _ us hl => match us, hl with | [_, _, _], _ => rfl) fun f fd F => ok_joined F T U_row_of U_row_kind U_made_row
  have U_repeated := mk_use (P := l.prog) (w := w) (mg := mg) (base := base) f12 X G (fun _ _ _ _ _ _ us hl => match us, hl with | [_, _, _], _ => rfl) fun f fd F => ok_repeated F T U_row_of U_row_kind U_made_row
  have U_binary := mk_use (P := l.prog) (w := w) (mg := mg) (base := base) f13 X G (fun _ _ _ _ _ _ us hl => match us, hl with | [_, _, _, _], _ => rfl) fun f fd F => ok_binary F T U_is_number U_row_kind U_joined U_repeated
  exact ok_law F T U_law_digits U_law_draw U_law_row U_law_good U_binary
end K19
open PySem PySem.W PyProof.Rows
set_option maxRecDepth 100000 in
set_option maxHeartbeats 0 in
theorem PySem.Challenge.cw_pyhold_k19_joins_and_repeats_holds : PySem.Challenge.rw_pyhold_k19_joins_and_repeats.Holds := by
  w_on; o_law; k_head; (case hw => w_witness2)
  k_fill
  refine LK.walkG (l := PySem.Challenge.rw_pyhold_k19_joins_and_repeats) (n := 63) (k := 5) (x := "script") (CX := L2.CX0) (sp := K19.spLaw) rfl (by decide) rfl ⟨rfl, by decide, by decide⟩ (fun w h Y => PySem.W.kIn_of Y) ?F (fun K H a ns hl _ hS => ⟨a, ns, rfl, hS, hl, fun _ => rfl⟩) (fun _ _ _ _ z => z)
  case F =>
    intro w mg fa h KX G hmg
    refine' K19.walk_mk KX G hmg ?f0 ?f1 ?f2 ?f3 ?f4 ?f5 ?f6 ?f7 ?f8 ?f9 ?f10 ?f11 ?f12 ?f13 ?f14 ?c0 ?c1 ?b_len ?b_int ?b_repr ?b_range ?b_tuple ?b_list ?b_isinstance
    case f0 => refine' LK.HasFn.mk' ?a ?b ?c ?d; (case a => k_is); (case b => k_is); (case c => k_is); (case d => k_is)
    case f1 => refine' LK.HasFn.mk' ?a ?b ?c ?d; (case a => k_is); (case b => k_is); (case c => k_is); (case d => k_is)
    case f2 => refine' LK.HasFn.mk' ?a ?b ?c ?d; (case a => k_is); (case b => k_is); (case c => k_is); (case d => k_is)
    case f3 => refine' LK.HasFn.mk' ?a ?b ?c ?d; (case a => k_is); (case b => k_is); (case c => k_is); (case d => k_is)
    case f4 => refine' LK.HasFn.mk' ?a ?b ?c ?d; (case a => k_is); (case b => k_is); (case c => k_is); (case d => k_is)
    case f5 => refine' LK.HasFn.mk' ?a ?b ?c ?d; (case a => k_is); (case b => k_is); (case c => k_is); (case d => k_is)
    case f6 => refine' LK.HasFn.mk' ?a ?b ?c ?d; (case a => k_is); (case b => k_is); (case c => k_is); (case d => k_is)
    case f7 => refine' LK.HasFn.mk' ?a ?b ?c ?d; (case a => k_is); (case b => k_is); (case c => k_is); (case d => k_is)
    case f8 => refine' LK.HasFn.mk' ?a ?b ?c ?d; (case a => k_is); (case b => k_is); (case c => k_is); (case d => k_is)
    case f9 => refine' LK.HasFn.mk' ?a ?b ?c ?d; (case a => k_is); (case b => k_is); (case c => k_is); (case d => k_is)
    case f10 => refine' LK.HasFn.mk' ?a ?b ?c ?d; (case a => k_is); (case b => k_is); (case c => k_is); (case d => k_is)
    case f11 => refine' LK.HasFn.mk' ?a ?b ?c ?d; (case a => k_is); (case b => k_is); (case c => k_is); (case d => k_is)
    case f12 => refine' LK.HasFn.mk' ?a ?b ?c ?d; (case a => k_is); (case b => k_is); (case c => k_is); (case d => k_is)
    case f13 => refine' LK.HasFn.mk' ?a ?b ?c ?d; (case a => k_is); (case b => k_is); (case c => k_is); (case d => k_is)
    case f14 => refine' LK.HasFn.mk' ?a ?b ?c ?d; (case a => k_is); (case b => k_is); (case c => k_is); (case d => k_is)
    case c0 => refine' LK.HasInt.mk' ?a ?b; (case a => k_is); (case b => decide +kernel)
    case c1 => refine' LK.HasTup.mk' ?a ?b ?c ?d; (case a => k_is); (case b => k_is); (case c => decide); (case d => repeat (first | exact .nil | refine .cons ⟨_, rfl⟩ ?_))
    case b_len => k_is
    case b_int => k_is
    case b_repr => k_is
    case b_range => k_is
    case b_tuple => k_is
    case b_list => k_is
    case b_isinstance => k_is


