import PyProof.Rows.All
import Wide.All
import OpenK.AllK
import Wide.FinOn
import HandS.ForMost
import HandS.Wide
import HandS.WideMore
import HandS.TupAny
import HandS.TupLen
import HandS.Evl
import HandS.Codes
import PyProof.ReprLen
import PyProof.StrLawsRepr
import HandS.Walk
import HandS.Zip
import KE.GoesMore
import HandS.Style
import HandS.TupMul
import PyProof.StrOps2
import PySem.Challenge.RW_pyhold_k27_lengths_and_truth
set_option Elab.async false
set_option linter.all false
set_option maxRecDepth 100000
set_option maxHeartbeats 4000000
/-! A layer of one's own over the hand layer: defs by name, data, the helpers that the laws share. -/
namespace LK
open PySem PySem.Spec PyProof.Rows L2

/-! ### a def's promise where nothing is being shown (repr asks who is) -/
structure FnG (P : Program) (w : World) (K : PySem.W.Frag) (mg : Str → Option Value) (base : Heap) (CX : CXT) (k : Nat) (f : Addr) (fd : FuncData) (ps : List Str) (sp : Sp) : Prop where
  len : ∀ vs H Q E, sp vs H Q E → vs.length = ps.length
  run : ∀ (A : Around) (outer : List Env) (s : Shared) (H : Hp) (args : Args) (us : List Value) (vs : List V) (Q : VK) (E : XK), Room k A → A.guards = some [] →
    Env0 P w K mg base A outer s H → BindsTo s fd args (ps.zip us) → Vals vs us → sp vs H Q E → codeAny (model P w) A (.call (.ref f) args) (CR CX outer P w H s Q E) s
section
variable {P : Program} {w : World} {K : PySem.W.Frag} {mg : Str → Option Value} {base : Heap} {CX : CXT}
theorem FnG.imp {k : Nat} {f : Addr} {fd : FuncData} {ps : List Str} {sp sp' : Sp} (F : FnG P w K mg base CX k f fd ps sp) (h : ∀ vs H Q E, sp' vs H Q E → sp vs H Q E) : FnG P w K mg base CX k f fd ps sp' where
  len := fun vs H Q E q => F.len vs H Q E (h vs H Q E q)
  run := fun A outer s H args us vs Q E hr hg he hb hv hs => F.run A outer s H args us vs Q E hr hg he hb hv (h vs H Q E hs)
/-- the rule for a def: its body as a term of rules, and the reading of that term -/
theorem okG {x qual : Str} {st : Stmt} {f : Addr} {fd : FuncData} {N ps : List Str} {k : Nat} {sp : Sp} (F : Fun K x qual st f fd) (S : FnScope N ps (defScope st)) (len : ∀ vs H Q E, sp vs H Q E → vs.length = ps.length)
    (body : ∀ (cdv : Value) (A : Around) (outer : List Env) (s : Shared) (H : Hp) (vs : List V) (Q : VK) (E : XK), Room k (A.deeper (envOfC qual (defScope st) s.heap.objs.size f cdv)) →
      (A.deeper (envOfC qual (defScope st) s.heap.objs.size f cdv)).guards = some [] → sp vs H Q E →
      ∃ t, PSs (cxOf CX P w K mg base N qual (defScope st) f cdv A outer s H E) (defBody st) t ∧ t { nx := fun _ H' => Q .non H', rt := Q } (start N vs) H) :
    FnG P w K mg base CX (k + 1) f fd ps sp := by
  obtain ⟨oc, od, kV, doc, pm, an, cdv, ct, osl, rfl, lk, hcd⟩ := F.ex
  refine ⟨len, fun A outer s H args us vs Q E hr hgd e0 hb r hsp => ?_⟩
  have inn : K.In s.heap := e0.mod.kin.keeps fun b o e => (e0.bs b o e).1
  refine codeAny_call_function hr.depth (inn _ _ lk) rfl S.co S.gen rfl (PySem.W.codeRec_of inn hcd) (hb _ _ _ _ ?_)
  refine wpAny_newFunctionEnv_cells S.kind (fun y hy => ?_) fun env he s1 made => ?_
  · obtain ⟨n, v⟩ := y
    exact (S.par n (List.of_mem_zip hy).1).elim .inl fun q => .inr ⟨q, PySem.W.cellsFrom_some _ _ _ (.inl q)⟩
  · subst he
    have lim : s.heap.NoLimit := e0.mod.nolimit.keeps fun b o e => (e0.bs b o e).1
    refine ⟨lim.keeps made.toInCall.keep, codeAny_func ?_⟩
    obtain ⟨t, ht, hq⟩ := body cdv A outer s H vs Q E (hr.deeper _) hgd hsp
    refine wpAny_mono (ht.run [] s1 (start N vs) H _ (inv_start S hr.hd e0 (len _ _ _ _ hsp) r made) hq) (fun fl s' hs => ?_) fun e s' hs => hs
    cases fl with
    | ret u => exact let ⟨v, _, H', J, rv, q⟩ := hs; ⟨v, H', J.os, J.bare, J.base, J.hok, rv, q⟩
    | next => exact let ⟨_, H', J, q⟩ := hs; ⟨V.non, H', J.os, J.bare, J.base, J.hok, rfl, q⟩
    | brk => exact let ⟨_, _, _, q⟩ := hs; q.elim
    | cont => exact let ⟨_, _, _, q⟩ := hs; q.elim
/-- .. whose body lets no exception out -/
theorem okG0 {x qual : Str} {st : Stmt} {f : Addr} {fd : FuncData} {N ps : List Str} {k : Nat} {sp : Sp} (F : Fun K x qual st f fd) (S : FnScope N ps (defScope st)) (len : ∀ vs H Q E, sp vs H Q E → vs.length = ps.length)
    (body : ∀ (cdv : Value) (A : Around) (outer : List Env) (s : Shared) (H : Hp) (vs : List V) (Q : VK) (E : XK), Room k (A.deeper (envOfC qual (defScope st) s.heap.objs.size f cdv)) →
      (A.deeper (envOfC qual (defScope st) s.heap.objs.size f cdv)).guards = some [] → sp vs H Q E →
      ∃ t, PSs (cxOf CX0 P w K mg base N qual (defScope st) f cdv A outer s H E).nox (defBody st) t ∧ t { nx := fun _ H' => Q .non H', rt := Q } (start N vs) H) :
    FnG P w K mg base CX0 (k + 1) f fd ps sp :=
  okG F S len fun cdv A outer s H vs Q E hr hg hs => let ⟨t, ht, q⟩ := body cdv A outer s H vs Q E hr hg hs; ⟨t, ht.nox, q⟩
end
section
variable {X : Cx} {CX : CXT} {k : Nat} {f : Addr} {fd : FuncData} {ps : List Str} {sp : Sp} {E : XK} {x : Str} {p pos : Pos} {e : Expr} {es : List Expr} {t : TA}
theorem run_fnG {pins : List (Addr × Obj)} {σ : L2.St} {H : Hp} {s : Shared} {Q : VK} {us : List Value} {vs : List V} (F : FnG X.prog X.w X.K X.mg X.base CX k f fd ps sp) (hr : Room k X.A) (hg : X.A.guards = some []) (hb : Binds X.K fd ps [])
    (hx : Passes CX X E) (I : Inv X pins σ H s) (r : Vals vs us) (h : sp vs H Q E) : wpAny (model X.prog X.w) X.A (call (.ref f) us) (EP X pins σ Q) X.xe s := by
  have hl : (us ++ []).length = ps.length := by rw [List.append_nil, ← r.length, F.len _ _ _ _ h]
  have hbs := hb s us I.kIn hl
  rw [List.append_nil] at hbs
  refine wpAny_call (codeAny_mono (F.run X.A X.stack s H ⟨us, []⟩ us vs Q E hr hg I.env0 hbs r h) fun res s' hq => ?_)
  match res, hq with
  | .error e, hq => exact hx pins σ H s e s' I hq
  | .ok (.ret u), hq => exact I.after hq
  | .ok .next, hq => exact hq.elim
  | .ok .brk, hq => exact hq.elim
  | .ok .cont, hq => exact hq.elim
end

/-! ### defs of the text, by name -/
/-- what the top has left of the def x, whose statement is st -/
def HasFn (K : PySem.W.Frag) (x : Str) (st : Stmt) : Prop := ∃ (f : Addr) (oc : Value) (od an : Option Addr) (kV doc pm cdv ct : Value) (osl : Array (Option Value)),
  PySem.W.nsIn K mainGlobals x = some (some (.ref f)) ∧ K.lookup f = some ⟨oc, od, .func (PySem.W.fnOf x x (defArgs st) (defBody st) (defScope st) .none kV doc pm an cdv ct), osl⟩ ∧
  PySem.W.codeIn K cdv x = true ∧ PySem.W.keepIn K (.ref f) = true
/-- the def x may be called: its promise sp, by level k -/
structure Use (P : Program) (w : World) (K : PySem.W.Frag) (mg : Str → Option Value) (base : Heap) (CX : CXT) (x : Str) (k : Nat) (ps : List Str) (sp : Sp) : Prop where
  ex : ∃ (f : Addr) (fd : FuncData), FnG P w K mg base CX k f fd ps sp ∧ mg x = some (.ref f) ∧ PySem.W.keepIn K (.ref f) = true ∧ Binds K fd ps []
section
variable {P : Program} {w : World} {K : PySem.W.Frag} {mg : Str → Option Value} {base h : Heap} {CX : CXT}
theorem mk_use {x : Str} {st : Stmt} {k : Nat} {ps : List Str} {sp : Sp} (F : HasFn K x st) (X : K.In h) (G : h.Ns mainGlobals mg)
    (hb : ∀ (kV doc pm : Value) (an : Option Addr) (cdv ct : Value) (us : List Value), us.length = ps.length → bindArgs (PySem.W.fnOf x x (defArgs st) (defBody st) (defScope st) .none kV doc pm an cdv ct) ⟨us, []⟩ = pure (ps.zip us))
    (ok : ∀ (f : Addr) (fd : FuncData), Fun K x x st f fd → FnG P w K mg base CX k f fd ps sp) : Use P w K mg base CX x k ps sp := by
  obtain ⟨f, oc, od, an, kV, doc, pm, cdv, ct, osl, e, l, c, kp⟩ := F
  have Fn := fun_mk (st := st) l c kp
  exact ⟨f, _, ok f _ Fn, PySem.W.mg_of X G e, kp, Fn.binds hb⟩
theorem Use.imp {x : Str} {k : Nat} {ps : List Str} {sp sp' : Sp} (U : Use P w K mg base CX x k ps sp) (h : ∀ vs H Q E, sp' vs H Q E → sp vs H Q E) : Use P w K mg base CX x k ps sp' := by
  obtain ⟨f, fd, ok, r⟩ := U.ex
  exact ⟨f, fd, ok.imp h, r⟩
end
section
variable {X : Cx} {CX : CXT} {E : XK} {k : Nat} {x : Str} {ps : List Str} {sp : Sp} {p pos : Pos} {e : Expr} {es : List Expr} {t : TA}
theorem pe_useX (U : Use X.prog X.w X.K X.mg X.base CX x k ps sp) (hx : Passes CX X E) (hr : Room k X.A) (gd : X.A.guards = some []) (hg : Gl X x) (ha : PA X (e :: es) t) (hdb : (x == ("__debug__" : Str)) = false := by decide)
    (he : starEach (e :: es) X.env = (false, eval e X.env) :: starEach es X.env := by rfl) (hpl : (backTo pos (starEach es X.env)).any (·.1) = false := by rfl) : PE X (.Call (.Name x p) (e :: es) [] pos) (fun σ H Q => t σ H fun vs H1 => sp vs H1 Q E) := by
  obtain ⟨f, fd, ok, hm, kp, hb⟩ := U.ex
  refine ⟨fun pins s σ H Q I h => wpAny_Call_Name_kw (ld_glob I hg hm ?_ hdb)⟩
  exact PySem.W.callWith_K (h₀ := X.base) I.ok.mod.kin kp (thn (ha.run pos pins s σ H _ I h) fun us s1 ⟨vs, H1, I1, r, q⟩ => ⟨I1.kIn, run_fnG ok hr gd hb hx I1 r q⟩) he hpl
def tUse (sp : Sp) (E : XK) (t : TA) : TE := fun σ H Q => t σ H fun vs H1 => sp vs H1 Q E
theorem pe_use (U : Use X.prog X.w X.K X.mg X.base CX0 x k ps sp) (hr : Room k X.A) (gd : X.A.guards = some []) (hg : Gl X x) (ha : PA X (e :: es) t) (hdb : (x == ("__debug__" : Str)) = false := by decide)
    (he : starEach (e :: es) X.env = (false, eval e X.env) :: starEach es X.env := by rfl) (hpl : (backTo pos (starEach es X.env)).any (·.1) = false := by rfl) : PE X (.Call (.Name x p) (e :: es) [] pos) (tUse sp E0 t) := pe_useX U pass0 hr gd hg ha hdb he hpl
theorem pe_use0 (U : Use X.prog X.w X.K X.mg X.base CX0 x k ps sp) (hr : Room k X.A) (gd : X.A.guards = some []) (hg : Gl X x) (hdb : (x == ("__debug__" : Str)) = false := by decide) : PE X (.Call (.Name x p) [] [] pos) (tUse sp E0 tNil) := by
  obtain ⟨f, fd, ok, hm, kp, hb⟩ := U.ex
  exact ⟨fun pins s σ H Q I h => wpAny_Call_Name_kw (ld_glob I hg hm (PySem.W.callWith_K0 I.kIn kp (run_fnG (us := []) ok hr gd hb pass0 I .nil h)) hdb)⟩
end

/-! ### what stays -/
theorem Same.new {H : Hp} {p : Addr} {o : HO} (h : H p = none) : Same H (upd H p o) := fun b u e => by
  rw [upd_ne (ne_of_none e h)]; exact e
theorem Same.rd {H H' : Hp} {a : Addr} {u : HO} (e : Same H H') (h : Rd H a u) : Rd H' a u := by
  rcases h with h | ⟨o, h⟩
  · exact .inl (e _ _ h)
  · exact .inr ⟨o, e _ _ h⟩
theorem Same.tupl {K : PySem.W.Frag} {H H' : Hp} {a : Addr} {xs : List V} (e : Same H H') (h : SqT K H a xs) : SqT K H' a xs := by
  rcases h with h | h
  · exact .inl (Same.rd e h)
  · exact .inr h
theorem SqT.mono {K : PySem.W.Frag} {H H' : Hp} {a : Addr} {xs : List V} (h : SqT K H a xs) (e : Same H H') : SqT K H' a xs := Same.tupl e h
theorem SqL.mono {K : PySem.W.Frag} {H H' : Hp} {a : Addr} {xs : List V} (h : SqL K H a xs) (e : Same H H') : SqL K H' a xs := e.seq h

/-! ### data: none, bools, ints, texts, tuples (and lists that stand still) -/
mutual
theorem Dp.mono {K : PySem.W.Frag} {H H' : Hp} (e : Same H H') : ∀ {v : V} {d : PyData}, Dp K H v d → Dp K H' v d
  | _, _, .non => .non
  | _, _, .bl b => .bl b
  | _, _, .int i => .int i
  | _, _, .str x => .str x
  | _, _, .lst h a => .lst (e.seq h) (DpAll.mono e a)
  | _, _, .tup h a => .tup (Same.tupl e h) (DpAll.mono e a)
theorem DpAll.mono {K : PySem.W.Frag} {H H' : Hp} (e : Same H H') : ∀ {vs : List V} {ds : List PyData}, DpAll K H vs ds → DpAll K H' vs ds
  | _, _, .nil => .nil
  | _, _, .cons h a => .cons (Dp.mono e h) (DpAll.mono e a)
end
/-- a tuple just made -/
theorem Dp.made {K : PySem.W.Frag} {H : Hp} {p : Addr} {xs : List V} {ds : List PyData} (hp : H p = none) (h : DpAll K H xs ds) : Dp K (upd H p (.tup xs)) (.ref p) (.tuple ds) :=
  .tup (SqT.of upd_same) (DpAll.mono (Same.new hp) h)
theorem DpAll.length {K : PySem.W.Frag} {H : Hp} : ∀ {vs : List V} {ds : List PyData}, DpAll K H vs ds → vs.length = ds.length
  | _, _, .nil => rfl
  | _, _, .cons _ t => by simp [DpAll.length t]
theorem DpAll.app {K : PySem.W.Frag} {H : Hp} : ∀ {vs ws : List V} {ds es : List PyData}, DpAll K H vs ds → DpAll K H ws es → DpAll K H (vs ++ ws) (ds ++ es)
  | _, _, _, _, .nil, t => t
  | _, _, _, _, .cons h a, t => .cons h (DpAll.app a t)

/-! ### repr of data -/
mutual
theorem Dp.noDict {K : PySem.W.Frag} {H : Hp} : ∀ {v : V} {d : PyData}, Dp K H v d → d.hasDict = false
  | _, _, .non => rfl
  | _, _, .bl _ => rfl
  | _, _, .int _ => rfl
  | _, _, .str _ => rfl
  | _, _, .lst _ a => by simp only [PyData.hasDict]; exact DpAll.noDict a
  | _, _, .tup _ a => by simp only [PyData.hasDict]; exact DpAll.noDict a
theorem DpAll.noDict {K : PySem.W.Frag} {H : Hp} : ∀ {vs : List V} {ds : List PyData}, DpAll K H vs ds → PyData.hasDictAll ds = false
  | _, _, .nil => rfl
  | _, _, .cons h a => by simp only [PyData.hasDictAll, Dp.noDict h, DpAll.noDict a, Bool.or_self]
end
/-- what repr asks of data -/
structure ShowOk (d : PyData) : Prop where
  ok : d.showable = true
  dp : d.depth ≤ 60
  sz : d.shown.length ≤ sizeLine
def rRepr (K : PySem.W.Frag) : List V → Hp → VK → Prop := fun xs H Q => ∃ v d, xs = [v] ∧ Dp K H v d ∧ ShowOk d ∧ Q (.str d.shown) H
section
variable {X : Cx}
theorem call_repr_data (hg : X.A.guards = some []) (hu : X.A.units + 64 < cLine) : CallR X (.builtin "repr") (rRepr X.K) := by
  intro pins s σ H xs us Q I r h
  obtain ⟨v, d, rfl, hd, ⟨hs, hdp, hsz⟩, q⟩ := h
  obtain ⟨u, rfl, rv⟩ := vals1 r
  obtain ⟨as, rr⟩ := Dp.reads I d v u hd rv
  have nd := Dp.noDict hd
  cases d with
  | none => cases rr; exact PySem.P.repr_of_none ⟨.str _, H, I.tok _, ⟨_, rfl⟩, q⟩
  | bool b => cases rr; exact PySem.P.repr_of_bool ⟨.str _, H, I.tok _, ⟨_, rfl⟩, by simpa [PyData.shown] using q⟩
  | int i => cases rr; exact PySem.P.repr_of_int (of_decide_eq_true (by simpa [PyData.showable] using hs)) ⟨.str _, H, I.tok _, ⟨_, rfl⟩, by simpa [PyData.shown] using q⟩
  | str x => cases rr; exact PySem.P.repr_of_str (hsz := by simpa [PyData.shown] using hsz) ⟨.str _, H, I.tok _, ⟨_, rfl⟩, by simpa [PyData.shown] using q⟩
  | list ds =>
    obtain ⟨a, rfl⟩ := PyProof.Rows.isRef_of_reads rr rfl
    exact repr_of_reads' rr hs (PyData.noDict_hsm nd) hg (by omega) (fun _ _ e => e) (fun h' u tk hk => ⟨.str _, H, I.kept hk, ⟨_, rfl⟩, q⟩) hsz
  | tuple ds =>
    obtain ⟨a, rfl⟩ := PyProof.Rows.isRef_of_reads rr rfl
    exact repr_of_reads' rr hs (PyData.noDict_hsm nd) hg (by omega) (fun _ _ e => e) (fun h' u tk hk => ⟨.str _, H, I.kept hk, ⟨_, rfl⟩, q⟩) hsz
  | dict kv => cases hd
end

/-! ### the law's own call -/
/-- the heap behind the top, seen with the script at a locked, or with nothing tracked -/
theorem law_callG {P : Program} {w : World} {K : PySem.W.Frag} {mg mb : Str → Option Value} {CX : CXT} {k : Nat} {fa a : Addr} {fd : FuncData} {x : Str} {sp : Sp} {s₁ : Shared} {vs : List Value} {ns : List Int}
    (inn : K.In s₁.heap) (hns : s₁.heap.Ns mainGlobals mg) (hb : s₁.heap.Ns builtinsNs mb) (hbb : ∀ x : Str, x ≠ "__name__" → mb x = bootBuiltins x) (hlim : s₁.heap.NoLimit) (hgens : s₁.gens = #[])
    (ha : s₁.heap.get? a = some { cls := .type "list", data := .seq vs.toArray }) (hi : IntsAre vs ns) (hl : ns.length ≤ sizeLine) (hr : Room k callerA)
    (F : ∀ base : Heap, K.In base → base.Ns mainGlobals mg → FnG P w K mg base CX k fa fd [x] sp) (hbind : ∀ (s : Shared) (u : Value), BindsTo s fd ⟨[u], []⟩ [(x, u)])
    (hsp : ∀ H : Hp, Only H → SqL K H a (ns.map V.int) → sp [.ref a] H (fun v _ => v = .bl true) fun _ _ _ => False)
    (hCX : ∀ H e s', CX [] H s₁ (fun _ _ _ => False) e s' → False) :
    codeAny (model P w) callerA (.call (.ref fa) ⟨[.ref a], []⟩) (fun r s' => r = .ok (.ret (.bool true)) ∧ OldK s₁.heap s'.heap ∧ s'.os = s₁.os ∧ AllBare s'.gens) s₁ := by
  have rv := vals_ints hi
  have run : ∀ H : Hp, Only H → SqL K H a (ns.map V.int) → HOk P w H s₁.heap → (∀ b u, H b = some u → b = a ∧ K.lookup a = none) →
      codeAny (model P w) callerA (.call (.ref fa) ⟨[.ref a], []⟩) (fun r s' => r = .ok (.ret (.bool true)) ∧ OldK s₁.heap s'.heap ∧ s'.os = s₁.os ∧ AllBare s'.gens) s₁ := by
    intro H only hS hok at_a
    -- what is no list stays in the base
    have free : ∀ {b : Addr} {o : Obj}, s₁.heap.get? b = some o → (∀ its n, o.data ≠ .seq its n) → H b = none := fun {b o} e hd => by
      cases q : H b with
      | none => rfl
      | some u =>
        obtain ⟨rfl, _⟩ := at_a b u q
        rw [ha] at e; cases e
        exact absurd rfl (hd _ _)
    have names : ∀ {b : Addr} {m : Str → Option Value}, s₁.heap.Ns b m → (hidT s₁.heap H).Ns b m := fun {b m} hn => by
      obtain ⟨o, es, ep, e, d, r⟩ := hn
      exact ⟨o, es, ep, hidT_get e (free e fun its n z => by rw [d] at z; cases z), d, r⟩
    have inb : K.In (hidT s₁.heap H) := fun b o e => by
      refine hidT_get (inn b o e) ?_
      cases q : H b with
      | none => rfl
      | some u =>
        obtain ⟨rfl, hk⟩ := at_a b u q
        rw [e] at hk; cases hk
    have md : Mod K mg (hidT s₁.heap H) := by
      obtain ⟨mc, h1, h2⟩ := hlim
      exact ⟨inb, names hns, ⟨mb, names hb, hbb⟩, ⟨mc, names h1, h2⟩⟩
    have none_in : ∀ b : Addr, b ∉ ([] : List Addr) := fun b z => nomatch z
    have e0 : Env0 P w K mg (hidT s₁.heap H) callerA [] s₁ H := ⟨rfl, md, fun b o e => of_hidT e, Nat.le_of_eq (hidT_size _ _), trivial, fun b z => absurd z (none_in b), hok, .of_eq hgens⟩
    refine codeAny_mono ((F _ inb (names hns)).run callerA [] s₁ H ⟨[.ref a], []⟩ [.ref a] [.ref a] _ _ hr rfl e0 (hbind s₁ (.ref a)) (.cons rfl .nil) (hsp H only hS)) fun r s' h => ?_
    match r, h with
    | .error e, h => exact (hCX H e s' h).elim
    | .ok .next, h => exact False.elim h
    | .ok .brk, h => exact False.elim h
    | .ok .cont, h => exact False.elim h
    | .ok (.ret u), h =>
      obtain ⟨v, H', os, bare, un, hok', r', q⟩ := h
      obtain rfl : v = V.bl true := q
      obtain rfl : u = Value.bool true := r'
      refine ⟨rfl, OldK.of_keep fun b o e => ?_, os, bare⟩
      cases q : H b with
      | none => exact un.keep b o e q (none_in b) (none_in b)
      | some u =>
        rcases only b with z | ⟨ob, xs, z⟩
        · rw [q] at z; cases z
        · have e1 : s₁.heap.get? b = some ob := (hok b _ z).1
          rw [e] at e1; cases e1
          exact (hok' b _ (un.frzs b o _ z)).1
  cases hk : K.lookup a with
  | some o =>
    have e := inn a o hk
    rw [ha] at e; cases e
    have sz : vs.toArray.size ≤ sizeLine := by rw [List.size_toArray, hi.length]; exact hl
    exact run (fun _ => none) (fun _ => .inl rfl) (.inr ⟨_, vs.toArray, _, hk, rfl, rfl, rfl, sz, by simpa using rv⟩) (fun b u z => nomatch (show (none : Option HO) = some u from z)) fun b u z => nomatch (show (none : Option HO) = some u from z)
  | none =>
    let u0 : HO := .frz { cls := .type "list", data := .seq vs.toArray } (.lst (ns.map V.int))
    have at1 : ∀ b u, upd (fun _ => none) a u0 b = some u → b = a ∧ u = u0 := fun b u z => by
      by_cases hb : b = a
      · subst hb; rw [upd_same] at z; exact ⟨rfl, (Option.some.inj z).symm⟩
      · rw [upd_ne hb] at z; cases z
    refine run (upd (fun _ => none) a u0) (fun b => ?_) (.inl (.inr ⟨_, upd_same⟩)) (fun b u z => ?_) fun b u z => ⟨(at1 b u z).1, hk⟩
    · by_cases hb : b = a
      · subst hb; exact .inr ⟨_, _, upd_same⟩
      · exact .inl (by rw [upd_ne hb])
    · obtain ⟨rfl, rfl⟩ := at1 b u z
      exact ⟨ha, by rw [List.length_map]; exact hl, vs, _, rv, ha⟩
theorem walkG {l : PySem.W.OpenLaw} {n k : Nat} {q : Program} {loose : List Str} {XP : (Str → Option Value) → Heap → Prop} {YP : World → Heap → Prop} {d : DefRec} {K : Params → PySem.W.Frag} {CX : CXT} {sp : PySem.W.Frag → Sp} {x : Str}
    (hn : l.most = some n) (hn2 : n ≤ sizeLine) (hdf : d.params.defaults = []) (hr : Room k callerA)
    (hY : ∀ (w : World) (h : Heap), YP w h → (K w.params).In h)
    (F : ∀ (w : World) (mg : Str → Option Value) (fa : Addr) (h : Heap), (K w.params).In h → h.Ns mainGlobals mg → mg d.name = some (.ref fa) →
      ∃ fd : FuncData, (∀ (s : Shared) (u : Value), BindsTo s fd ⟨[u], []⟩ [(x, u)]) ∧
        ∀ base : Heap, (K w.params).In base → base.Ns mainGlobals mg → FnG l.prog w (K w.params) mg base CX k fa fd [x] (sp (K w.params)))
    (hsp : ∀ (K : PySem.W.Frag) (H : Hp) (a : Addr) (ns : List Int), ns.length ≤ n → Only H → SqL K H a (ns.map V.int) → sp K [.ref a] H (fun v _ => v = .bl true) fun _ _ _ => False)
    (hCX : ∀ (H : Hp) (s : Shared) (e : Value) (s' : Shared), CX [] H s (fun _ _ _ => False) e s' → False) :
    PySem.W.WalkO q loose XP YP l.row.toRowW d [] (fun f vs => PySem.call f vs) :=
  Att.attach_call hn hdf fun w s₀ s₁ mg mb fa o pm cd doc a vs ns G Y ho hd hcd hmg hobj hints hlen hg =>
    let ⟨fd, hb, hF⟩ := F w mg fa _ (hY w _ Y) G.T.g hmg
    law_callG (hY w _ Y) G.T.g G.T.b G.T.builtins G.T.nolimit hg hobj hints (Nat.le_trans hlen hn2) hr hF hb (fun H hO hS => hsp (K w.params) H a ns hlen hO hS) fun H e s' => hCX H s₁ e s'
/-- from the top's facts: the law's def and its arguments -/
theorem law_use {P : Program} {w : World} {K : PySem.W.Frag} {mg : Str → Option Value} {h : Heap} {CX : CXT} {k : Nat} {fa : Addr} {st : Stmt} {x : Str} {sp : Sp} (L : HasFn K "law" st) (X : K.In h) (G : h.Ns mainGlobals mg) (hfa : mg "law" = some (.ref fa))
    (hb : ∀ (kV doc pm : Value) (an : Option Addr) (cdv ct v : Value), bindArgs (PySem.W.fnOf "law" "law" (defArgs st) (defBody st) (defScope st) .none kV doc pm an cdv ct) ⟨[v], []⟩ = pure [(x, v)])
    (ok : ∀ base : Heap, K.In base → base.Ns mainGlobals mg → ∀ fd, Fun K "law" "law" st fa fd → FnG P w K mg base CX k fa fd [x] sp) :
    ∃ fd : FuncData, (∀ (s : Shared) (v : Value), BindsTo s fd ⟨[v], []⟩ [(x, v)]) ∧ ∀ base : Heap, K.In base → base.Ns mainGlobals mg → FnG P w K mg base CX k fa fd [x] sp := by
  obtain ⟨f, oc, od, an, kV, doc, pm, cdv, ct, osl, e, l, c, kp⟩ := L
  have z := hfa.symm.trans (PySem.W.mg_of X G e)
  cases z
  have Fn := fun_mk (st := st) l c kp
  exact ⟨_, fun s v => .of_eq (hb ..), fun base h1 h2 => ok base h1 h2 _ Fn⟩

/-! ### tests whose answer is known -/
theorem iteFb {c : Bool} {A B : Prop} (h : c = false) (b : B) : if c = true then A else B := by rw [h]; exact iteF b
theorem iteTb {c : Bool} {A B : Prop} (h : c = true) (a : A) : if c = true then A else B := by rw [h]; exact iteT a
theorem ite3 {c : Bool} {A B : Prop} (h1 : c = true → A) (h2 : c = false → B) : if c = true then A else B := by
  cases c with
  | true => exact iteT (h1 rfl)
  | false => exact iteF (h2 rfl)

/-! ### constants of the top -/
def HasInt (K : PySem.W.Frag) (x : Str) (n : Int) : Prop := ∃ (t : Tok) (m : Int), PySem.W.nsIn K mainGlobals x = some (some (.int m t)) ∧ m = n
def KTup (K : PySem.W.Frag) (a : Addr) (xs : List V) : Prop := ∃ (od : Option Addr) (its : Array Value) (n : Nat) (sl : Array (Option Value)), K.lookup a = some ⟨.type "tuple", od, .seq its n, sl⟩ ∧ its.size ≤ sizeLine ∧ Vals xs its.toList
def HasTup (K : PySem.W.Frag) (x : Str) (xs : List V) : Prop := ∃ a, PySem.W.nsIn K mainGlobals x = some (some (.ref a)) ∧ KTup K a xs
theorem KTup.sq {K : PySem.W.Frag} {a : Addr} {xs : List V} (h : KTup K a xs) (H : Hp) : SqT K H a xs := by
  obtain ⟨od, its, n, sl, e, z, v⟩ := h
  exact .inr ⟨_, its, n, e, rfl, rfl, z, v⟩
/-- the module's names, as the defs see them -/
def GInt (mg : Str → Option Value) (x : Str) (n : Int) : Prop := ∃ t, mg x = some (.int n t)
def GTup (K : PySem.W.Frag) (mg : Str → Option Value) (x : Str) (xs : List V) : Prop := ∃ a, mg x = some (.ref a) ∧ KTup K a xs
theorem HasInt.g {K : PySem.W.Frag} {mg : Str → Option Value} {h : Heap} {x : Str} {n : Int} (i : HasInt K x n) (X : K.In h) (G : h.Ns mainGlobals mg) : GInt mg x n := by
  obtain ⟨t, m, e, rfl⟩ := i
  exact ⟨t, PySem.W.mg_of X G e⟩
theorem HasTup.g {K : PySem.W.Frag} {mg : Str → Option Value} {h : Heap} {x : Str} {xs : List V} (i : HasTup K x xs) (X : K.In h) (G : h.Ns mainGlobals mg) : GTup K mg x xs := by
  obtain ⟨a, e, k⟩ := i
  exact ⟨a, PySem.W.mg_of X G e, k⟩
section
variable {X : Cx} {x : Str} {pos : Pos}
theorem pe_globI {n : Int} (h : GInt X.mg x n) (hg : Gl X x) (hd : (x == ("__debug__" : Str)) = false := by decide) : PE X (.Name x pos) (tC (.int n)) := by
  obtain ⟨t, e⟩ := h
  exact pe_glob hg e ⟨t, rfl⟩ hd
/-- a tuple of the top: it is read as xs, wherever it stands -/
def tGT (K : PySem.W.Frag) (xs : List V) : TE := fun _ H Q => ∀ a, KTup K a xs → Q (.ref a) H
theorem pe_globT {xs : List V} (h : GTup X.K X.mg x xs) (hg : Gl X x) (hd : (x == ("__debug__" : Str)) = false := by decide) : PE X (.Name x pos) (tGT X.K xs) := by
  obtain ⟨a, e, k⟩ := h
  exact ⟨fun pins s σ H Q I q => (pe_glob (v := .ref a) hg e rfl hd).run pins s σ H Q I (q a k)⟩
end

/-! ### // by any divisor but 0 -/
def CDivX (_ j : Int) : Prop := j ≠ 0 ∧ j.natAbs.log2 < 9000
theorem op_fdivX {X : Cx} : OpR X (binaryOp .FloorDiv) (rI CDivX fun i j => .int (i.fdiv j)) := opI fun _ _ _ _ _ _ _ hc q => floordiv_int hc.1 q (.inl (PyProof.noPylong_of_log2 hc.2))
theorem fdiv_le_pos (i : Int) {j : Int} (hj : 0 < j) : (i.fdiv j).natAbs ≤ i.natAbs + 1 := by
  have e := Int.mul_fdiv_add_fmod i j
  have h0 := Int.fmod_nonneg_of_pos i hj
  have h1 := Int.fmod_lt_of_pos i hj
  have a : (i.fdiv j).natAbs ≤ (j * i.fdiv j).natAbs := by
    rw [Int.natAbs_mul]; exact Nat.le_mul_of_pos_left _ (by omega)
  by_cases hi : 0 ≤ i
  · have : 0 ≤ i.fdiv j := Int.fdiv_nonneg hi (by omega)
    have : 0 ≤ j * i.fdiv j := Int.mul_nonneg (by omega) this
    omega
  · have q : i.fdiv j ≤ -1 := by
      by_cases z : 0 ≤ i.fdiv j
      · have := Int.mul_nonneg (show 0 ≤ j by omega) z
        omega
      · omega
    have r : -1 + i ≤ i.fdiv j := by
      have : i.fdiv j * (j - 1) ≤ (-1) * (j - 1) := Int.mul_le_mul_of_nonneg_right q (by omega)
      have e2 : j * i.fdiv j = i.fdiv j * (j - 1) + i.fdiv j := by rw [Int.mul_sub, Int.mul_one, Int.mul_comm]; omega
      omega
    omega
theorem fdiv_le (i j : Int) : (i.fdiv j).natAbs ≤ i.natAbs + 1 := by
  by_cases h : 0 < j
  · exact fdiv_le_pos i h
  · by_cases h2 : j = 0
    · subst h2; rw [Int.fdiv_zero]; omega
    · have e : i.fdiv j = (-i).fdiv (-j) := by rw [Int.neg_fdiv_neg]
      have := fdiv_le_pos (-i) (show 0 < -j by omega)
      rw [e]; omega

/-! ### how long a shown thing is at most -/
structure Sm (d : PyData) (dp N : Nat) : Prop where
  ok : d.showable = true
  dp : d.depth ≤ dp
  sz : d.shown.length ≤ N
structure SmAll (ds : List PyData) (dp n N : Nat) : Prop where
  ok : PyData.showableAll ds = true
  dp : PyData.depthAll ds ≤ dp
  len : ds.length ≤ n
  sz : ((PyData.shownAll ds).map (·.length)).sum ≤ N
theorem Sm.show {d : PyData} {dp N : Nat} (h : Sm d dp N) (h1 : dp ≤ 60) (h2 : N ≤ sizeLine) : ShowOk d := ⟨h.ok, Nat.le_trans h.dp h1, Nat.le_trans h.sz h2⟩
theorem Sm.mono {d : PyData} {dp N dp' N' : Nat} (h : Sm d dp N) (h1 : dp ≤ dp') (h2 : N ≤ N') : Sm d dp' N' := ⟨h.ok, Nat.le_trans h.dp h1, Nat.le_trans h.sz h2⟩
theorem shownAll_length : ∀ ds : List PyData, (PyData.shownAll ds).length = ds.length
  | [] => rfl
  | d :: ds => by simp [PyData.shownAll, shownAll_length ds]
theorem Sm.int {i : Int} (h : i.natAbs < 2 ^ 1900) : Sm (.int i) 0 2000 := by
  have hl : i.natAbs.log2 < 1900 := PySem.Flt.log2_lt_of (by decide) h
  refine ⟨?_, Nat.le_refl 0, ?_⟩
  · simp only [PyData.showable, decide_eq_true_eq]; omega
  · have e := int_text_length_le (k := 1900) (by decide) hl
    show (Str.ofString (toString i)).length ≤ 2000
    rw [PySem.ofString_length]; omega
theorem Sm.bool (b : Bool) : Sm (.bool b) 0 10 := ⟨rfl, Nat.le_refl 0, by cases b <;> decide +kernel⟩
theorem Sm.none : Sm .none 0 10 := ⟨rfl, Nat.le_refl 0, by decide +kernel⟩
theorem Sm.str {x : Str} {n : Nat} (h : x.length ≤ n) (hc : ∀ c ∈ x.cps.toList, c < 16 ^ 8) : Sm (.str x) 0 (10 * n + 2) := ⟨rfl, Nat.le_refl 0, by
  have e := PySem.StrLaws.reprText_len x hc
  show (reprText x).length ≤ _
  omega⟩
theorem SmAll.nil : SmAll [] 0 0 0 := ⟨rfl, Nat.le_refl 0, Nat.le_refl 0, Nat.le_refl 0⟩
theorem SmAll.cons {d : PyData} {ds : List PyData} {dp dp' n N M : Nat} (h : Sm d dp N) (t : SmAll ds dp' n M) : SmAll (d :: ds) (max dp dp') (n + 1) (N + M) := by
  have h1 := h.dp
  have h2 := t.dp
  refine ⟨by simp [PyData.showableAll, h.ok, t.ok], ?_, by have := t.len; simp; omega, ?_⟩
  · simp only [PyData.depthAll]; omega
  · have := h.sz
    have := t.sz
    simp only [PyData.shownAll, List.map_cons, List.sum_cons]; omega
theorem Sm.tup {ds : List PyData} {dp n N : Nat} (h : SmAll ds dp n N) : Sm (.tuple ds) (dp + 1) (N + 2 * n + 3) := by
  refine ⟨by simpa [PyData.showable] using h.ok, by simp only [PyData.depth]; have := h.dp; omega, ?_⟩
  have e := tupleText_len_le (PyData.shownAll ds)
  have := h.sz
  have := h.len
  rw [shownAll_length] at e
  show (tupleText (PyData.shownAll ds)).length ≤ _
  omega
theorem Sm.lst {ds : List PyData} {dp n N : Nat} (h : SmAll ds dp n N) : Sm (.list ds) (dp + 1) (N + 2 * n + 3) := by
  refine ⟨by simpa [PyData.showable] using h.ok, by simp only [PyData.depth]; have := h.dp; omega, ?_⟩
  have e := listText_len_le (PyData.shownAll ds)
  have := h.sz
  have := h.len
  rw [shownAll_length] at e
  show (listText (PyData.shownAll ds)).length ≤ _
  omega
theorem SmAll.many {dp N : Nat} : ∀ {ds : List PyData}, (∀ d ∈ ds, Sm d dp N) → SmAll ds dp ds.length (N * ds.length)
  | [], _ => ⟨rfl, Nat.zero_le _, Nat.le_refl 0, Nat.zero_le _⟩
  | d :: ds, h => by
    have t := SmAll.cons (h d (by simp)) (SmAll.many (fun e he => h e (List.mem_cons_of_mem _ he)))
    rw [Nat.max_self] at t
    refine ⟨t.ok, t.dp, t.len, Nat.le_trans t.sz ?_⟩
    rw [List.length_cons, Nat.mul_succ]; omega
theorem sz_0 : (0 : Nat) ≤ sizeLine := by decide
theorem sz_1 : (1 : Nat) ≤ sizeLine := by decide
theorem sz_2 : (2 : Nat) ≤ sizeLine := by decide
theorem sz_3 : (3 : Nat) ≤ sizeLine := by decide
theorem sz_4 : (4 : Nat) ≤ sizeLine := by decide
theorem sz_5 : (5 : Nat) ≤ sizeLine := by decide
/-! ### the ends: each premise a fact that k_is finds -/
theorem HasFn.mk' {K : PySem.W.Frag} {x : Str} {st : Stmt} {f : Addr} {oc : Value} {od an : Option Addr} {kV doc pm cdv ct : Value} {osl : Array (Option Value)} (a : PySem.W.nsIn K mainGlobals x = some (some (.ref f)))
    (b : K.lookup f = some ⟨oc, od, .func (PySem.W.fnOf x x (defArgs st) (defBody st) (defScope st) .none kV doc pm an cdv ct), osl⟩) (c : PySem.W.codeIn K cdv x = true) (d : PySem.W.keepIn K (.ref f) = true) : HasFn K x st :=
  ⟨f, oc, od, an, kV, doc, pm, cdv, ct, osl, a, b, c, d⟩
theorem HasInt.mk' {K : PySem.W.Frag} {x : Str} {n m : Int} {t : Tok} (a : PySem.W.nsIn K mainGlobals x = some (some (.int m t))) (e : m = n) : HasInt K x n := ⟨t, m, a, e⟩
theorem HasTup.mk' {K : PySem.W.Frag} {x : Str} {xs : List V} {a : Addr} {od : Option Addr} {its : Array Value} {n : Nat} {sl : Array (Option Value)} (h : PySem.W.nsIn K mainGlobals x = some (some (.ref a)))
    (b : K.lookup a = some ⟨.type "tuple", od, .seq its n, sl⟩) (z : its.size ≤ sizeLine) (v : Vals xs its.toList) : HasTup K x xs := ⟨a, h, od, its, n, sl, b, z, v⟩
/-! ### what the laws' helpers promise -/
/-! the digits and the place -/
def BoxAt (H : Hp) (p dl : Addr) : Prop := ∃ (ds : List Int) (k : Int), H p = some (.lst [.ref dl, .int k]) ∧ 0 ≤ k ∧ H dl = some (.lst (ds.map V.int)) ∧ ds.length ≤ 4000 ∧ ∀ d ∈ ds, 0 ≤ d ∧ d < 1000
theorem BoxAt.at_ {H : Hp} {p dl : Addr} (h : BoxAt H p dl) : ∃ xs, H p = some (.lst xs) := let ⟨_, _, a, _⟩ := h; ⟨_, a⟩
theorem BoxAt.dg {H : Hp} {p dl : Addr} (h : BoxAt H p dl) : ∃ xs, H dl = some (.lst xs) := let ⟨_, _, _, _, c, _⟩ := h; ⟨_, c⟩
def Keep (p : Addr) (H H' : Hp) : Prop := ∀ b o, H b = some o → b ≠ p → H' b = some o
def spDraw (K : PySem.W.Frag) : Sp := fun vs H Q _ => ∃ (p dl : Addr) (m : Int), vs = [.ref p, .int m] ∧ BoxAt H p dl ∧ 0 < m ∧ ∀ r H', 0 ≤ r → r < m → BoxAt H' p dl → Keep p H H' → Q (.int r) H'
def spCell (K : PySem.W.Frag) : Sp := fun vs H Q _ => ∃ (a : Addr) (ns : List Int) (i : Int), vs = [.ref a, .int i] ∧ SqL K H a (ns.map V.int) ∧ 0 ≤ i ∧ ∀ r, Q (.int r) H
def DigAt (H0 H : Hp) (dl : Addr) (n : Nat) : Prop := ∃ ds : List Int, H dl = some (.lst (ds.map V.int)) ∧ ds.length ≤ n ∧ (∀ d ∈ ds, 0 ≤ d ∧ d < 1000) ∧ Same H0 H
theorem DigAt.mono {H0 H : Hp} {dl : Addr} {n m : Nat} (h : DigAt H0 H dl n) (l : n ≤ m) : DigAt H0 H dl m := let ⟨ds, a, b, c, d⟩ := h; ⟨ds, a, by omega, c, d⟩
theorem DigAt.add {H0 H : Hp} {dl : Addr} {n : Nat} {r : Int} {xs : List V} (h : DigAt H0 H dl n) (hx : H dl = some (.lst xs)) (nd : H0 dl = none) (h0 : 0 ≤ r) (h1 : r < 1000) : DigAt H0 (upd H dl (.lst (xs ++ [.int r]))) dl (n + 1) := by
  obtain ⟨ds, a, b, c, d⟩ := h
  rw [hx] at a
  obtain rfl := HO.lst.inj (Option.some.inj a)
  refine ⟨ds ++ [r], by rw [upd_same, List.map_append]; rfl, by simp; omega, fun z hz => ?_, fun q o e => by rw [upd_ne (ne_of_none e nd)]; exact d q o e⟩
  rcases List.mem_append.mp hz with hz | hz
  · exact c z hz
  · have : z = r := by simpa using hz
    omega
def spDigits (K : PySem.W.Frag) : Sp := fun vs H Q _ => ∃ (a : Addr) (ns : List Int) (lo hi : Nat), vs = [.ref a, .int lo, .int hi] ∧ SqL K H a (ns.map V.int) ∧ lo ≤ hi ∧ hi ≤ 64 ∧
  ∀ (p : Addr) (H' : Hp), H p = none → DigAt H H' p 4000 → Q (.ref p) H'
def spBound : Sp := fun vs H Q _ => vs = [] ∧ Q (.int (2 ^ 256)) H
theorem Keep.trans {p : Addr} {H H1 H2 : Hp} (a : Keep p H H1) (b : Keep p H1 H2) : Keep p H H2 := fun c o h ne => b c o (a c o h ne) ne
theorem Keep.refl (p : Addr) (H : Hp) : Keep p H H := fun _ _ h _ => h
def Sgn (z : Int) : Prop := z = 1 ∨ z = -1
theorem Sgn.mul {z n : Int} (h : Sgn z) : (z * n).natAbs = n.natAbs := by
  rcases h with rfl | rfl <;> omega
theorem Sgn.wide {z n : Int} (h : Sgn z) (hn : n.natAbs < 2 ^ 300) : CMulW z n := wide_mul (a := 2) (b := 300) (by rcases h with rfl | rfl <;> decide) hn (by decide) (by decide) (by decide)
def spNumber (K : PySem.W.Frag) : Sp := fun vs H Q _ => ∃ (p dl : Addr), vs = [.ref p] ∧ BoxAt H p dl ∧ ∀ (n : Int) H', n.natAbs < 2 ^ 260 → BoxAt H' p dl → Keep p H H' → Q (.int n) H'
def spSame (K : PySem.W.Frag) : Sp := fun vs H Q _ => ∃ (x y : V) (d : PyData), vs = [x, y] ∧ Dp K H x d ∧ Dp K H y d ∧ ShowOk d ∧ Q (.bl true) H
theorem Same.keep {p : Addr} {H H' : Hp} (e : Same H H') : Keep p H H' := fun b o h _ => e b o h
theorem BoxAt.same {p dl : Addr} {H H' : Hp} (h : BoxAt H p dl) (e : Same H H') : BoxAt H' p dl := by
  obtain ⟨ds, k, a, b, c, d⟩ := h
  exact ⟨ds, k, e _ _ a, b, e _ _ c, d⟩
theorem BoxAt.upd {p dl l : Addr} {H : Hp} {o : HO} (h : BoxAt H p dl) (h1 : l ≠ p) (h2 : l ≠ dl) : BoxAt (L2.upd H l o) p dl := by
  obtain ⟨ds, k, a, b, c, d⟩ := h
  exact ⟨ds, k, by rw [upd_ne (Ne.symm h1)]; exact a, b, by rw [upd_ne (Ne.symm h2)]; exact c, d⟩
theorem strOk (s : Str) (h : s.cps.toList.all (fun c => decide (c < 16 ^ 8)) = true) : ∀ c ∈ s.cps.toList, c < 16 ^ 8 := fun c hc => of_decide_eq_true (List.all_eq_true.mp h c hc)

/-! ### data without lists: what no change of a list can reach -/
mutual
inductive Dt (K : PySem.W.Frag) (H : Hp) : V → PyData → Prop
  | non : Dt K H .non .none
  | bl (b : Bool) : Dt K H (.bl b) (.bool b)
  | int (i : Int) : Dt K H (.int i) (.int i)
  | str (x : Str) : Dt K H (.str x) (.str x)
  | tup {a : Addr} {xs : List V} {ds : List PyData} : SqT K H a xs → DtAll K H xs ds → Dt K H (.ref a) (.tuple ds)
inductive DtAll (K : PySem.W.Frag) (H : Hp) : List V → List PyData → Prop
  | nil : DtAll K H [] []
  | cons {v : V} {vs : List V} {d : PyData} {ds : List PyData} : Dt K H v d → DtAll K H vs ds → DtAll K H (v :: vs) (d :: ds)
end
mutual
theorem Dt.dp {K : PySem.W.Frag} {H : Hp} : ∀ {v : V} {d : PyData}, Dt K H v d → Dp K H v d
  | _, _, .non => .non
  | _, _, .bl b => .bl b
  | _, _, .int i => .int i
  | _, _, .str x => .str x
  | _, _, .tup h a => .tup h (DtAll.dp a)
theorem DtAll.dp {K : PySem.W.Frag} {H : Hp} : ∀ {vs : List V} {ds : List PyData}, DtAll K H vs ds → DpAll K H vs ds
  | _, _, .nil => .nil
  | _, _, .cons h a => .cons (Dt.dp h) (DtAll.dp a)
end
/-- every tuple that H reads H' reads as well -/
def KeepT (K : PySem.W.Frag) (H H' : Hp) : Prop := ∀ a xs, SqT K H a xs → SqT K H' a xs
mutual
theorem Dt.keepT {K : PySem.W.Frag} {H H' : Hp} (e : KeepT K H H') : ∀ {v : V} {d : PyData}, Dt K H v d → Dt K H' v d
  | _, _, .non => .non
  | _, _, .bl b => .bl b
  | _, _, .int i => .int i
  | _, _, .str x => .str x
  | _, _, .tup h a => .tup (e _ _ h) (DtAll.keepT e a)
theorem DtAll.keepT {K : PySem.W.Frag} {H H' : Hp} (e : KeepT K H H') : ∀ {vs : List V} {ds : List PyData}, DtAll K H vs ds → DtAll K H' vs ds
  | _, _, .nil => .nil
  | _, _, .cons h a => .cons (Dt.keepT e h) (DtAll.keepT e a)
end
theorem KeepT.refl (K : PySem.W.Frag) (H : Hp) : KeepT K H H := fun _ _ h => h
theorem KeepT.trans {K : PySem.W.Frag} {H H1 H2 : Hp} (a : KeepT K H H1) (b : KeepT K H1 H2) : KeepT K H H2 := fun c xs h => b c xs (a c xs h)
theorem Same.keepT {K : PySem.W.Frag} {H H' : Hp} (e : Same H H') : KeepT K H H' := fun _ _ h => Same.tupl e h
theorem Keep.keepT {K : PySem.W.Frag} {p : Addr} {H H' : Hp} (e : Keep p H H') (hp : ∃ xs, H p = some (.lst xs)) : KeepT K H H' := fun a xs h => by
  obtain ⟨ys, hp⟩ := hp
  rcases h with (h | ⟨o, h⟩) | h
  · exact .inl (.inl (e _ _ h (ne_of h hp (by intro z; cases z))))
  · exact .inl (.inr ⟨o, e _ _ h (ne_of h hp (by intro z; cases z))⟩)
  · exact .inr h
theorem KeepT.upd {K : PySem.W.Frag} {p : Addr} {H : Hp} {o : HO} {xs : List V} (hp : H p = some (.lst xs)) : KeepT K H (upd H p o) :=
  Keep.keepT (p := p) (fun b u e hb => by rw [upd_ne hb]; exact e) ⟨xs, hp⟩
theorem Dt.mono {K : PySem.W.Frag} {H H' : Hp} {v : V} {d : PyData} (e : Same H H') (h : Dt K H v d) : Dt K H' v d := h.keepT (Same.keepT e)
theorem DtAll.mono {K : PySem.W.Frag} {H H' : Hp} {v : List V} {d : List PyData} (e : Same H H') (h : DtAll K H v d) : DtAll K H' v d := h.keepT (Same.keepT e)
theorem Dt.made {K : PySem.W.Frag} {H : Hp} {p : Addr} {xs : List V} {ds : List PyData} (hp : H p = none) (h : DtAll K H xs ds) : Dt K (L2.upd H p (.tup xs)) (.ref p) (.tuple ds) := .tup (SqT.of upd_same) (DtAll.mono (Same.new hp) h)
theorem DtAll.length {K : PySem.W.Frag} {H : Hp} {vs : List V} {ds : List PyData} (h : DtAll K H vs ds) : vs.length = ds.length := LK.DpAll.length h.dp
theorem DtAll.app {K : PySem.W.Frag} {H : Hp} : ∀ {vs ws : List V} {ds es : List PyData}, DtAll K H vs ds → DtAll K H ws es → DtAll K H (vs ++ ws) (ds ++ es)
  | _, _, _, _, .nil, t => t
  | _, _, _, _, .cons h a, t => .cons h (DtAll.app a t)
theorem DtAll.get {K : PySem.W.Frag} {H : Hp} : ∀ {vs : List V} {ds : List PyData} {i : Nat} {d : PyData}, DtAll K H vs ds → ds[i]? = some d → ∃ v, vs[i]? = some v ∧ Dt K H v d
  | _, _, 0, _, .cons h _, e => ⟨_, rfl, Option.some.inj e ▸ h⟩
  | _, _, i + 1, _, .cons _ a, e => DtAll.get (i := i) a e
theorem DtAll.getV {K : PySem.W.Frag} {H : Hp} : ∀ {vs : List V} {ds : List PyData} {i : Nat} {v : V}, DtAll K H vs ds → vs[i]? = some v → ∃ d, ds[i]? = some d ∧ Dt K H v d
  | _, _, 0, _, .cons h _, e => ⟨_, rfl, Option.some.inj e ▸ h⟩
  | _, _, i + 1, _, .cons _ a, e => DtAll.getV (i := i) a e
theorem Dt.tuple_inv {K : PySem.W.Frag} {H : Hp} {v : V} {ds : List PyData} (h : Dt K H v (.tuple ds)) : ∃ a xs, v = .ref a ∧ SqT K H a xs ∧ DtAll K H xs ds := by
  cases h with
  | tup h a => exact ⟨_, _, rfl, h, a⟩
theorem DtAll.cons_inv {K : PySem.W.Frag} {H : Hp} {vs : List V} {d : PyData} {ds : List PyData} (h : DtAll K H vs (d :: ds)) : ∃ v ws, vs = v :: ws ∧ Dt K H v d ∧ DtAll K H ws ds := by
  cases h with
  | cons h a => exact ⟨_, _, rfl, h, a⟩
theorem DtAll.nil_inv {K : PySem.W.Frag} {H : Hp} {vs : List V} (h : DtAll K H vs []) : vs = [] := by cases h; rfl
theorem Dt.int_inv {K : PySem.W.Frag} {H : Hp} {v : V} {i : Int} (h : Dt K H v (.int i)) : v = .int i := by cases h; rfl
theorem Dt.str_inv {K : PySem.W.Frag} {H : Hp} {v : V} {x : Str} (h : Dt K H v (.str x)) : v = .str x := by cases h; rfl
theorem Dt.bool_inv {K : PySem.W.Frag} {H : Hp} {v : V} {b : Bool} (h : Dt K H v (.bool b)) : v = .bl b := by cases h; rfl
theorem dtStrs {K : PySem.W.Frag} {H : Hp} : ∀ xs : List Str, DtAll K H (xs.map V.str) (xs.map PyData.str)
  | [] => .nil
  | x :: xs => .cons (.str x) (dtStrs xs)
end LK

set_option Elab.async false
set_option linter.all false
set_option maxRecDepth 100000
set_option maxHeartbeats 4000000
/-! enumerate of a tuple. -/
namespace LK
open PySem PySem.Spec PyProof.Rows L2
open AutoSeq1 (wpAny_loadPart')
open Sem (wp)
def enumObj (it : Addr) : Obj := { cls := .type "enumerate", data := .fields #[.none, .bool false, .ref it, rawInt 0, .none, .none] }
def tupIt (t : Addr) : Obj := { cls := .type "tuple_iterator", data := .fields #[.ref t, .int 0 0] }
theorem meets_enumT (t : Addr) (items : Array Value) (n : Nat) (dct : Option Addr) (sl : Array (Option Value)) :
    Meets (Builtin.«enumerate.__new__» ⟨[.type "enumerate", .ref t], []⟩) (fun _ R s => s.heap.get? t = some { cls := .type "tuple", dict := dct, data := .seq items n, slots := sl } ∧
      R (.ok (.ret (.ref (s.heap.push (tupIt t)).objs.size))) { s with heap := (s.heap.push (tupIt t)).push (enumObj s.heap.objs.size) }) :=
  .of_wp fun prog w A R s h => by
    obtain ⟨hp, g, d, tk, os⟩ := s
    obtain ⟨hl, h⟩ := h
    have hsub := sub_enumerate
    have hT : Heap.IsTuple (Shared.heap ⟨hp, g, d, tk, os⟩) t items := ⟨_, hl, rfl, n, rfl⟩
    wp_walk using wpAny_loadPart' hl
    refine wpAny_stack_any fun st => wpAny_pure ?_
    split
    · rename_i c _ _ _ _ _
      cases (c == Value.type "enumerate") <;> (wp_walk using wpAny_loadPart' hl, wpAny_pyIter_tuple hT; exact ⟨_, rfl, h⟩)
    · wp_walk using wpAny_loadPart' hl, wpAny_pyIter_tuple hT
      exact ⟨_, rfl, h⟩
section
variable {prog : Program} {w : World} {A : Around} {E : Value → Shared → Prop} {s : Shared}
theorem call_enumT {t : Addr} {items : Array Value} {Q : Value → Shared → Prop} (hT : s.heap.IsTuple t items)
    (h : ∀ h', IsEnum h' (s.heap.objs.size + 1) s.heap.objs.size 0 .none → h'.IsTupleIter s.heap.objs.size t 0 → (∀ b o, s.heap.get? b = some o → h'.get? b = some o) → Q (.ref (s.heap.objs.size + 1)) { s with heap := h' }) :
    wpAny (model prog w) A (call (.type "enumerate") [.ref t]) Q E s := by
  obtain ⟨⟨c, dct, dt, sl⟩, hl, hc, n, hd⟩ := hT
  obtain rfl : c = .type "tuple" := hc
  obtain rfl : dt = .seq items n := hd
  refine callType_new F.called_enumerate (by decide) (F.typeCall_enumerate_1 _) (F.newCall_enumerate_1 _) (fun obj => F.args_object_init_2 obj _) F.entry_enumerate_new (meets_enumT t items n dct sl) ⟨hl, ?_⟩
  have hz : (s.heap.push (tupIt t)).objs.size = s.heap.objs.size + 1 := Heap.size_push ..
  have he : IsEnum ((s.heap.push (tupIt t)).push (enumObj s.heap.objs.size)) (s.heap.objs.size + 1) s.heap.objs.size 0 .none := by
    have q := Heap.get?_push_size (s.heap.push (tupIt t)) (o := enumObj s.heap.objs.size) rfl
    rw [hz] at q
    exact q
  show _ ∧ _
  rw [hz]
  exact ⟨⟨_, he, rfl⟩, h _ he (Heap.get?_push_of_some _ (Heap.get?_push_size _ rfl) |> fun q => ⟨_, q, rfl, rfl⟩) fun b o x => Heap.get?_push_of_some _ (Heap.get?_push_of_some _ x)⟩
end
/-- the tuple at a, each item in a new pair with its place -/
def IteT (K : PySem.W.Frag) (a : Addr) : It where
  go := fun i H => ∃ (xs : List V) (x : V), SqT K H a xs ∧ xs[i]? = some x
  yld := fun i H v H' => ∃ T x, v = .ref T ∧ H T = none ∧ H' = upd H T (.tup [.int (i : Nat), x]) ∧ ∀ xs, SqT K H a xs → xs[i]? = some x
  stop := fun i H => ∃ xs : List V, SqT K H a xs ∧ xs.length = i
theorem turn_enumT {P : Program} {w : World} {K : PySem.W.Frag} {elts : List Expr} {kk : Nat} {tpos : Pos} (a e it : Addr) :
    Turn P w K (.Tuple elts kk tpos) (IteT K a) [e, it] e (fun i h => (∃ old, IsEnum h e it ((i : Nat) : Int) old) ∧ h.IsTupleIter it a i ∧ e ≠ it) where
  mem := List.mem_cons_self
  obj := fun i h st b hb => by
    obtain ⟨⟨old, he⟩, ⟨o, ho, hc, hd⟩, _⟩ := st
    have hb : b = e ∨ b = it := by simpa using hb
    rcases hb with rfl | rfl
    · exact ⟨_, he, fun v q => nomatch q⟩
    · exact ⟨o, ho, fun v q => by rw [hd] at q; cases q⟩
  keep := fun i h h' st k => by
    obtain ⟨⟨old, he⟩, hi, hne⟩ := st
    exact ⟨⟨old, k e (by simp) _ he⟩, hi.at fun o q => k it (by simp) o q, hne⟩
  item := by
    intro X hP hw hK hc i pins s σ H E I hf st hg
    subst hP hw hK
    obtain ⟨⟨old, he⟩, hit, hne⟩ := st
    obtain ⟨xs, x, hq, hx⟩ := hg
    obtain ⟨its, rv, p, hz⟩ := I.tuple hq
    obtain ⟨u, hu, ru⟩ := rv.get hx
    have hel : e < s.heap.objs.size := Heap.lt_size he
    have hil : it < s.heap.objs.size := by obtain ⟨_, q, _⟩ := hit; exact Heap.lt_size q
    have hat : a ≠ it := by
      intro z
      subst z
      obtain ⟨o, q1, c1, _⟩ := hit
      obtain ⟨o', q2, c2, _⟩ := p
      rw [q1] at q2; cases q2
      exact absurd (Value.type.inj (c1.symm.trans c2)) (by decide)
    have D := Draws.tuple (prog := X.prog) (w := X.w) (A := X.A.in1) (I.ok.hd hc) it a hat its.toArray
    have Dst : (fun i (h : Heap) => h.IsTupleIter it a i ∧ h.IsTuple a its.toArray) i s.heap := ⟨hit, p⟩
    have eat : e ≠ a := by
      intro z
      subst z
      obtain ⟨o', q2, c2, _⟩ := p
      rw [he] at q2; cases q2
      exact absurd (Value.type.inj c2) (by decide)
    have hi : i < its.toArray.size := by
      have := (List.getElem?_eq_some_iff.mp hu).1
      simpa using this
    refine wpAny_pyNext_enum_itemD D he Dst hi hne (by simp [hne, eat]) fun v h' tk hv ho hst hT hsz hk => ?_
    obtain rfl : v = u := by
      have hv : its.toArray[i]? = some v := hv
      rw [show its.toArray[i]? = some u by simpa using hu] at hv
      exact (Option.some.inj hv).symm
    refine ⟨_, rfl, wpAny_letOwnedTupleGo_enum (s := { s with heap := h', toks := tk + 1 }) ho fun h'' he' sb => ?_⟩
    have hT2 := (sb.2 _ (Nat.ne_of_gt hel)).trans hT
    have new : ObjOk X.prog X.w (upd H s.heap.objs.size (.tup [.int (i : Nat), x])) h'' s.heap.objs.size (.tup [.int (i : Nat), x]) :=
      ⟨by show 2 ≤ sizeLine; decide, [.int i tk, v], .cons ⟨_, rfl⟩ (.cons ru .nil), ⟨_, hT2, rfl, _, rfl⟩⟩
    have I1 : Inv X pins σ (upd H s.heap.objs.size (.tup [.int (i : Nat), x])) { s with heap := h'', toks := tk + 1 } :=
      I.turnedNew (ch := [e, it]) (fun b ob hb q => (sb.2 b (fun z => hb (by simp [z]))).trans (hk b ob (fun z => hb (by simp [z])) (fun z => hb (by simp [z])) q)) hf (Nat.le_refl _) new
    refine ⟨.ref s.heap.objs.size, _, I1, rfl, ⟨_, x, rfl, I.hok.fresh (Nat.le_refl _), rfl, fun ys hy => by rw [I.tuple_inj hy hq]; exact hx⟩, ⟨⟨v, ?_⟩, hst.1.at fun o q => (sb.2 it (Ne.symm hne)).trans q, hne⟩, fun b hb => ?_⟩
    · rw [show ((i + 1 : Nat) : Int) = (i : Int) + 1 by omega]
      exact he'
    · have hb' : b < s.heap.objs.size := by
        have z : b = e ∨ b = it := by simpa using hb
        rcases z with rfl | rfl <;> assumption
      rw [upd_ne (Nat.ne_of_lt hb')]
      exact (hf b hb).1
  done := by
    intro X hP hw hK hc i pins s σ H E I hf st hg
    subst hP hw hK
    obtain ⟨⟨old, he⟩, hit, hne⟩ := st
    obtain ⟨xs, hq, hx⟩ := hg
    obtain ⟨its, rv, p, hz⟩ := I.tuple hq
    obtain ⟨f0, f1, f2, f3, f4, f5⟩ := hf it (by simp)
    have hl := rv.length
    have hat : a ≠ it := by
      intro z
      subst z
      obtain ⟨o, q1, c1, _⟩ := hit
      obtain ⟨o', q2, c2, _⟩ := p
      rw [q1] at q2; cases q2
      exact absurd (Value.type.inj (c1.symm.trans c2)) (by decide)
    have D := Draws.tuple (prog := X.prog) (w := X.w) (A := X.A.in1) (I.ok.hd hc) it a hat its.toArray
    have hn : i = its.toArray.size := by simp; omega
    subst hn
    exact wpAny_pyNext_enum_endD D he ⟨hit, p⟩ fun h' eb => ⟨rfl, I.turned (t' := s.toks) (fun b o hb q => eb b o hb q) f0 f1 f3 f4 f5⟩
  self := fun A i s Q E st h => let ⟨⟨_, he⟩, _⟩ := st; wpAny_pyIter_enum he h
def iEnumT (K : PySem.W.Frag) (ta : TA) : TI := fun σ H R => ta σ H fun vs H1 => ∃ a xs, vs = [.ref a] ∧ SqT K H1 a xs ∧ R (IteT K a) H1
theorem pi_enumT {X : Cx} {e : Expr} {ta : TA} {p pos tpos : Pos} {elts : List Expr} {kk : Nat} (hg : Gl X "enumerate") (hm : X.mg "enumerate" = none) (ha : PA X [e] ta) (hs : starEach [e] X.env = [(false, eval e X.env)] := by rfl) :
    PI X (.Tuple elts kk tpos) (.Call (.Name "enumerate" p) [e] [] pos) (iEnumT X.K ta) := by
  refine ⟨fun pins s σ H R I h => ?_⟩
  refine Call_ (ld_blt I hg hm boot_enumerate (PyProof.Rows.callWith_type1 (thn (ha.run pos pins s σ H _ I h) fun us s1 ⟨vs, H1, I1, r1, q1⟩ => ?_) hs rfl))
  obtain ⟨a, xs, rfl, hq, q⟩ := q1
  cases r1 with
  | cons r rr =>
    cases rr
    cases r
    obtain ⟨its, rv, p', hz⟩ := I1.tuple hq
    refine call_enumT (show s1.heap.IsTuple a its.toArray from p') fun h' he hit hk => wpAny_pyIter_enum he ?_
    refine ⟨s1.heap.objs.size + 1, [s1.heap.objs.size + 1, s1.heap.objs.size], _, _, H1, rfl, I1.kept (t' := s1.toks) hk, turn_enumT a (s1.heap.objs.size + 1) s1.heap.objs.size, ⟨⟨.none, he⟩, hit, Nat.succ_ne_self _⟩, fun b hb => ?_, q⟩
    have hle : s1.heap.objs.size ≤ b := by
      have z : b = s1.heap.objs.size + 1 ∨ b = s1.heap.objs.size := by simpa using hb
      rcases z with rfl | rfl <;> omega
    exact I1.fpOk hle (I1.hok.fresh hle)
theorem walk_enumT {K : PySem.W.Frag} {a : Addr} {xs : List V} : Walk (IteT K a) xs.length (fun H => SqT K H a xs) (YPair (fun i => some (.int (i : Nat))) (fun i => xs[i]?)) := by
  refine ⟨fun i _ hi q => ⟨xs, xs[i], q, by simp [hi]⟩, fun _ q => ⟨xs, q, rfl⟩, fun i H v H' _ q y => ?_⟩
  obtain ⟨T, x, h1, h2, h3, h4⟩ := y
  exact ⟨T, .int (i : Nat), x, h1, h2, h3, rfl, h4 xs q⟩

/-! ### comprehensions whose items are data -/
theorem tYes_of {σ : L2.St} {H : Hp} {P R : Hp → Prop} (h : P H) : tYes σ H fun b H3 => if b = true then P H3 else R H3 := by
  show (if true = true then P H else R H)
  rw [if_pos rfl]
  exact h
/-- each turn gives data and leaves what stood; no test -/
theorem lc_dt {K : PySem.W.Frag} {J : It} {n : Nat} {G : Hp → Prop} {Y : Nat → Hp → V → Hp → Prop} (w : Walk J n G Y) {g : TG} {te : TE} {vs : List Nat} {σ : L2.St} {H : Hp} {D : Addr} {Qd : Hp → Prop} (hD : H D = none) (ds : List PyData) (hn : ds.length = n) (hz : n < sizeLine)
    (hG : ∀ H', Same H H' → G H')
    (hs : ∀ i x H1 H2 d (Nx : V → Hp → Prop), i < n → ds[i]? = some d → Same H H1 → (∃ acc, H1 D = some (.lst acc)) → Y i H1 x H2 → (∀ y H5, Same H1 H5 → Dt K H5 y d → Nx y H5) →
      g x (wipe σ vs) H2 fun σ2 H3 => wipe σ2 vs = wipe σ vs ∧ te σ2 H3 Nx)
    (hd : ∀ H' acc, Same H H' → H' D = some (.lst acc) → DtAll K H' acc ds → Qd H')
    (mono : ∀ x σ H Q Q', (∀ σ' H', Q σ' H' → Q' σ' H') → g x σ H Q → g x σ H Q') :
    ∃ W : Nat → Nat → Hp → Prop, (∃ m, W 0 m (upd H D (.lst []))) ∧ ∀ i m H, W i m H →
      (J.stop i H ∧ Qd H) ∨ (J.go i H ∧ ∃ Nx : Hp → Prop, (∀ H', Nx H' → ∃ m', m' < m ∧ W (i + 1) m' H') ∧ ∀ x H', J.yld i H x H' → g x (wipe σ vs) H' fun σ2 H2 => wipe σ2 vs = wipe σ vs ∧ tYes σ2 H2 fun b H3 =>
        if b = true then te σ2 H3 fun y H4 => ∃ acc, H4 D = some (.lst acc) ∧ acc.length < sizeLine ∧ Nx (upd H4 D (.lst (acc ++ [y]))) else Nx H3) := by
  refine lc_it w (fun i H' => ∃ acc, H' D = some (.lst acc) ∧ DtAll K H' acc (ds.take i) ∧ Same H H') ⟨[], upd_same, .nil, Same.new hD⟩ (fun i H' _ h => let ⟨_, _, _, s⟩ := h; hG H' s) (fun i x H1 H2 hi h y => ?_) fun H' h => ?_
  · obtain ⟨acc, a1, a2, a3⟩ := h
    have hi' : i < ds.length := by omega
    have hg := hs i x H1 H2 ds[i] (fun y H4 => ∃ acc, H4 D = some (.lst acc) ∧ acc.length < sizeLine ∧ ∃ acc', upd H4 D (.lst (acc ++ [y])) D = some (.lst acc') ∧ DtAll K (upd H4 D (.lst (acc ++ [y]))) acc' (ds.take (i + 1)) ∧ Same H (upd H4 D (.lst (acc ++ [y]))))
      hi (List.getElem?_eq_getElem hi') a3 ⟨acc, a1⟩ y fun y H5 s hy => ?_
    · exact mono _ _ _ _ _ (fun σ2 H3 q => ⟨q.1, tYes_of q.2⟩) hg
    · have b1 := s _ _ a1
      have kt : KeepT K H5 (upd H5 D (.lst (acc ++ [y]))) := KeepT.upd b1
      refine ⟨acc, b1, ?_, _, upd_same, ?_, fun b o e => ?_⟩
      · rw [a2.length, List.length_take]; omega
      · rw [List.take_succ, List.getElem?_eq_getElem hi']
        exact DtAll.app (DtAll.keepT (KeepT.trans (Same.keepT s) kt) a2) (.cons (Dt.keepT kt hy) .nil)
      · rw [upd_ne (ne_of_none e hD)]
        exact s _ _ (a3 _ _ e)
  · obtain ⟨acc, a1, a2, a3⟩ := h
    rw [← hn, List.take_length] at a2
    exact hd H' acc a3 a1 a2
theorem mono_name {i : Nat} : ∀ x (σ : L2.St) (H : Hp) (Q Q' : L2.St → Hp → Prop), (∀ σ' H', Q σ' H' → Q' σ' H') → gName i x σ H Q → gName i x σ H Q' := fun _ _ _ _ _ h q => h _ _ q
theorem mono_tup2 {K : PySem.W.Frag} {i j n : Nat} : ∀ x (σ : L2.St) (H : Hp) (Q Q' : L2.St → Hp → Prop), (∀ σ' H', Q σ' H' → Q' σ' H') → gTup K n (gCons (gName i) (gCons (gName j) gNil)) x σ H Q → gTup K n (gCons (gName i) (gCons (gName j) gNil)) x σ H Q' := by
  rintro x σ H Q Q' h ⟨a, xs, e1, e2, e3, v, r, e4, v', r', e5, e6, q⟩
  exact ⟨a, xs, e1, e2, e3, v, r, e4, v', r', e5, e6, h _ _ q⟩
end LK

set_option Elab.async false
set_option linter.all false
set_option maxRecDepth 100000
set_option maxHeartbeats 4000000
set_option exponentiation.threshold 3000
/-! More rules: text * int, two rules at one place, what == says of data. -/
namespace LK
open PySem PySem.Spec PyProof.Rows L2
theorem at_of' {α : Type} {xs : List α} {z : Int} {j : Nat} {v : α} (e : z = (j : Int)) (h : xs[j]? = some v) : atI xs z = some v := by
  rw [e]
  exact atI_nat h
/-- z repeated k times, by its codes -/
def repC (z : List Nat) (k : Int) : List Nat := (List.replicate k.toNat z).flatten
def repS (z : Str) (k : Int) : Str := ⟨(repC z.cps.toList k).toArray⟩
theorem repC_length (z : List Nat) (k : Int) : (repC z k).length = k.toNat * z.length := by simp [repC]
theorem foldl_arr (z : Array Nat) : ∀ (n : Nat) (acc : Array Nat), (List.replicate n z).foldl (· ++ ·) acc = acc ++ (List.replicate n z.toList).flatten.toArray
  | 0, acc => by simp
  | n + 1, acc => by
    rw [List.replicate_succ, List.foldl_cons, foldl_arr z n, List.replicate_succ, List.flatten_cons]
    apply Array.ext'
    simp
def rRepS : R2 := fun x y H Q => ∃ (z : Str) (k : Int), x = .str z ∧ y = .int k ∧ -1000000000000 ≤ k ∧ k < 1000000000000 ∧ z.length * k.toNat ≤ 1000000 ∧ Q (.str (repS z k)) H
theorem repS_arr (z : Str) (k : Int) : (⟨(List.replicate k.toNat z.cps).foldl (· ++ ·) #[]⟩ : Str) = repS z k := by
  rw [foldl_arr]
  simp [repS, repC]
theorem op_rep_str {X : Cx} : OpR X (binaryOp .Mult) rRepS := by
  intro pins s σ H x y v u Q I rx ry h
  obtain ⟨z, k, rfl, rfl, h1, h2, h3, q⟩ := h
  obtain ⟨t, rfl⟩ := rx
  obtain ⟨t', rfl⟩ := ry
  have szl : (1000000 : Nat) ≤ sizeLine := by decide
  have e1 : ¬ k < 1 → k = (k.toNat : Int) := fun h => by omega
  refine PySem.P.mul_str ?_ (fun hk hz => ?_) (fun hk hz => ?_) ?_
  · rw [decide_eq_false (by omega), decide_eq_false (by omega)]; rfl
  · have e0 : z.length ≠ 0 := fun e => by rw [e] at hz; simp at hz
    have hd : (9223372036854775807 : Int) / k ≥ 1000000 := by
      apply Int.le_ediv_of_mul_le (by omega)
      have hlen : k.toNat ≤ 1000000 := Nat.le_trans (Nat.le_mul_of_pos_left _ (by omega)) h3
      omega
    have hl : z.length ≤ 1000000 := Nat.le_trans (Nat.le_mul_of_pos_right _ (by omega)) h3
    show ¬ ((z.length : Int) > 9223372036854775807 / k)
    omega
  · unfold Builtin.Str.tooLong
    simp
    omega
  · split
    · rename_i hk
      have e : repS z k = Str.empty := by
        have : k.toNat = 0 := by omega
        simp [repS, repC, this]; rfl
      refine ⟨by decide, .str _, H, I.tok _, ⟨_, rfl⟩, ?_⟩
      rw [← e]; exact q
    · rename_i hk
      split
      · rename_i hz
        have e : repS z k = z := by
          rcases Bool.or_eq_true_iff.mp hz with h | h
          · have : k = 1 := by simpa using h
            subst this
            simp [repS, repC]
          · have : z.cps.toList = [] := by
              have : z.cps.size = 0 := by simpa [Str.length] using h
              exact List.eq_nil_of_length_eq_zero (by simpa using this)
            have e2 : (List.replicate k.toNat ([] : List Nat)).flatten = [] := by simp
            unfold repS repC
            rw [this, e2]
            cases z with
            | mk c =>
              have : c = #[] := Array.toList_inj.mp (by simpa using this)
              subst this; rfl
        refine ⟨.str _, H, I, ⟨t, rfl⟩, ?_⟩
        rw [← e]; exact q
      · rw [repS_arr]
        refine ⟨?_, .str _, H, I.tok _, ⟨_, rfl⟩, q⟩
        show (repC z.cps.toList k).toArray.size ≤ sizeLine
        rw [List.size_toArray, repC_length]
        have : z.cps.toList.length = z.length := by simp [Str.length]
        rw [this, Nat.mul_comm]; omega
/-! ### the objects at the beginning -/
def clsNames : List Str := ["Exception", "ArithmeticError", "ZeroDivisionError", "OverflowError", "LookupError", "IndexError", "KeyError", "NameError", "AttributeError", "TypeError", "ValueError", "StopIteration", "RuntimeError", "RecursionError", "MemoryError", "HostError"]
def clsBases : List Int := [-1, 1, 2, 2, 1, 5, 5, 1, 1, 1, 1, 1, 1, 13, 1, 1]
def builtNames : List Str := ["print", "len", "range", "repr", "str", "int", "list", "tuple", "dict", "iter", "next", "isinstance", "abs"]
def clsVar (i : Nat) (n : Str) : PyData := .tuple [.str n, .tuple [.str "ref", .int ((i : Int) + 1)]]
def nameVar (k n : Str) : PyData := .tuple [.str n, .tuple [.str k, .str n]]
def clsObj (n : Str) (b : Int) : PyData := .tuple [.str "class", .str n, .int b, .tuple []]
def clsVars : List PyData := clsNames.mapIdx clsVar
def startVars (hs : List Str) : List PyData := clsVars ++ builtNames.map (nameVar "built") ++ hs.map (nameVar "host")
def startD (hs : List Str) : List PyData := .tuple [.str "scope", .tuple (startVars hs), .tuple [], .tuple [], .int (-1), .bool false] :: List.zipWith clsObj clsNames clsBases
/-- a list at p, of the data ds -/
def ListAt (K : PySem.W.Frag) (H : Hp) (p : Addr) (ds : List PyData) : Prop := ∃ xs, H p = some (.lst xs) ∧ DtAll K H xs ds
def spStart (K : PySem.W.Frag) : Sp := fun vs H Q _ => ∃ (t : Addr) (hs : List Str), vs = [.ref t] ∧ SqT K H t (hs.map V.str) ∧ hs.length ≤ 1000 ∧
  ∀ (p : Addr) (H' : Hp), H p = none → Same H H' → ListAt K H' p (startD hs) → Q (.ref p) H'
theorem at0 {α : Type} {x : α} {ws : List α} : atI (x :: ws) 0 = some x := at_of' (j := 0) rfl rfl
theorem at1 {α : Type} {x y : α} {ws : List α} : atI (x :: y :: ws) 1 = some y := at_of' (j := 1) rfl rfl
theorem at2 {α : Type} {x y z : α} {ws : List α} : atI (x :: y :: z :: ws) 2 = some z := at_of' (j := 2) rfl rfl
/-- a written pair, triple as it is read -/
theorem Dt.head {K : PySem.W.Frag} {H : Hp} {v : V} {z : Str} {rest : List PyData} (h : Dt K H v (.tuple (.str z :: rest))) : ∃ a ws, v = .ref a ∧ SqT K H a (.str z :: ws) ∧ DtAll K H ws rest := by
  obtain ⟨q, xs, rfl, hs, ha⟩ := h.tuple_inv
  obtain ⟨x, ws, rfl, h1, hw⟩ := ha.cons_inv
  cases h1.str_inv
  exact ⟨q, ws, rfl, hs, hw⟩
theorem Dt.pair {K : PySem.W.Frag} {H : Hp} {v : V} {z : Str} {d : PyData} (h : Dt K H v (.tuple [.str z, d])) : ∃ a x, v = .ref a ∧ SqT K H a [.str z, x] ∧ Dt K H x d := by
  obtain ⟨a, ws, rfl, hs, hw⟩ := h.head
  obtain ⟨x, ws', rfl, h1, hn⟩ := hw.cons_inv
  cases hn.nil_inv
  exact ⟨a, x, rfl, hs, h1⟩
theorem Dt.triple {K : PySem.W.Frag} {H : Hp} {v : V} {z : Str} {d e : PyData} (h : Dt K H v (.tuple [.str z, d, e])) : ∃ a x y, v = .ref a ∧ SqT K H a [.str z, x, y] ∧ Dt K H x d ∧ Dt K H y e := by
  obtain ⟨a, ws, rfl, hs, hw⟩ := h.head
  obtain ⟨x, ws', rfl, h1, hn⟩ := hw.cons_inv
  obtain ⟨y, ws'', rfl, h2, hn2⟩ := hn.cons_inv
  cases hn2.nil_inv
  exact ⟨a, x, y, rfl, hs, h1, h2⟩
theorem listAt_mono {K : PySem.W.Frag} {H H' : Hp} {p : Addr} {ds : List PyData} (h : ListAt K H p ds) (e : Same H H') : ListAt K H' p ds := by
  obtain ⟨xs, hx, ax⟩ := h
  exact ⟨xs, e _ _ hx, DtAll.mono e ax⟩
theorem eqv_nil (ds : List PyData) : PyData.eqv (.tuple ds) (.tuple []) = ds.isEmpty := by
  cases ds <;> simp [PyData.eqv, PyData.eqvAll]
theorem listAt_upd {K : PySem.W.Frag} {H : Hp} {l l' : Addr} {ds : List PyData} {xs : List V} {o : HO} (h : ListAt K H l ds) (ne : l ≠ l') (hl : H l' = some (.lst xs)) : ListAt K (upd H l' o) l ds := by
  obtain ⟨ys, hy, ay⟩ := h
  exact ⟨ys, by rw [upd_ne ne]; exact hy, DtAll.keepT (KeepT.upd hl) ay⟩
theorem listAt_app {K : PySem.W.Frag} {H : Hp} {l : Addr} {ds : List PyData} {xs : List V} {v : V} {d : PyData} (h : ListAt K H l ds) (hl : H l = some (.lst xs)) (hd : Dt K H v d) : ListAt K (upd H l (.lst (xs ++ [v]))) l (ds ++ [d]) := by
  obtain ⟨ys, hy, ay⟩ := h
  rw [hl] at hy
  obtain rfl := HO.lst.inj (Option.some.inj hy)
  exact ⟨_, upd_same, DtAll.app (DtAll.keepT (KeepT.upd hl) ay) (.cons (Dt.keepT (KeepT.upd hl) hd) .nil)⟩
theorem listAt_keep {K : PySem.W.Frag} {H H' : Hp} {l p : Addr} {ds : List PyData} (h : ListAt K H l ds) (e : Keep p H H') (ne : l ≠ p) (hp : ∃ xs, H p = some (.lst xs)) : ListAt K H' l ds := by
  obtain ⟨ys, hy, ay⟩ := h
  exact ⟨ys, e _ _ hy ne, DtAll.keepT (Keep.keepT e hp) ay⟩
theorem listAt_made {K : PySem.W.Frag} {H : Hp} {l : Addr} {xs : List V} {ds : List PyData} (hl : H l = none) (h : DtAll K H xs ds) : ListAt K (upd H l (.lst xs)) l ds := ⟨xs, upd_same, DtAll.mono (Same.new hl) h⟩
/-! how long the objects at the beginning are, shown -/
def shortS (n : Str) : Bool := decide (n.length ≤ 40) && n.cps.toList.all (fun c => decide (c < 16 ^ 8))
theorem Sm.short {n : Str} (h : shortS n = true) : Sm (.str n) 0 500 := by
  obtain ⟨h1, h2⟩ := Bool.and_eq_true_iff.mp h
  exact (Sm.str (of_decide_eq_true h1) (strOk n h2)).mono (by decide) (by decide)
theorem cls_short : ∀ n ∈ clsNames, shortS n = true := by decide +kernel
theorem built_short : ∀ n ∈ builtNames, shortS n = true := by decide +kernel
theorem Sm.nm {k n : Str} (hk : shortS k = true) (hn : shortS n = true) : Sm (nameVar k n) 3 4000 :=
  (Sm.tup (.cons (Sm.short hn) (.cons (Sm.tup (.cons (Sm.short hk) (.cons (Sm.short hn) .nil))) .nil))).mono (by decide) (by decide)
theorem Sm.cv {i : Nat} {n : Str} (hi : i < 1000) (hn : shortS n = true) : Sm (clsVar i n) 3 4000 :=
  (Sm.tup (.cons (Sm.short hn) (.cons (Sm.tup (.cons (Sm.short (n := "ref") (by decide +kernel)) (.cons (Sm.int (Nat.lt_of_lt_of_le (show ((i : Int) + 1).natAbs < 2 ^ 20 by omega) (Nat.pow_le_pow_right (by decide) (by decide)))) .nil))) .nil))).mono (by decide) (by decide)
theorem Sm.co {b : Int} {n : Str} (hb : b.natAbs < 1000) (hn : shortS n = true) : Sm (clsObj n b) 3 4000 :=
  (Sm.tup (.cons (Sm.short (n := "class") (by decide +kernel)) (.cons (Sm.short hn) (.cons (Sm.int (Nat.lt_of_lt_of_le (show b.natAbs < 2 ^ 20 by omega) (Nat.pow_le_pow_right (by decide) (by decide)))) (.cons (Sm.tup .nil) .nil))))).mono (by decide) (by decide)
theorem SmAll.mem {ds : List PyData} {dp n N m M : Nat} (h : SmAll ds dp n N) (h1 : n ≤ m) (h2 : N ≤ M) : SmAll ds dp m M := ⟨h.ok, h.dp, Nat.le_trans h.len h1, Nat.le_trans h.sz h2⟩
theorem sm_vars {hs : List Str} {L : Nat} (h : ∀ n ∈ hs, shortS n = true) (hl : hs.length ≤ L) : SmAll (startVars hs) 3 (29 + L) (4000 * (29 + L)) := by
  have h1 : ∀ d ∈ startVars hs, Sm d 3 4000 := fun d hd => by
    rcases List.mem_append.mp hd with hd | hd
    · rcases List.mem_append.mp hd with hd | hd
      · obtain ⟨i, hi, rfl⟩ := List.mem_mapIdx.mp hd
        exact Sm.cv (Nat.lt_trans hi (by decide)) (cls_short _ (List.getElem_mem hi))
      · obtain ⟨n, hn, rfl⟩ := List.mem_map.mp hd
        exact Sm.nm (by decide +kernel) (built_short n hn)
    · obtain ⟨n, hn, rfl⟩ := List.mem_map.mp hd
      exact Sm.nm (by decide +kernel) (h n hn)
  have hlen : (startVars hs).length = 29 + hs.length := by
    simp only [startVars, List.length_append, List.length_map]
    have : clsVars.length = 16 := by decide
    have : builtNames.length = 13 := by decide
    omega
  exact (SmAll.many h1).mem (by omega) (by omega)
theorem sm_start {hs : List Str} {L : Nat} (h : ∀ n ∈ hs, shortS n = true) (hl : hs.length ≤ L) : ∀ d ∈ startD hs, Sm d 5 (5000 * (30 + L)) := fun d hd => by
  rcases List.mem_cons.mp hd with rfl | hd
  · exact (Sm.tup (.cons (Sm.short (n := "scope") (by decide +kernel)) (.cons (Sm.tup (sm_vars h hl)) (.cons (Sm.tup .nil) (.cons (Sm.tup .nil) (.cons (Sm.int (by decide)) (.cons (Sm.bool false) .nil))))))).mono (by decide) (by omega)
  · have : ∃ n b, d = clsObj n b ∧ n ∈ clsNames ∧ b.natAbs < 1000 := by
      have key : ∀ q ∈ List.zip clsNames clsBases, q.1 ∈ clsNames ∧ q.2.natAbs < 1000 := by decide +kernel
      rw [← List.map_uncurry_zip_eq_zipWith] at hd
      obtain ⟨q, hq, rfl⟩ := List.mem_map.mp hd
      exact ⟨q.1, q.2, rfl, key q hq⟩
    obtain ⟨n, b, rfl, hn, hb⟩ := this
    exact (Sm.co hb (cls_short n hn)).mono (by decide) (by omega)
theorem start_cls {hs : List Str} {k : Nat} (h1 : 1 ≤ k) (h2 : k ≤ 16) : ∃ rest, (startD hs)[k]? = some (.tuple (.str "class" :: rest)) := by
  obtain ⟨j, rfl⟩ : ∃ j, k = j + 1 := ⟨k - 1, by omega⟩
  have l1 : clsNames.length = 16 := by decide
  have l2 : clsBases.length = 16 := by decide
  refine ⟨[.str clsNames[j]!, .int clsBases[j]!, .tuple []], ?_⟩
  have e1 : clsNames[j]? = some clsNames[j]! := by rw [List.getElem!_eq_getElem?_getD]; rw [List.getElem?_eq_getElem (by omega)]; rfl
  have e2 : clsBases[j]? = some clsBases[j]! := by rw [List.getElem!_eq_getElem?_getD]; rw [List.getElem?_eq_getElem (by omega)]; rfl
  show (List.zipWith clsObj clsNames clsBases)[j]? = _
  rw [List.getElem?_zipWith, e1, e2]
  rfl
end LK

set_option Elab.async false
set_option linter.all false
set_option maxRecDepth 100000
set_option maxHeartbeats 4000000
set_option exponentiation.threshold 3000
namespace K27
open PySem PySem.Spec PyProof.Rows L2 LK
def top (i : Nat) : Stmt := PySem.Challenge.pw_pyhold_k27_lengths_and_truth.main.body.getD i (.Pass ⟨0, 0, 0, 0⟩)
abbrev s_truth : Stmt := top 12
abbrev N_truth : List Str := ["heap", "value", "kind"]
abbrev P_truth : List Str := ["heap", "value"]
theorem sc_truth : FnScope N_truth P_truth (defScope s_truth) := ⟨rfl, rfl, rfl, by decide +kernel, rfl, by decide +kernel, by decide +kernel⟩
abbrev s_length : Stmt := top 13
abbrev N_length : List Str := ["heap", "value", "size"]
abbrev P_length : List Str := ["heap", "value"]
theorem sc_length : FnScope N_length P_length (defScope s_length) := ⟨rfl, rfl, rfl, by decide +kernel, rfl, by decide +kernel, by decide +kernel⟩
abbrev s_is_number : Stmt := top 14
abbrev N_is_number : List Str := ["value"]
abbrev P_is_number : List Str := ["value"]
theorem sc_is_number : FnScope N_is_number P_is_number (defScope s_is_number) := ⟨rfl, rfl, rfl, by decide +kernel, rfl, by decide +kernel, by decide +kernel⟩
abbrev s_object_kind : Stmt := top 15
abbrev N_object_kind : List Str := ["heap", "value"]
abbrev P_object_kind : List Str := ["heap", "value"]
theorem sc_object_kind : FnScope N_object_kind P_object_kind (defScope s_object_kind) := ⟨rfl, rfl, rfl, by decide +kernel, rfl, by decide +kernel, by decide +kernel⟩
abbrev s_law : Stmt := top 23
abbrev N_law : List Str := ["script", "box", "heap", "first", "many", "items", "entries", "k", "low", "rows", "kept", "row", "far", "near", "due", "number", "value"]
abbrev P_law : List Str := ["script"]
theorem sc_law : FnScope N_law P_law (defScope s_law) := ⟨rfl, rfl, rfl, by decide +kernel, rfl, by decide +kernel, by decide +kernel⟩
structure Txt (K : PySem.W.Frag) (mg : Str → Option Value) : Prop where
  c_INTEGER_END : GInt mg "INTEGER_END" (2 ^ 256)
  c_INTEGER_TOO_LARGE : GTup K mg "INTEGER_TOO_LARGE" [.str "raise", .int 4, .str "integer too large"]
  c_CLASSES : GTup K mg "CLASSES" (clsNames.map V.str)
  c_BASES : GTup K mg "BASES" (clsBases.map V.int)
  c_BUILT : GTup K mg "BUILT" (builtNames.map V.str)
  b_len : mg "len" = none
  b_int : mg "int" = none
  b_repr : mg "repr" = none
  b_range : mg "range" = none
  b_enumerate : mg "enumerate" = none
  b_zip : mg "zip" = none
  b_tuple : mg "tuple" = none
abbrev s_law_cell : Stmt := top 17
abbrev N_law_cell : List Str := ["script", "k"]
abbrev P_law_cell : List Str := ["script", "k"]
theorem sc_law_cell : FnScope N_law_cell P_law_cell (defScope s_law_cell) := ⟨rfl, rfl, rfl, by decide +kernel, rfl, by decide +kernel, by decide +kernel⟩
abbrev s_law_digits : Stmt := top 18
abbrev N_law_digits : List Str := ["script", "first", "last", "digits", "k", "cell", "turn", "seed"]
abbrev P_law_digits : List Str := ["script", "first", "last"]
theorem sc_law_digits : FnScope N_law_digits P_law_digits (defScope s_law_digits) := ⟨rfl, rfl, rfl, by decide +kernel, rfl, by decide +kernel, by decide +kernel⟩
abbrev s_law_draw : Stmt := top 19
abbrev N_law_draw : List Str := ["box", "many", "at"]
abbrev P_law_draw : List Str := ["box", "many"]
theorem sc_law_draw : FnScope N_law_draw P_law_draw (defScope s_law_draw) := ⟨rfl, rfl, rfl, by decide +kernel, rfl, by decide +kernel, by decide +kernel⟩
section
variable {P : Program} {w : World} {K : PySem.W.Frag} {mg : Str → Option Value} {base : Heap}
theorem ok_draw {f : Addr} {fd : FuncData} (F : Fun K "_law_draw" "_law_draw" s_law_draw f fd) (T : Txt K mg) : FnG P w K mg base CX0 1 f fd P_law_draw (spDraw K) := by
  refine okG0 F sc_law_draw (fun vs H Q E h => ?_) fun cdv A outer s H vs Q E hr hg h => ?_
  · obtain ⟨p, dl, m, rfl, _⟩ := h
    rfl
  · obtain ⟨p, dl, m, rfl, B, hm, k⟩ := h
    obtain ⟨ds, n, hp, hn, hd, hl, hds⟩ := id B
    refine ⟨_, (pss_cons (ps_set (i := 2) sc_law_draw.nd rfl (Or.inl rfl) (pe_ix ix_list (pv 0) pe_int (fun _ _ => rfl)))
  (pss_cons (ps_asg (pe_op op_add (pv 2) pe_int) (pg_sub (pv 0) pe_int set_list))
  (pss_cons (ps_if (pt_cmpR op_lt (pv 2) (pe_callB call_len (by rfl) T.b_len PySem.boot_len (pa_cons (pe_ix ix_list (pv 0) pe_int (fun _ _ => rfl)) pa_nil)) (nomark _))
   (pss_one (ps_ret (pe_op op_mod (pe_callTy call_int1 (by rfl) T.b_int (by decide +kernel) (pa_cons (pe_ix ix_list (pe_ix ix_list (pv 0) pe_int (fun _ _ => rfl)) (pv 2) (fun _ _ => rfl)) pa_nil)) (pv 1))))
   pss_nil)
  (pss_one (ps_ret pe_int))))), ?_⟩
    -- at = box[1]; box[1] = at + 1
    refine ⟨_, rfl, p, _, _, _, rfl, rfl, SqL.of hp, rfl, ?_⟩
    refine ⟨_, rfl, _, _, rfl, rfl, _, rfl, p, _, _, _, rfl, rfl, hp, rfl, ?_⟩
    have npd : dl ≠ p := by
      intro e
      subst e
      rw [hp] at hd
      have e := HO.lst.inj (Option.some.inj hd)
      cases ds with
      | nil => cases e
      | cons d ds => cases (List.cons.inj e).1
    have B' : BoxAt (upd H p (.lst [.ref dl, .int (n + 1)])) p dl := ⟨ds, n + 1, upd_same, by omega, by rw [upd_ne npd]; exact hd, hl, hds⟩
    have kp : Keep p H (upd H p (.lst [.ref dl, .int (n + 1)])) := fun b o e hb => by rw [upd_ne hb]; exact e
    have hd' : upd H p (.lst [.ref dl, .int (n + 1)]) dl = some (.lst (ds.map V.int)) := by rw [upd_ne npd]; exact hd
    -- if at < len(box[0])
    refine ⟨_, rfl, _, rfl, p, _, _, _, rfl, rfl, SqL.of upd_same, rfl, _, _, rfl, .inl ⟨_, SqL.of hd', rfl⟩, ?_⟩
    refine ⟨_, _, rfl, rfl, _, rfl, ?_⟩
    refine ite2 (fun c => ?_) fun c => ?_
    · have c1 : n < (ds.length : Int) := by simpa using c
      have c2 : n.toNat < ds.length := by omega
      have mem := hds _ (List.getElem_mem c2)
      refine ⟨_, rfl, p, _, _, _, rfl, rfl, SqL.of upd_same, rfl, _, rfl, dl, _, _, .int ds[n.toNat], rfl, rfl, SqL.of hd', ?_, .inl ⟨_, rfl, ?_⟩⟩
      · have e : n = ((n.toNat : Nat) : Int) := by omega
        exact at_of e (by simp [c2])
      · refine ⟨_, rfl, _, _, rfl, rfl, hm, ?_⟩
        exact k _ _ (Int.emod_nonneg _ (by omega)) (Int.emod_lt_of_pos _ hm) B' kp
    · exact k 0 _ (Int.le_refl 0) hm B' kp
theorem ok_cell {f : Addr} {fd : FuncData} (F : Fun K "_law_cell" "_law_cell" s_law_cell f fd) (T : Txt K mg) : FnG P w K mg base CX0 1 f fd P_law_cell (spCell K) := by
  refine okG0 F sc_law_cell (fun vs H Q E h => ?_) fun cdv A outer s H vs Q E hr hg h => ?_
  · obtain ⟨a, ns, i, rfl, _⟩ := h
    rfl
  · obtain ⟨a, ns, i, rfl, hs, hi, k⟩ := h
    refine ⟨_, (pss_cons (ps_if (pt_cmpR op_lt (pv 1) (pe_callB call_len (by rfl) T.b_len PySem.boot_len (pa_cons (pv 0) pa_nil)) (nomark _))
   (pss_one (ps_ret (pe_ix ix_list (pv 0) (pv 1) (fun _ _ => rfl))))
   pss_nil)
  (pss_one (ps_ret pe_int))), ?_⟩
    refine ⟨_, rfl, _, rfl, _, _, rfl, .inl ⟨_, hs, rfl⟩, _, _, rfl, rfl, _, rfl, ?_⟩
    refine ite3 (fun c => ?_) fun _ => k 0
    have c1 : i < (ns.length : Int) := by simpa using c
    have c2 : i.toNat < ns.length := by omega
    exact ⟨_, rfl, _, rfl, a, _, _, .int ns[i.toNat], rfl, rfl, hs, at_of (show i = ((i.toNat : Nat) : Int) by omega) (by simp [c2]), k _⟩
theorem ok_digits {f : Addr} {fd : FuncData} (F : Fun K "_law_digits" "_law_digits" s_law_digits f fd) (T : Txt K mg) (U_law_cell : Use P w K mg base CX0 "_law_cell" 1 P_law_cell (spCell K)) : FnG P w K mg base CX0 2 f fd P_law_digits (spDigits K) := by
  refine okG0 F sc_law_digits (fun vs H Q E h => ?_) fun cdv A outer s H vs Q E hr hg h => ?_
  · obtain ⟨a, ns, lo, hi, rfl, _⟩ := h
    rfl
  · obtain ⟨a, ns, lo, hi, rfl, hs, hlo, hhi, k⟩ := h
    refine ⟨_, (pss_cons (ps_set (i := 3) sc_law_digits.nd rfl (Or.inl rfl) (pe_lst pa_nil))
  (pss_cons (ps_for PassesOwn.never rfl (pi_range2 (by rfl) T.b_range (pa_cons (pv 1) (pa_cons (pv 2) pa_nil))) (pg_name (i := 4) sc_law_digits.nd rfl (Or.inl rfl))
   (pss_cons (ps_set (i := 5) sc_law_digits.nd rfl (Or.inl rfl) (pe_use U_law_cell (hr.mono (by decide)) hg rfl (pa_cons (pv 0) (pa_cons (pv 4) pa_nil))))
  (C8.pss_cut (ps_if (pt_cmpR op_lt (pv 5) pe_int (nomark _))
   (pss_one (ps_set (i := 5) sc_law_digits.nd rfl (Or.inl rfl) (pe_op op_sub pe_int (pe_op op_mul pe_int (pv 5)))))
   pss_nil)
  (pss_one (ps_if (pt_cmpR op_ge (pv 5) (pe_op op_pow pe_int pe_int) (nomark _))
   (pss_one (ps_for PassesOwn.never rfl (pi_range1 (by rfl) T.b_range (pa_cons pe_int pa_nil)) (pg_name (i := 6) sc_law_digits.nd rfl (Or.inl rfl))
   (pss_one (ps_if (pt_cmpR op_gt (pv 5) pe_int (nomark _))
   (pss_cons (ps_expr (pe_bm PySem.F.plainAttrs_list PySem.F.slot_list_append PySem.F.type_list_append mt_append (pv 3) (pa_cons (pe_op op_mod (pe_callTy call_int1 (by rfl) T.b_int (by decide +kernel) (pa_cons (pv 5) pa_nil)) pe_int) pa_nil)))
  (pss_one (ps_set (i := 5) sc_law_digits.nd rfl (Or.inl rfl) (pe_op op_fdiv (pv 5) pe_int))))
   pss_nil))))
   (pss_cons (ps_set (i := 7) sc_law_digits.nd rfl (Or.inl rfl) (pe_op op_mod (pe_callTy call_int1 (by rfl) T.b_int (by decide +kernel) (pa_cons (pe_op op_add (pe_op op_add (pe_op op_mul (pv 5) pe_int) (pe_op op_mul (pv 4) pe_int)) pe_int) pa_nil)) pe_int))
  (pss_one (ps_for PassesOwn.never rfl (pi_range1 (by rfl) T.b_range (pa_cons pe_int pa_nil)) (pg_name (i := 6) sc_law_digits.nd rfl (Or.inl rfl))
   (pss_cons (ps_set (i := 7) sc_law_digits.nd rfl (Or.inl rfl) (pe_op op_mod (pe_callTy call_int1 (by rfl) T.b_int (by decide +kernel) (pa_cons (pe_op op_add (pe_op op_add (pe_op op_mul (pv 7) pe_int) (pe_op op_mul pe_int (pv 6))) pe_int) pa_nil)) pe_int))
  (pss_one (ps_expr (pe_bm PySem.F.plainAttrs_list PySem.F.slot_list_append PySem.F.type_list_append mt_append (pv 3) (pa_cons (pe_op op_mod (pe_callTy call_int1 (by rfl) T.b_int (by decide +kernel) (pa_cons (pe_op op_fdiv (pv 7) pe_int) pa_nil)) pe_int) pa_nil)))))))))))))
  (pss_one (ps_ret (pv 3))))), ?_⟩
    refine ⟨by decide, fun dl nd => ?_⟩
    have sz : (4000 : Nat) < sizeLine := by decide
    -- for k in range(first, last)
    refine ⟨_, rfl, _, rfl, _, _, rfl, ⟨by omega, by omega, by omega, by omega⟩, ?_⟩
    refine for_range (lo := (lo : Int)) (n := ((hi : Int) - (lo : Int)).toNat) (fun i σ H1 => ∃ x5 x6 x7 x4, σ = [some (.ref a), some (.int lo), some (.int hi), some (.ref dl), x4, x5, x6, x7] ∧ DigAt H H1 dl (60 * i)) ?_ ?_ ?_
    · exact ⟨none, none, none, none, rfl, [], upd_same, by simp, by simp, Same.new nd⟩
    · rintro i σ H1 hi' ⟨x5, x6, x7, x4, rfl, D⟩
      have S1 : Same H H1 := let ⟨_, _, _, _, z⟩ := D; z
      -- cell = _law_cell(script, k)
      refine ⟨_, rfl, _, rfl, a, ns, _, rfl, S1.seq hs, by omega, fun cell => ?_⟩
      -- if cell < 0: cell = 1 - 2 * cell
      refine ⟨fun σ H2 => ∃ c : Int, σ = [some (.ref a), some (.int lo), some (.int hi), some (.ref dl), some (.int ((lo : Int) + i)), some (.int c), x6, x7] ∧ H2 = H1, ?_, ?_⟩
      · refine ⟨_, rfl, _, _, rfl, rfl, _, rfl, ?_⟩
        refine ite3 (fun _ => ?_) fun _ => ⟨cell, rfl, rfl⟩
        exact ⟨_, rfl, _, _, rfl, rfl, .inl ⟨by decide, by decide⟩, _, _, rfl, rfl, _, rfl, rfl⟩
      · rintro _ _ ⟨c, rfl, rfl⟩
        -- if cell >= 10 ** 18
        refine ⟨_, rfl, _, _, rfl, rfl, ⟨by decide, by decide, by decide⟩, _, _, rfl, rfl, _, rfl, ?_⟩
        refine ite3 (fun hc => ?_) fun hc => ?_
        · refine ⟨_, rfl, by decide, by decide, ?_⟩
          refine for_range (lo := 0) (n := 60) (fun j σ H1 => ∃ (c : Int) (y6 : Option V), σ = [some (.ref a), some (.int lo), some (.int hi), some (.ref dl), some (.int ((lo : Int) + i)), some (.int c), y6, x7] ∧ DigAt H H1 dl (60 * i + j)) ⟨c, x6, rfl, D⟩ ?_ ?_
          · rintro j σ H2 hj ⟨c, y6, rfl, D2⟩
            obtain ⟨ds, hd, hl, _⟩ := id D2
            refine ⟨_, rfl, _, _, rfl, rfl, _, rfl, ?_⟩
            refine ite3 (fun hp => ?_) fun _ => ⟨c, _, rfl, D2.mono (by omega)⟩
            have hp : 0 < c := by simpa using hp
            refine ⟨_, rfl, .inl ⟨rfl, _, SqL.of hd⟩, _, rfl, .inl ⟨_, rfl, _, _, rfl, rfl, (by show (0 : Int) < 1000; decide), dl, _, _, rfl, rfl, hd, (by simp; omega), ?_⟩⟩
            refine ⟨_, rfl, _, _, rfl, rfl, ⟨by decide, by decide⟩, ?_⟩
            exact ⟨_, _, rfl, D2.add hd nd (Int.emod_nonneg _ (by decide)) (Int.emod_lt_of_pos _ (by decide))⟩
          · rintro σ H2 ⟨c, y6, rfl, D2⟩
            exact ⟨_, _, _, _, rfl, D2.mono (by omega)⟩
        · refine ⟨_, rfl, _, _, rfl, rfl, .inr ⟨by decide, by decide⟩, _, rfl, _, _, rfl, rfl, .inr ⟨by decide, by decide⟩, _, _, rfl, rfl, _, _, rfl, rfl, .inl ⟨_, rfl, _, _, rfl, rfl, (by show (0 : Int) < 2147483647; decide), ?_⟩⟩
          refine ⟨_, rfl, by decide, by decide, ?_⟩
          refine for_range (lo := 0) (n := 12) (fun j σ H1 => ∃ (sd : Int) (y6 : Option V), σ = [some (.ref a), some (.int lo), some (.int hi), some (.ref dl), some (.int ((lo : Int) + i)), some (.int c), y6, some (.int sd)] ∧ DigAt H H1 dl (60 * i + j)) ⟨_, x6, rfl, D⟩ ?_ ?_
          · rintro j σ H2 hj ⟨sd, y6, rfl, D2⟩
            obtain ⟨ds, hd, hl, _⟩ := id D2
            refine ⟨_, rfl, _, _, rfl, rfl, .inr ⟨by decide, by decide⟩, _, rfl, _, _, rfl, rfl, .inl ⟨by decide, by decide⟩, _, _, rfl, rfl, _, _, rfl, rfl, .inl ⟨_, rfl, _, _, rfl, rfl, (by show (0 : Int) < 2147483647; decide), ?_⟩⟩
            refine ⟨_, rfl, .inl ⟨rfl, _, SqL.of hd⟩, _, rfl, _, _, rfl, rfl, ⟨by decide, by decide⟩, .inl ⟨_, rfl, _, _, rfl, rfl, (by show (0 : Int) < 1000; decide), dl, _, _, rfl, rfl, hd, (by simp; omega), ?_⟩⟩
            exact ⟨_, _, rfl, D2.add hd nd (Int.emod_nonneg _ (by decide)) (Int.emod_lt_of_pos _ (by decide))⟩
          · rintro σ H2 ⟨sd, y6, rfl, D2⟩
            exact ⟨_, _, _, _, rfl, D2.mono (by omega)⟩
    · rintro σ H1 ⟨x5, x6, x7, x4, rfl, D⟩
      exact ⟨_, rfl, k dl H1 nd (D.mono (by omega))⟩
end

abbrev s_law_bound : Stmt := top 20
abbrev N_law_bound : List Str := []
abbrev P_law_bound : List Str := []
theorem sc_law_bound : FnScope N_law_bound P_law_bound (defScope s_law_bound) := ⟨rfl, rfl, rfl, by decide +kernel, rfl, by decide +kernel, by decide +kernel⟩
abbrev s_law_number : Stmt := top 21
abbrev N_law_number : List Str := ["box", "kind", "sign", "number", "k"]
abbrev P_law_number : List Str := ["box"]
theorem sc_law_number : FnScope N_law_number P_law_number (defScope s_law_number) := ⟨rfl, rfl, rfl, by decide +kernel, rfl, by decide +kernel, by decide +kernel⟩
section
variable {P : Program} {w : World} {K : PySem.W.Frag} {mg : Str → Option Value} {base : Heap}
theorem ok_bound {f : Addr} {fd : FuncData} (F : Fun K "_law_bound" "_law_bound" s_law_bound f fd) (T : Txt K mg) : FnG P w K mg base CX0 1 f fd P_law_bound spBound := by
  refine okG0 F sc_law_bound (fun vs H Q E h => ?_) fun cdv A outer s H vs Q E hr hg h => ?_
  · obtain ⟨rfl, _⟩ := h
    rfl
  · obtain ⟨rfl, k⟩ := h
    refine ⟨_, (pss_one (ps_ret (pe_op op_mulW (pe_op op_mulW (pe_op op_mulW (pe_op op_pow pe_int pe_int) (pe_op op_pow pe_int pe_int)) (pe_op op_pow pe_int pe_int)) (pe_op op_pow pe_int pe_int)))), ?_⟩
    refine ⟨_, _, rfl, rfl, ⟨by decide, by decide, by decide⟩, _, _, rfl, rfl, ⟨by decide, by decide, by decide⟩, _, _, rfl, rfl, wide_mul (a := 65) (b := 65) (by decide) (by decide) (by decide) (by decide) (by decide), ?_⟩
    refine ⟨_, _, rfl, rfl, ⟨by decide, by decide, by decide⟩, _, _, rfl, rfl, wide_mul (a := 129) (b := 65) (by decide) (by decide) (by decide) (by decide) (by decide), ?_⟩
    refine ⟨_, _, rfl, rfl, ⟨by decide, by decide, by decide⟩, _, _, rfl, rfl, wide_mul (a := 193) (b := 65) (by decide) (by decide) (by decide) (by decide) (by decide), ?_⟩
    have e : (2 : Int) ^ (64 : Int).toNat * 2 ^ (64 : Int).toNat * 2 ^ (64 : Int).toNat * 2 ^ (64 : Int).toNat = 2 ^ 256 := by decide +kernel
    exact (congrArg (fun z : Int => Q (V.int z) H) e).mpr k
theorem ok_number {f : Addr} {fd : FuncData} (F : Fun K "_law_number" "_law_number" s_law_number f fd) (T : Txt K mg) (U_law_draw : Use P w K mg base CX0 "_law_draw" 1 P_law_draw (spDraw K))
    (U_law_bound : Use P w K mg base CX0 "_law_bound" 1 P_law_bound spBound) : FnG P w K mg base CX0 2 f fd P_law_number (spNumber K) := by
  refine okG0 F sc_law_number (fun vs H Q E h => ?_) fun cdv A outer s H vs Q E hr hg h => ?_
  · obtain ⟨p, dl, rfl, _⟩ := h
    rfl
  · obtain ⟨p, dl, rfl, B, k⟩ := h
    refine ⟨_, (pss_cons (ps_set (i := 1) sc_law_number.nd rfl (Or.inl rfl) (pe_use U_law_draw (hr.mono (by decide)) hg rfl (pa_cons (pv 0) (pa_cons pe_int pa_nil))))
  (pss_cons (ps_set (i := 2) sc_law_number.nd rfl (Or.inl rfl) (pe_op op_sub pe_int (pe_op op_mulW pe_int (pe_use U_law_draw (hr.mono (by decide)) hg rfl (pa_cons (pv 0) (pa_cons pe_int pa_nil))))))
  (pss_cons (ps_if (pt_cmpR op_lt (pv 1) pe_int (nomark _))
   (pss_one (ps_ret (pe_op op_mulW (pv 2) (pe_use U_law_draw (hr.mono (by decide)) hg rfl (pa_cons (pv 0) (pa_cons pe_int pa_nil))))))
   pss_nil)
  (pss_cons (ps_if (pt_cmpR op_eq (pv 1) pe_int (nomark _))
   (pss_one (ps_ret (pe_op op_mulW (pv 2) (pe_op op_sub (pe_op op_sub (pe_use0 U_law_bound (hr.mono (by decide)) hg rfl) pe_int) (pe_use U_law_draw (hr.mono (by decide)) hg rfl (pa_cons (pv 0) (pa_cons pe_int pa_nil)))))))
   pss_nil)
  (pss_cons (ps_if (pt_cmpR op_eq (pv 1) pe_int (nomark _))
   (pss_one (ps_ret (pe_op op_mulW (pv 2) (pe_op op_sub (pe_op op_add (pe_op op_mulW (pe_op op_pow pe_int pe_int) (pe_op op_pow pe_int pe_int)) (pe_use U_law_draw (hr.mono (by decide)) hg rfl (pa_cons (pv 0) (pa_cons pe_int pa_nil)))) pe_int))))
   pss_nil)
  (pss_cons (ps_set (i := 3) sc_law_number.nd rfl (Or.inl rfl) pe_int)
  (pss_cons (ps_for PassesOwn.never rfl (pi_range1 (by rfl) T.b_range (pa_cons (pe_op op_add pe_int (pe_use U_law_draw (hr.mono (by decide)) hg rfl (pa_cons (pv 0) (pa_cons pe_int pa_nil)))) pa_nil)) (pg_name (i := 4) sc_law_number.nd rfl (Or.inl rfl))
   (pss_one (ps_set (i := 3) sc_law_number.nd rfl (Or.inl rfl) (pe_op op_add (pe_op op_mulW (pv 3) pe_int) (pe_use U_law_draw (hr.mono (by decide)) hg rfl (pa_cons (pv 0) (pa_cons pe_int pa_nil)))))))
  (pss_one (ps_ret (pe_op op_mulW (pv 2) (pv 3))))))))))), ?_⟩
    have fin : ∀ (z n : Int) H', Sgn z → n.natAbs < 2 ^ 260 → BoxAt H' p dl → Keep p H H' → Q (.int (z * n)) H' := fun z n H' hz hn hB hK => k _ H' (by rw [hz.mul]; exact hn) hB hK
    -- kind, sign
    refine ⟨_, rfl, p, dl, 7, rfl, B, by decide, fun kind H1 k0 k1 B1 K1 => ?_⟩
    refine ⟨_, rfl, p, dl, 2, rfl, B1, by decide, fun sg H2 s0 s1 B2 K2 => ?_⟩
    refine ⟨_, _, rfl, rfl, wide_mul (a := 3) (b := 3) (by decide) (by omega) (by decide) (by decide) (by decide), _, _, rfl, rfl, ?_⟩
    have hs : Sgn (1 - 2 * sg) := by unfold Sgn; omega
    have K12 := K1.trans K2
    -- kind < 3
    refine ⟨_, rfl, _, _, rfl, rfl, _, rfl, ?_⟩
    refine ite3 (fun _ => ?_) fun _ => ?_
    · refine ⟨_, rfl, _, rfl, p, dl, 30, rfl, B2, by decide, fun n H3 n0 n1 B3 K3 => ?_⟩
      exact ⟨_, _, rfl, rfl, hs.wide (by omega), fin _ _ _ hs (by omega) B3 (K12.trans K3)⟩
    -- kind == 3
    refine ⟨_, rfl, rfl, _, rfl, ?_⟩
    refine ite3 (fun _ => ?_) fun _ => ?_
    · refine ⟨_, rfl, rfl, _, _, rfl, rfl, _, rfl, p, dl, 3, rfl, B2, by decide, fun n H3 n0 n1 B3 K3 => ?_⟩
      exact ⟨_, _, rfl, rfl, _, _, rfl, rfl, hs.wide (by omega), fin _ _ _ hs (by omega) B3 (K12.trans K3)⟩
    -- kind == 4
    refine ⟨_, rfl, rfl, _, rfl, ?_⟩
    refine ite3 (fun _ => ?_) fun _ => ?_
    · refine ⟨_, rfl, _, _, rfl, rfl, ⟨by decide, by decide, by decide⟩, _, _, rfl, rfl, ⟨by decide, by decide, by decide⟩, _, _, rfl, rfl, wide_mul (a := 65) (b := 65) (by decide) (by decide) (by decide) (by decide) (by decide), ?_⟩
      refine ⟨_, rfl, p, dl, 5, rfl, B2, by decide, fun n H3 n0 n1 B3 K3 => ?_⟩
      have e : (2 : Int) ^ (64 : Int).toNat * 2 ^ (64 : Int).toNat = 340282366920938463463374607431768211456 := by decide +kernel
      refine ⟨_, _, rfl, rfl, _, _, rfl, rfl, _, _, rfl, rfl, hs.wide ?_, fin _ _ _ hs ?_ B3 (K12.trans K3)⟩
      · rw [e]; omega
      · rw [e]; omega
    -- the loop
    refine ⟨_, rfl, p, dl, 25, rfl, B2, by decide, fun n H3 n0 n1 B3 K3 => ?_⟩
    refine ⟨_, _, rfl, rfl, _, rfl, by omega, by omega, ?_⟩
    refine for_range (lo := 0) (n := (1 + n).toNat) (fun i σ H4 => ∃ (m : Int) (x4 : Option V), σ = [some (.ref p), some (.int kind), some (.int (1 - 2 * sg)), some (.int m), x4] ∧ 0 ≤ m ∧ m < 1000 ^ i ∧ BoxAt H4 p dl ∧ Keep p H H4) ?_ ?_ ?_
    · exact ⟨0, none, rfl, by decide, by decide, B3, K12.trans K3⟩
    · rintro i σ H4 hi ⟨m, x4, rfl, m0, m1, B4, K4⟩
      refine ⟨_, rfl, _, _, rfl, rfl, ?_, _, rfl, p, dl, 1000, rfl, B4, by decide, fun r H5 r0 r1 B5 K5 => ?_⟩
      · have : (1000 : Int) ^ i ≤ 1000 ^ 25 := by
          have : i ≤ 25 := by omega
          exact_mod_cast Nat.pow_le_pow_right (by decide) this
        have e : (1000 : Int) ^ 25 < 2 ^ 256 := by decide +kernel
        exact wide_mul (a := 260) (b := 10) (by omega) (by decide) (by decide) (by decide) (by decide)
      · refine ⟨_, _, rfl, rfl, m * 1000 + r, _, rfl, by omega, ?_, B5, K4.trans K5⟩
        rw [Int.pow_succ]; omega
    · rintro σ H4 ⟨m, x4, rfl, m0, m1, B4, K4⟩
      have : (1000 : Int) ^ (1 + n).toNat ≤ 1000 ^ 25 := by
        have : (1 + n).toNat ≤ 25 := by omega
        exact_mod_cast Nat.pow_le_pow_right (by decide) this
      have e : (1000 : Int) ^ 25 < 2 ^ 256 := by decide +kernel
      have hm : m.natAbs < 2 ^ 260 := by omega
      exact ⟨_, rfl, _, rfl, _, _, rfl, rfl, hs.wide (by omega), fin _ _ _ hs hm B4 K4⟩
end

abbrev s_law_same : Stmt := top 22
abbrev N_law_same : List Str := ["actual", "due"]
abbrev P_law_same : List Str := ["actual", "due"]
theorem sc_law_same : FnScope N_law_same P_law_same (defScope s_law_same) := ⟨rfl, rfl, rfl, by decide +kernel, rfl, by decide +kernel, by decide +kernel⟩
section
variable {P : Program} {w : World} {K : PySem.W.Frag} {mg : Str → Option Value} {base : Heap}
theorem ok_same {f : Addr} {fd : FuncData} (F : Fun K "_law_same" "_law_same" s_law_same f fd) (T : Txt K mg) : FnG P w K mg base CX0 1 f fd P_law_same (spSame K) := by
  refine okG0 F sc_law_same (fun vs H Q E h => ?_) fun cdv A outer s H vs Q E hr hg h => ?_
  · obtain ⟨x, y, d, rfl, _⟩ := h
    rfl
  · obtain ⟨x, y, d, rfl, hx, hy, hs, k⟩ := h
    refine ⟨_, (pss_one (ps_ret (pe_cmpR op_eq (pe_callB (call_repr_data hg hr.units) (by rfl) T.b_repr (by decide +kernel) (pa_cons (pv 0) pa_nil)) (pe_callB (call_repr_data hg hr.units) (by rfl) T.b_repr (by decide +kernel) (pa_cons (pv 1) pa_nil)) (nomark _)))), ?_⟩
    refine ⟨_, rfl, _, d, rfl, hx, hs, _, rfl, _, d, rfl, hy, hs, rfl, ?_⟩
    rw [decide_eq_true rfl]
    exact k
end

abbrev s_start_heap : Stmt := top 6
abbrev N_start_heap : List Str := ["hosts", "variables", "at", "name", "heap", "base"]
abbrev P_start_heap : List Str := ["hosts"]
theorem sc_start_heap : FnScope N_start_heap P_start_heap (defScope s_start_heap) := ⟨rfl, rfl, rfl, by decide +kernel, rfl, by decide +kernel, by decide +kernel⟩
section
variable {P : Program} {w : World} {K : PySem.W.Frag} {mg : Str → Option Value} {base : Heap}
theorem ok_start {f : Addr} {fd : FuncData} (F : Fun K "start_heap" "start_heap" s_start_heap f fd) (T : Txt K mg) : FnG P w K mg base CX0 1 f fd P_start_heap (spStart K) := by
  refine okG0 F sc_start_heap (fun vs H Q E h => ?_) fun cdv A outer s H vs Q E hr hg h => ?_
  · obtain ⟨t, hs, rfl, _⟩ := h
    rfl
  · obtain ⟨t, hs, rfl, ht, hl, k⟩ := h
    refine ⟨_, (pss_cons (ps_setLc (i := 1) (own := [("at", 2), ("name", 3)]) (g := (gTup K 2 (gCons (gName 2) (gCons (gName 3) gNil)))) rfl sc_start_heap.nd rfl rfl (sw_true rfl rfl rfl (by decide +kernel)) (pi_enumT (by rfl) T.b_enumerate (pa_cons (pe_globT T.c_CLASSES (by rfl)) pa_nil)) (blkOk_by (N := N_start_heap) (sc := defScope s_start_heap) (by decide +kernel)) (fun _ _ _ _ _ => (pg_tup (by rfl) (pgs_cons (pg_name (i := 2) sc_start_heap.nd rfl (Or.inl rfl)) (pgs_cons (pg_name (i := 3) sc_start_heap.nd rfl (Or.inl rfl)) pgs_nil)))) (fun _ _ _ _ _ => pts_nil) (fun _ _ _ _ _ => (pe_tup (pa_cons (pv 3) (pa_cons (pe_tup (pa_cons pe_str (pa_cons (pe_op op_add (pv 2) pe_int) pa_nil))) pa_nil)))))
  (pss_cons (ps_expr (pe_bm PySem.F.plainAttrs_list PySem.F.slot_list_extend PySem.F.type_list_extend mt_extend (pv 1) (pa_cons (pe_lc (own := [("name", 3)]) (g := (gName 3)) rfl sc_start_heap.nd (pi_tup (pe_globT T.c_BUILT (by rfl))) (blkOk_by (N := N_start_heap) (sc := defScope s_start_heap) (by decide +kernel)) (fun _ _ _ _ _ => (pg_name (i := 3) sc_start_heap.nd rfl (Or.inl rfl))) (fun _ _ _ _ _ => pts_nil) (fun _ _ _ _ _ => (pe_tup (pa_cons (pv 3) (pa_cons (pe_tup (pa_cons pe_str (pa_cons (pv 3) pa_nil))) pa_nil))))) pa_nil)))
  (pss_cons (ps_expr (pe_bm PySem.F.plainAttrs_list PySem.F.slot_list_extend PySem.F.type_list_extend mt_extend (pv 1) (pa_cons (pe_lc (own := [("name", 3)]) (g := (gName 3)) rfl sc_start_heap.nd (pi_tup (pv 0)) (blkOk_by (N := N_start_heap) (sc := defScope s_start_heap) (by decide +kernel)) (fun _ _ _ _ _ => (pg_name (i := 3) sc_start_heap.nd rfl (Or.inl rfl))) (fun _ _ _ _ _ => pts_nil) (fun _ _ _ _ _ => (pe_tup (pa_cons (pv 3) (pa_cons (pe_tup (pa_cons pe_str (pa_cons (pv 3) pa_nil))) pa_nil))))) pa_nil)))
  (pss_cons (ps_set (i := 4) sc_start_heap.nd rfl (Or.inl rfl) (pe_lst (pa_cons (pe_tup (pa_cons pe_str (pa_cons (pe_callTy call_tuple_of (by rfl) T.b_tuple (by decide +kernel) (pa_cons (pv 1) pa_nil)) (pa_cons (pe_tup pa_nil) (pa_cons (pe_tup pa_nil) (pa_cons (pe_un un_neg pe_int) (pa_cons pe_bl pa_nil))))))) pa_nil)))
  (pss_cons (ps_for PassesOwn.never rfl (RZ.pi_zipA (by rfl) T.b_zip (pa_cons (pe_globT T.c_CLASSES (by rfl)) (pa_cons (pe_globT T.c_BASES (by rfl)) pa_nil))) (pg_tup (by rfl) (pgs_cons (pg_name (i := 3) sc_start_heap.nd rfl (Or.inl rfl)) (pgs_cons (pg_name (i := 5) sc_start_heap.nd rfl (Or.inl rfl)) pgs_nil)))
   (pss_one (ps_expr (pe_bm PySem.F.plainAttrs_list PySem.F.slot_list_append PySem.F.type_list_append mt_append (pv 4) (pa_cons (pe_tup (pa_cons pe_str (pa_cons (pv 3) (pa_cons (pv 5) (pa_cons (pe_tup pa_nil) pa_nil))))) pa_nil)))))
  (pss_one (ps_ret (pv 4)))))))), ?_⟩
    -- the classes' names
    refine fun ac kc => ⟨ac, _, rfl, kc.sq _, fun D hD => ?_⟩
    refine lc_dt (K := K) (walk_enumT (xs := clsNames.map V.str)) hD clsVars (by simp [clsVars]) (by decide) (fun H' _ => kc.sq _) ?_ ?_ mono_tup2
    · rintro i x H1 H2 d Nx hi hd S1 _ ⟨u, x1, x2, rfl, hu, rfl, e1, e2⟩ q
      cases e1
      refine ⟨u, _, rfl, SqT.of upd_same, rfl, _, _, rfl, _, _, rfl, rfl, rfl, ?_⟩
      refine ⟨_, rfl, _, rfl, _, _, rfl, rfl, sz_2, fun z hz => ⟨sz_2, fun y hy => q _ _ ((Same.new hu).trans ((Same.new hz).trans (Same.new hy))) ?_⟩⟩
      have hn : ∃ n, x2 = .str n ∧ d = clsVar i n := by
        have e2 : (clsNames.map V.str)[i]? = some x2 := e2
        rw [List.getElem?_map] at e2
        have hd : (clsNames.mapIdx clsVar)[i]? = some d := hd
        rw [List.getElem?_mapIdx] at hd
        cases en : clsNames[i]? with
        | none => rw [en] at e2; cases e2
        | some n => rw [en] at e2 hd; exact ⟨n, (Option.some.inj e2).symm, (Option.some.inj hd).symm⟩
      obtain ⟨n, rfl, rfl⟩ := hn
      exact Dt.made hy (.cons (.str _) (.cons (Dt.made hz (.cons (.str _) (.cons (.int _) .nil))) .nil))
    intro H1 vs1 S1 d1 a1
    -- the built-in functions' names
    refine ⟨_, rfl, .inl ⟨rfl, _, SqL.of d1⟩, fun ab kb => ⟨ab, rfl, ⟨_, kb.sq _⟩, fun D2 hD2 => ?_⟩⟩
    refine lc_dt (K := K) (walk_tup (xs := builtNames.map V.str)) hD2 (builtNames.map (nameVar "built")) (by simp) (by decide) (fun H' _ => kb.sq _) ?_ ?_ mono_name
    · rintro i x H3 H4 d Nx hi hd S3 _ ⟨rfl, e2⟩ q
      refine ⟨rfl, _, rfl, _, rfl, sz_2, fun z hz => ⟨sz_2, fun y hy => q _ _ ((Same.new hz).trans (Same.new hy)) ?_⟩⟩
      have hn : ∃ n, x = .str n ∧ d = nameVar "built" n := by
        rw [List.getElem?_map] at e2 hd
        cases en : builtNames[i]? with
        | none => rw [en] at e2; cases e2
        | some n => rw [en] at e2 hd; exact ⟨n, (Option.some.inj e2).symm, (Option.some.inj hd).symm⟩
      obtain ⟨n, rfl, rfl⟩ := hn
      exact Dt.made hy (.cons (.str _) (.cons (Dt.made hz (.cons (.str _) (.cons (.str _) .nil))) .nil))
    intro H2 vs2 S2 d2 a2
    have d1' := S2 _ _ d1
    have n2 : D ≠ D2 := ne_of_none d1 hD2
    have l1 : vs1.length = 16 := by rw [a1.length]; decide
    have l2 : vs2.length = 13 := by rw [a2.length]; decide
    refine ⟨D, D2, vs1, vs2, rfl, rfl, d1', d2, by rw [l1, l2]; decide, ?_⟩
    have kt3 : KeepT K H2 (upd H2 D (.lst (vs1 ++ vs2))) := KeepT.upd d1'
    have a12 := DtAll.app (DtAll.keepT (KeepT.trans (Same.keepT S2) kt3) a1) (DtAll.keepT kt3 a2)
    have S3 : Same H (upd H2 D (.lst (vs1 ++ vs2))) := fun b o e => by rw [upd_ne (ne_of_none e hD)]; exact S2 _ _ (S1 _ _ e)
    have d3 : upd H2 D (.lst (vs1 ++ vs2)) D = some (.lst (vs1 ++ vs2)) := upd_same
    generalize upd H2 D (.lst (vs1 ++ vs2)) = H3 at a12 S3 d3 ⊢
    -- the host's functions
    refine ⟨_, rfl, .inl ⟨rfl, _, SqL.of d3⟩, _, rfl, t, rfl, ⟨_, SqT.mono ht S3⟩, fun D4 hD4 => ?_⟩
    refine lc_dt (K := K) (walk_tup (xs := hs.map V.str)) hD4 (hs.map (nameVar "host")) (by simp) (Nat.lt_of_le_of_lt (by simpa using hl) (show 1000 < sizeLine by decide)) (fun H' S => SqT.mono ht (S3.trans S)) ?_ ?_ mono_name
    · rintro i x H4 H5 d Nx hi hd S4 _ ⟨rfl, e2⟩ q
      refine ⟨rfl, _, rfl, _, rfl, sz_2, fun z hz => ⟨sz_2, fun y hy => q _ _ ((Same.new hz).trans (Same.new hy)) ?_⟩⟩
      have hn : ∃ n, x = .str n ∧ d = nameVar "host" n := by
        rw [List.getElem?_map] at e2 hd
        cases en : hs[i]? with
        | none => rw [en] at e2; cases e2
        | some n => rw [en] at e2 hd; exact ⟨n, (Option.some.inj e2).symm, (Option.some.inj hd).symm⟩
      obtain ⟨n, rfl, rfl⟩ := hn
      exact Dt.made hy (.cons (.str _) (.cons (Dt.made hz (.cons (.str _) (.cons (.str _) .nil))) .nil))
    intro H4 vs4 S4 d4 a4
    have d3' := S4 _ _ d3
    have l4 : vs4.length ≤ 1000 := by rw [a4.length]; simpa using hl
    refine ⟨D, D4, vs1 ++ vs2, vs4, rfl, rfl, d3', d4, ?_, ?_⟩
    · rw [List.length_append, l1, l2]; exact Nat.le_trans (Nat.add_le_add_left l4 _) (by decide)
    have kt5 : KeepT K H4 (upd H4 D (.lst (vs1 ++ vs2 ++ vs4))) := KeepT.upd d3'
    have a14 := DtAll.app (DtAll.keepT (KeepT.trans (Same.keepT S4) kt5) a12) (DtAll.keepT kt5 a4)
    have S5 : Same H (upd H4 D (.lst (vs1 ++ vs2 ++ vs4))) := fun b o e => by rw [upd_ne (ne_of_none e hD)]; exact S4 _ _ (S3 _ _ e)
    have d5 : upd H4 D (.lst (vs1 ++ vs2 ++ vs4)) D = some (.lst (vs1 ++ vs2 ++ vs4)) := upd_same
    generalize upd H4 D (.lst (vs1 ++ vs2 ++ vs4)) = H5 at a14 S5 d5 ⊢
    -- heap = [("scope", ..)]
    refine ⟨_, rfl, D, _, rfl, .inl ⟨SqL.of d5, fun t1 h1 => ⟨sz_0, fun t2 h2 => ⟨sz_0, fun t3 h3 => ⟨_, rfl, (by show 6 ≤ sizeLine; decide), fun t4 h4 => ⟨sz_1, fun hp hhp => ?_⟩⟩⟩⟩⟩⟩
    have v1 : Dt K (upd H5 t1 (.tup (vs1 ++ vs2 ++ vs4))) (.ref t1) (.tuple (startVars hs)) := Dt.made h1 a14
    have v2 := Dt.mono (Same.new (o := .tup []) h2) v1
    have v3 := Dt.mono (Same.new (o := .tup []) h3) v2
    have w2 : Dt K (upd (upd H5 t1 (.tup (vs1 ++ vs2 ++ vs4))) t2 (.tup [])) (.ref t2) (.tuple []) := Dt.made h2 .nil
    have w3 := Dt.mono (Same.new (o := .tup []) h3) w2
    have w4 : Dt K (upd (upd (upd H5 t1 (.tup (vs1 ++ vs2 ++ vs4))) t2 (.tup [])) t3 (.tup [])) (.ref t3) (.tuple []) := Dt.made h3 .nil
    have v4 := Dt.mono (Same.new (o := .lst [.ref t4]) hhp) (Dt.made h4 (.cons (.str "scope") (.cons v3 (.cons w3 (.cons w4 (.cons (.int (-1)) (.cons (.bl false) .nil)))))))
    have S6 := S5.trans ((Same.new h1).trans ((Same.new h2).trans ((Same.new h3).trans ((Same.new (o := .tup [.str "scope", .ref t1, .ref t2, .ref t3, .int (-1), .bl false]) h4).trans (Same.new (o := .lst [.ref t4]) hhp)))))
    have nh : H hp = none := Same.free (S5.trans ((Same.new h1).trans ((Same.new h2).trans ((Same.new h3).trans (Same.new (o := .tup [.str "scope", .ref t1, .ref t2, .ref t3, .int (-1), .bl false]) h4))))) hhp
    refine fun ac2 kc2 => fun ab2 kb2 => ⟨ac2, ab2, _, _, rfl, .inr ⟨kc2.sq _, kb2.sq _, ?_⟩⟩
    refine RZ.for_zipT (xs := clsNames.map V.str) (ys := clsBases.map V.int) rfl (fun i σ H' => ∃ y3 y5, σ = [some (.ref t), some (.ref D), none, y3, some (.ref hp), y5] ∧ Same H H' ∧ ListAt K H' hp (PyData.tuple [.str "scope", .tuple (startVars hs), .tuple [], .tuple [], .int (-1), .bool false] :: (List.zipWith clsObj clsNames clsBases).take i))
      ⟨none, none, rfl, S6, _, upd_same, .cons v4 .nil⟩ (fun _ _ _ _ => ⟨kc2.sq _, kb2.sq _⟩) ?_ ?_
    · rintro i x y T1 σ H6 hx hy ⟨y3, y5, rfl, S7, xs, hxs, ax⟩ hT1
      have xs1 := Same.new (o := .tup [x, y]) hT1 _ _ hxs
      refine ⟨T1, _, rfl, SqT.of upd_same, rfl, _, _, rfl, _, _, rfl, rfl, _, rfl, .inl ⟨rfl, _, SqL.of xs1⟩, _, rfl, _, rfl, sz_0, fun u hu => ⟨sz_4, fun z hz => ?_⟩⟩
      have hn : ∃ n b, x = .str n ∧ y = .int b ∧ (List.zipWith clsObj clsNames clsBases)[i]? = some (clsObj n b) := by
        rw [List.getElem?_map] at hx hy
        cases en : clsNames[i]? with
        | none => rw [en] at hx; cases hx
        | some n =>
          cases eb : clsBases[i]? with
          | none => rw [eb] at hy; cases hy
          | some b =>
            rw [en] at hx; rw [eb] at hy
            exact ⟨n, b, (Option.some.inj hx).symm, (Option.some.inj hy).symm, by rw [List.getElem?_zipWith, en, eb]⟩
      obtain ⟨n, b, rfl, rfl, he⟩ := hn
      have S8 := (Same.new (o := .tup [.str n, .int b]) hT1).trans ((Same.new (o := .tup []) hu).trans (Same.new (o := .tup [.str "class", .str n, .int b, .ref u]) hz))
      have xs2 := S8 _ _ hxs
      have dz : Dt K _ (.ref z) (clsObj n b) := Dt.made hz (.cons (.str "class") (.cons (.str n) (.cons (.int b) (.cons (Dt.made hu .nil) .nil))))
      have ax2 := DtAll.mono S8 ax
      generalize upd (upd (upd H6 T1 _) u _) z _ = H7 at S8 xs2 dz ax2
      have lx : xs.length ≤ 1 + 16 := by
        rw [ax.length]
        have := List.length_take_le' i (List.zipWith clsObj clsNames clsBases)
        have e16 : (List.zipWith clsObj clsNames clsBases).length = 16 := by decide
        simp only [List.length_cons]
        omega
      refine ⟨hp, xs, .ref z, rfl, rfl, xs2, Nat.lt_of_le_of_lt lx (by decide), _, _, rfl, fun q o e => ?_, _, upd_same, ?_⟩
      · rw [upd_ne (ne_of_none e nh)]
        exact S8 _ _ (S7 _ _ e)
      · rw [List.take_succ, he, ← List.cons_append]
        exact DtAll.app (DtAll.keepT (KeepT.upd xs2) ax2) (.cons (Dt.keepT (KeepT.upd xs2) dz) .nil)
    · rintro σ H6 ⟨y3, y5, rfl, S7, ax⟩
      exact ⟨_, rfl, k hp H6 nh S7 ax⟩
end

section
variable {P : Program} {w : World} {K : PySem.W.Frag} {mg : Str → Option Value} {base : Heap}
/-! kinds -/
def spIsNum (K : PySem.W.Frag) : Sp := fun vs H Q _ => ∃ (v : V) (z : Str) (rest : List PyData), vs = [v] ∧ Dt K H v (.tuple (.str z :: rest)) ∧ ∀ H', Same H H' → Q (.bl (inV (V.str z) [V.str "int", V.str "bool"])) H'
theorem ok_isnum {f : Addr} {fd : FuncData} (F : Fun K "is_number" "is_number" s_is_number f fd) (T : Txt K mg) : FnG P w K mg base CX0 1 f fd P_is_number (spIsNum K) := by
  refine okG0 F sc_is_number (fun vs H Q E h => ?_) fun cdv A outer s H vs Q E hr hg h => ?_
  · obtain ⟨v, z, r, rfl, _⟩ := h
    rfl
  · obtain ⟨v, z, r, rfl, hd, k⟩ := h
    obtain ⟨q, ws, rfl, hs, _⟩ := hd.head
    refine ⟨_, (pss_one (ps_ret (pe_cmpR op_in_seq (pe_ix ix_tup (pv 0) pe_int (fun _ _ => rfl)) (pe_tup (pa_cons pe_str (pa_cons pe_str pa_nil))) (by rfl)))), ?_⟩
    exact ⟨_, rfl, q, _, _, .str z, rfl, rfl, hs, at0, sz_2, fun u hu => ⟨u, _, rfl, .inr (SqT.of upd_same), rfl, rfl, k _ (Same.new hu)⟩⟩
inductive KindIs (hds : List PyData) : PyData → Str → Prop
  | plain {z : Str} {rest : List PyData} : V.str z ≠ V.str "ref" → KindIs hds (.tuple (.str z :: rest)) ""
  | obj {k : Nat} {kd : Str} {rest : List PyData} : hds[k]? = some (.tuple (.str kd :: rest)) → KindIs hds (.tuple [.str "ref", .int (k : Nat)]) kd
def spKind (K : PySem.W.Frag) : Sp := fun vs H Q _ => ∃ (hp : Addr) (hds : List PyData) (v : V) (d : PyData) (kd : Str), vs = [.ref hp, v] ∧ ListAt K H hp hds ∧ Dt K H v d ∧ KindIs hds d kd ∧ Q (.str kd) H
theorem ok_kind {f : Addr} {fd : FuncData} (F : Fun K "object_kind" "object_kind" s_object_kind f fd) (T : Txt K mg) : FnG P w K mg base CX0 1 f fd P_object_kind (spKind K) := by
  refine okG0 F sc_object_kind (fun vs H Q E h => ?_) fun cdv A outer s H vs Q E hr hg h => ?_
  · obtain ⟨hp, hds, v, d, kd, rfl, _⟩ := h
    rfl
  · obtain ⟨hp, hds, v, d, kd, rfl, ⟨xs, hx, ax⟩, hd, hk, k⟩ := h
    refine ⟨_, (pss_cons (ps_if (pt_cmpR op_ne (pe_ix ix_tup (pv 1) pe_int (fun _ _ => rfl)) pe_str (nomark _))
   (pss_one (ps_ret pe_str))
   pss_nil)
  (pss_one (ps_ret (pe_ix ix_tup (pe_ix ix_list (pv 0) (pe_ix ix_tup (pv 1) pe_int (fun _ _ => rfl)) (fun _ _ => rfl)) pe_int (fun _ _ => rfl))))), ?_⟩
    cases hk with
    | plain hz =>
      obtain ⟨q, ws, rfl, hs, _⟩ := hd.head
      exact ⟨_, rfl, q, _, _, _, rfl, rfl, hs, at0, rfl, _, rfl, iteTb (by rw [decide_eq_false hz]; rfl) k⟩
    | @obj i _ rest hh =>
      obtain ⟨q, y, rfl, hs, h2⟩ := hd.pair
      cases h2.int_inv
      obtain ⟨o, ho, dO⟩ := ax.get hh
      obtain ⟨qo, zs, rfl, hso, _⟩ := dO.head
      refine ⟨_, rfl, q, _, _, _, rfl, rfl, hs, at0, rfl, _, rfl, iteFb (by decide +kernel) ?_⟩
      exact ⟨_, rfl, _, rfl, q, _, _, _, rfl, rfl, hs, at1, hp, _, _, _, rfl, rfl, SqL.of hx, atI_nat ho, qo, _, _, _, rfl, rfl, hso, at0, k⟩
/-! truth -/
inductive TruthIs (hds : List PyData) : PyData → Bool → Prop
  | none : TruthIs hds (.tuple [.str "none"]) false
  | int (n : Int) : TruthIs hds (.tuple [.str "int", .int n]) (n != 0)
  | bool (b : Bool) : TruthIs hds (.tuple [.str "bool", .bool b]) b
  | text (x : Str) : SeqAt.shaped (.str x) = true → TruthIs hds (.tuple [.str "text", .str x]) (x != "")
  | span (a b : Int) : TruthIs hds (.tuple [.str "span", .int a, .int b]) (a != b)
  | row {k : Nat} {kd : Str} {ds : List PyData} : kd = "tuple" ∨ kd = "list" ∨ kd = "dict" → hds[k]? = some (.tuple [.str kd, .tuple ds]) → SeqAt.shaped (.tuple ds) = true → TruthIs hds (.tuple [.str "ref", .int (k : Nat)]) (!ds.isEmpty)
  | obj {k : Nat} {kd : Str} {rest : List PyData} : kd = "scope" ∨ kd = "class" → hds[k]? = some (.tuple (.str kd :: rest)) → TruthIs hds (.tuple [.str "ref", .int (k : Nat)]) true
  | built (x : Str) : TruthIs hds (.tuple [.str "built", .str x]) true
  | host (x : Str) : TruthIs hds (.tuple [.str "host", .str x]) true
def spTruth (K : PySem.W.Frag) : Sp := fun vs H Q _ => ∃ (hp : Addr) (hds : List PyData) (v : V) (d : PyData) (b : Bool), vs = [.ref hp, v] ∧ ListAt K H hp hds ∧ Dt K H v d ∧ TruthIs hds d b ∧ ∀ H', Same H H' → Q (.bl b) H'
theorem ok_truth {f : Addr} {fd : FuncData} (F : Fun K "truth" "truth" s_truth f fd) (T : Txt K mg) (U_is_number : Use P w K mg base CX0 "is_number" 1 P_is_number (spIsNum K)) (U_object_kind : Use P w K mg base CX0 "object_kind" 1 P_object_kind (spKind K)) :
    FnG P w K mg base CX0 2 f fd P_truth (spTruth K) := by
  refine okG0 F sc_truth (fun vs H Q E h => ?_) fun cdv A outer s H vs Q E hr hg h => ?_
  · obtain ⟨hp, hds, v, d, b, rfl, _⟩ := h
    rfl
  · obtain ⟨hp, hds, v, d, b, rfl, L, hd, ht, k⟩ := h
    refine ⟨_, (pss_cons (ps_set (i := 2) sc_truth.nd rfl (Or.inl rfl) (pe_ix ix_tup (pv 1) pe_int (fun _ _ => rfl)))
  (pss_cons (ps_if (pt_cmpR op_eq (pv 2) pe_str (nomark _))
   (pss_one (ps_ret pe_bl))
   pss_nil)
  (pss_cons (ps_if (pt_val (pe_use U_is_number (hr.mono (by decide)) hg rfl (pa_cons (pv 1) pa_nil)))
   (pss_one (ps_ret (pe_cmpR (op_neD hr.units) (pe_ix ix_tup (pv 1) pe_int (fun _ _ => rfl)) pe_int (nomark _))))
   pss_nil)
  (pss_cons (ps_if (pt_cmpR op_eq (pv 2) pe_str (nomark _))
   (pss_one (ps_ret (pe_cmpR (op_neD hr.units) (pe_ix ix_tup (pv 1) pe_int (fun _ _ => rfl)) pe_str (nomark _))))
   pss_nil)
  (pss_cons (ps_if (pt_cmpR op_eq (pv 2) pe_str (nomark _))
   (pss_one (ps_ret (pe_cmpR (op_neD hr.units) (pe_ix ix_tup (pv 1) pe_int (fun _ _ => rfl)) (pe_ix ix_tup (pv 1) pe_int (fun _ _ => rfl)) (nomark _))))
   pss_nil)
  (pss_cons (ps_if (pt_cmpR op_in_seq (pe_use U_object_kind (hr.mono (by decide)) hg rfl (pa_cons (pv 0) (pa_cons (pv 1) pa_nil))) (pe_tup (pa_cons pe_str (pa_cons pe_str (pa_cons pe_str pa_nil)))) (by rfl))
   (pss_one (ps_ret (pe_cmpR (op_neD hr.units) (pe_ix ix_tup (pe_ix ix_list (pv 0) (pe_ix ix_tup (pv 1) pe_int (fun _ _ => rfl)) (fun _ _ => rfl)) pe_int (fun _ _ => rfl)) (pe_tup pa_nil) (nomark _))))
   pss_nil)
  (pss_one (ps_ret pe_bl)))))))), ?_⟩
    cases ht with
    | none =>
      obtain ⟨q, ws, rfl, hs, _⟩ := hd.head
      exact ⟨_, rfl, q, _, _, _, rfl, rfl, hs, at0, _, rfl, rfl, _, rfl, iteTb (by decide +kernel) (k _ (Same.refl _))⟩
    | int n =>
      obtain ⟨q, y, rfl, hs, h1⟩ := hd.pair
      cases h1.int_inv
      refine ⟨_, rfl, q, _, _, _, rfl, rfl, hs, at0, _, rfl, rfl, _, rfl, iteFb (by decide +kernel) ⟨_, rfl, _, _, _, rfl, hd, fun H1 S1 => ⟨_, rfl, iteTb (by decide +kernel) ?_⟩⟩⟩
      refine ⟨_, rfl, q, _, _, _, rfl, rfl, Same.tupl S1 hs, at1, _, _, .int n, .int 0, rfl, rfl, ?_⟩
      exact k _ S1
    | bool b =>
      obtain ⟨q, y, rfl, hs, h1⟩ := hd.pair
      cases h1.bool_inv
      refine ⟨_, rfl, q, _, _, _, rfl, rfl, hs, at0, _, rfl, rfl, _, rfl, iteFb (by decide +kernel) ⟨_, rfl, _, _, _, rfl, hd, fun H1 S1 => ⟨_, rfl, iteTb (by decide +kernel) ?_⟩⟩⟩
      refine ⟨_, rfl, q, _, _, _, rfl, rfl, Same.tupl S1 hs, at1, _, _, .bl b, .int 0, rfl, rfl, ?_⟩
      have e : (!PyData.eqv (.bool b) (.int 0)) = b := by cases b <;> simp [PyData.eqv]
      exact e.symm ▸ k _ S1
    | text x hx =>
      obtain ⟨q, y, rfl, hs, h1⟩ := hd.pair
      cases h1.str_inv
      refine ⟨_, rfl, q, _, _, _, rfl, rfl, hs, at0, _, rfl, rfl, _, rfl, iteFb (by decide +kernel) ⟨_, rfl, _, _, _, rfl, hd, fun H1 S1 => ⟨_, rfl, iteFb (by decide +kernel) ?_⟩⟩⟩
      refine ⟨_, rfl, rfl, _, rfl, iteTb (by decide +kernel) ?_⟩
      refine ⟨_, rfl, q, _, _, _, rfl, rfl, Same.tupl S1 hs, at1, _, _, .str x, .str "", hx, by decide +kernel, ?_⟩
      exact k _ S1
    | span a b =>
      obtain ⟨q, y, z, rfl, hs, h1, h2⟩ := hd.triple
      cases h1.int_inv; cases h2.int_inv
      refine ⟨_, rfl, q, _, _, _, rfl, rfl, hs, at0, _, rfl, rfl, _, rfl, iteFb (by decide +kernel) ⟨_, rfl, _, _, _, rfl, hd, fun H1 S1 => ⟨_, rfl, iteFb (by decide +kernel) ?_⟩⟩⟩
      refine ⟨_, rfl, rfl, _, rfl, iteFb (by decide +kernel) ⟨_, rfl, rfl, _, rfl, iteTb (by decide +kernel) ?_⟩⟩
      have hs1 := Same.tupl S1 hs
      refine ⟨_, rfl, q, _, _, _, rfl, rfl, hs1, at1, _, rfl, q, _, _, _, rfl, rfl, hs1, at2, _, _, .int a, .int b, rfl, rfl, ?_⟩
      exact k _ S1
    | @row i kd ds hkd hh hsh =>
      obtain ⟨q, y, rfl, hs, h1⟩ := hd.pair
      cases h1.int_inv
      refine ⟨_, rfl, q, _, _, _, rfl, rfl, hs, at0, _, rfl, rfl, _, rfl, iteFb (by decide +kernel) ⟨_, rfl, _, _, _, rfl, hd, fun H1 S1 => ⟨_, rfl, iteFb (by decide +kernel) ?_⟩⟩⟩
      refine ⟨_, rfl, rfl, _, rfl, iteFb (by decide +kernel) ⟨_, rfl, rfl, _, rfl, iteFb (by decide +kernel) ?_⟩⟩
      have L1 := listAt_mono L S1
      refine ⟨_, rfl, _, rfl, hp, hds, _, _, kd, rfl, L1, Dt.mono S1 hd, .obj hh, sz_3, fun u hu => ⟨u, _, rfl, .inr (SqT.of upd_same), rfl, rfl, _, rfl, ?_⟩⟩
      refine iteTb (by rcases hkd with rfl | rfl | rfl <;> decide +kernel) ?_
      have S2 := S1.trans (Same.new (o := .tup [.str "tuple", .str "list", .str "dict"]) hu)
      obtain ⟨xs, hx, ax⟩ := listAt_mono L S2
      obtain ⟨o, ho, dO⟩ := ax.get hh
      obtain ⟨qo, it, rfl, hso, hi⟩ := dO.pair
      refine ⟨_, rfl, _, rfl, q, _, _, _, rfl, rfl, Same.tupl S2 hs, at1, hp, _, _, _, rfl, rfl, SqL.of hx, atI_nat ho, qo, _, _, _, rfl, rfl, hso, at1, sz_0, fun u2 hu2 => ?_⟩
      refine ⟨_, _, (Dt.mono (Same.new hu2) hi).dp, Dp.made hu2 .nil, hsh, rfl, ?_⟩
      have e : (!PyData.eqv (.tuple ds) (.tuple [])) = !ds.isEmpty := by rw [eqv_nil]
      exact e.symm ▸ k _ (S2.trans (Same.new hu2))
    | @obj i kd rest hkd hh =>
      obtain ⟨q, y, rfl, hs, h1⟩ := hd.pair
      cases h1.int_inv
      refine ⟨_, rfl, q, _, _, _, rfl, rfl, hs, at0, _, rfl, rfl, _, rfl, iteFb (by decide +kernel) ⟨_, rfl, _, _, _, rfl, hd, fun H1 S1 => ⟨_, rfl, iteFb (by decide +kernel) ?_⟩⟩⟩
      refine ⟨_, rfl, rfl, _, rfl, iteFb (by decide +kernel) ⟨_, rfl, rfl, _, rfl, iteFb (by decide +kernel) ?_⟩⟩
      refine ⟨_, rfl, _, rfl, hp, hds, _, _, kd, rfl, listAt_mono L S1, Dt.mono S1 hd, .obj hh, sz_3, fun u hu => ⟨u, _, rfl, .inr (SqT.of upd_same), rfl, rfl, _, rfl, ?_⟩⟩
      exact iteFb (by rcases hkd with rfl | rfl <;> decide +kernel) (k _ (S1.trans (Same.new hu)))
    | built x =>
      obtain ⟨q, y, rfl, hs, h1⟩ := hd.pair
      refine ⟨_, rfl, q, _, _, _, rfl, rfl, hs, at0, _, rfl, rfl, _, rfl, iteFb (by decide +kernel) ⟨_, rfl, _, _, _, rfl, hd, fun H1 S1 => ⟨_, rfl, iteFb (by decide +kernel) ?_⟩⟩⟩
      refine ⟨_, rfl, rfl, _, rfl, iteFb (by decide +kernel) ⟨_, rfl, rfl, _, rfl, iteFb (by decide +kernel) ?_⟩⟩
      refine ⟨_, rfl, _, rfl, hp, hds, _, _, _, rfl, listAt_mono L S1, Dt.mono S1 hd, .plain (by decide +kernel), sz_3, fun u hu => ⟨u, _, rfl, .inr (SqT.of upd_same), rfl, rfl, _, rfl, ?_⟩⟩
      exact iteFb (by decide +kernel) (k _ (S1.trans (Same.new hu)))
    | host x =>
      obtain ⟨q, y, rfl, hs, h1⟩ := hd.pair
      refine ⟨_, rfl, q, _, _, _, rfl, rfl, hs, at0, _, rfl, rfl, _, rfl, iteFb (by decide +kernel) ⟨_, rfl, _, _, _, rfl, hd, fun H1 S1 => ⟨_, rfl, iteFb (by decide +kernel) ?_⟩⟩⟩
      refine ⟨_, rfl, rfl, _, rfl, iteFb (by decide +kernel) ⟨_, rfl, rfl, _, rfl, iteFb (by decide +kernel) ?_⟩⟩
      refine ⟨_, rfl, _, rfl, hp, hds, _, _, _, rfl, listAt_mono L S1, Dt.mono S1 hd, .plain (by decide +kernel), sz_3, fun u hu => ⟨u, _, rfl, .inr (SqT.of upd_same), rfl, rfl, _, rfl, ?_⟩⟩
      exact iteFb (by decide +kernel) (k _ (S1.trans (Same.new hu)))
/-! length -/
def okInt (n : Int) : PyData := .tuple [.str "ok", .tuple [.str "int", .int n]]
def bigD : PyData := .tuple [.str "raise", .int 4, .str "integer too large"]
inductive LenIs (hds : List PyData) : PyData → PyData → Prop
  | span (a b : Int) : LenIs hds (.tuple [.str "span", .int a, .int b]) (if 2 ^ 256 ≤ b - a then bigD else okInt (b - a))
  | text (x : Str) : x.length ≤ 1000000 → LenIs hds (.tuple [.str "text", .str x]) (okInt x.length)
  | row {k : Nat} {kd : Str} {ds : List PyData} : kd = "tuple" ∨ kd = "list" ∨ kd = "dict" → hds[k]? = some (.tuple [.str kd, .tuple ds]) → LenIs hds (.tuple [.str "ref", .int (k : Nat)]) (okInt ds.length)
def spLength (K : PySem.W.Frag) : Sp := fun vs H Q _ => ∃ (hp : Addr) (hds : List PyData) (v : V) (d r : PyData), vs = [.ref hp, v] ∧ ListAt K H hp hds ∧ Dt K H v d ∧ LenIs hds d r ∧ ∀ v H', Same H H' → Dt K H' v r → Q v H'
theorem ok_length {f : Addr} {fd : FuncData} (F : Fun K "length" "length" s_length f fd) (T : Txt K mg) (U_object_kind : Use P w K mg base CX0 "object_kind" 1 P_object_kind (spKind K)) : FnG P w K mg base CX0 2 f fd P_length (spLength K) := by
  refine okG0 F sc_length (fun vs H Q E h => ?_) fun cdv A outer s H vs Q E hr hg h => ?_
  · obtain ⟨hp, hds, v, d, b, rfl, _⟩ := h
    rfl
  · obtain ⟨hp, hds, v, d, r, rfl, L, hd, ht, k⟩ := h
    refine ⟨_, (pss_cons (ps_if (pt_cmpR op_eq (pe_ix ix_tup (pv 1) pe_int (fun _ _ => rfl)) pe_str (nomark _))
   (pss_cons (ps_set (i := 2) sc_length.nd rfl (Or.inl rfl) (pe_op op_sub (pe_ix ix_tup (pv 1) pe_int (fun _ _ => rfl)) (pe_ix ix_tup (pv 1) pe_int (fun _ _ => rfl))))
  (pss_cons (ps_if (pt_cmpR op_ge (pv 2) (pe_globI T.c_INTEGER_END (by rfl)) (nomark _))
   (pss_one (ps_ret (pe_globT T.c_INTEGER_TOO_LARGE (by rfl))))
   pss_nil)
  (pss_one (ps_ret (pe_tup (pa_cons pe_str (pa_cons (pe_tup (pa_cons pe_str (pa_cons (pv 2) pa_nil))) pa_nil)))))))
   pss_nil)
  (pss_cons (ps_if (pt_cmpR op_eq (pe_ix ix_tup (pv 1) pe_int (fun _ _ => rfl)) pe_str (nomark _))
   (pss_one (ps_ret (pe_tup (pa_cons pe_str (pa_cons (pe_tup (pa_cons pe_str (pa_cons (pe_callB call_len (by rfl) T.b_len PySem.boot_len (pa_cons (pe_ix ix_tup (pv 1) pe_int (fun _ _ => rfl)) pa_nil)) pa_nil))) pa_nil)))))
   pss_nil)
  (pss_cons (ps_if (pt_cmpR op_in_seq (pe_use U_object_kind (hr.mono (by decide)) hg rfl (pa_cons (pv 0) (pa_cons (pv 1) pa_nil))) (pe_tup (pa_cons pe_str (pa_cons pe_str (pa_cons pe_str pa_nil)))) (by rfl))
   (pss_one (ps_ret (pe_tup (pa_cons pe_str (pa_cons (pe_tup (pa_cons pe_str (pa_cons (pe_callB call_len (by rfl) T.b_len PySem.boot_len (pa_cons (pe_ix ix_tup (pe_ix ix_list (pv 0) (pe_ix ix_tup (pv 1) pe_int (fun _ _ => rfl)) (fun _ _ => rfl)) pe_int (fun _ _ => rfl)) pa_nil)) pa_nil))) pa_nil)))))
   pss_nil)
  pss_never))), ?_⟩
    have fin : ∀ H1 (n : Int) u z, Same H H1 → H1 u = none → upd H1 u (.tup [.str "int", .int n]) z = none → r = okInt n → Q (.ref z) (upd (upd H1 u (.tup [.str "int", .int n])) z (.tup [.str "ok", .ref u])) := fun H1 n u z S hu hz e =>
      k _ _ (S.trans ((Same.new hu).trans (Same.new hz))) (e ▸ Dt.made hz (.cons (.str _) (.cons (Dt.made hu (.cons (.str _) (.cons (.int _) .nil))) .nil)))
    cases ht with
    | span a b =>
      obtain ⟨q, y, z, rfl, hs, h1, h2⟩ := hd.triple
      cases h1.int_inv; cases h2.int_inv
      refine ⟨_, rfl, q, _, _, _, rfl, rfl, hs, at0, rfl, _, rfl, iteTb (by decide +kernel) ?_⟩
      refine ⟨_, rfl, q, _, _, _, rfl, rfl, hs, at2, _, rfl, q, _, _, _, rfl, rfl, hs, at1, _, _, rfl, rfl, _, rfl, _, _, rfl, rfl, _, rfl, ?_⟩
      refine ite3 (fun c => ?_) fun c => ?_
      · have c := of_decide_eq_true c
        intro a' ka
        refine k _ _ (Same.refl _) ?_
        rw [if_pos c]
        exact .tup (ka.sq _) (.cons (.str _) (.cons (.int _) (.cons (.str _) .nil)))
      · have c := of_decide_eq_false c
        exact ⟨_, rfl, sz_2, fun u hu => ⟨sz_2, fun z hz => fin H _ u z (Same.refl _) hu hz (if_neg c)⟩⟩
    | text x hl =>
      obtain ⟨q, y, rfl, hs, h1⟩ := hd.pair
      cases h1.str_inv
      refine ⟨_, rfl, q, _, _, _, rfl, rfl, hs, at0, rfl, _, rfl, iteFb (by decide +kernel) ⟨_, rfl, q, _, _, _, rfl, rfl, hs, at0, rfl, _, rfl, iteTb (by decide +kernel) ?_⟩⟩
      exact ⟨_, rfl, q, _, _, _, rfl, rfl, hs, at1, _, _, rfl, ⟨Nat.le_trans hl (by decide), rfl⟩, sz_2, fun u hu => ⟨sz_2, fun z hz => fin H _ u z (Same.refl _) hu hz rfl⟩⟩
    | @row i kd ds hkd hh =>
      obtain ⟨q, y, rfl, hs, h1⟩ := hd.pair
      cases h1.int_inv
      refine ⟨_, rfl, q, _, _, _, rfl, rfl, hs, at0, rfl, _, rfl, iteFb (by decide +kernel) ⟨_, rfl, q, _, _, _, rfl, rfl, hs, at0, rfl, _, rfl, iteFb (by decide +kernel) ?_⟩⟩
      refine ⟨_, rfl, _, rfl, hp, hds, _, _, kd, rfl, L, hd, .obj hh, sz_3, fun u hu => ⟨u, _, rfl, .inr (SqT.of upd_same), rfl, rfl, _, rfl, ?_⟩⟩
      refine iteTb (by rcases hkd with rfl | rfl | rfl <;> decide +kernel) ?_
      have S2 := Same.new (o := .tup [.str "tuple", .str "list", .str "dict"]) hu
      obtain ⟨xs, hx, ax⟩ := listAt_mono L S2
      obtain ⟨o, ho, dO⟩ := ax.get hh
      obtain ⟨qo, it, rfl, hso, hi⟩ := dO.pair
      obtain ⟨qi, ys, rfl, hsi, hai⟩ := hi.tuple_inv
      refine ⟨_, rfl, _, rfl, q, _, _, _, rfl, rfl, Same.tupl S2 hs, at1, hp, _, _, _, rfl, rfl, SqL.of hx, atI_nat ho, qo, _, _, _, rfl, rfl, hso, at1, _, _, rfl, .inr ⟨_, hsi, hai.length.symm⟩, sz_2, fun u hu => ⟨sz_2, fun z hz => fin _ _ u z S2 hu hz rfl⟩⟩
/-! the law -/
def zeroD : PyData := .tuple [.str "int", .int 0]
def entD (i : Nat) : PyData := .tuple [.tuple [.str "int", .int (i : Int)], .tuple [.str "none"]]
def rowD (kd : Str) (ds : List PyData) : PyData := .tuple [.str kd, .tuple ds]
def spLaw (K : PySem.W.Frag) : Sp := fun vs H Q _ => ∃ (a : Addr) (ns : List Int), vs = [.ref a] ∧ SqL K H a (ns.map V.int) ∧ ns.length ≤ 63 ∧ ∀ H', Q (.bl true) H'
def hdsOf (n : Nat) : List PyData := startD [] ++ [rowD "tuple" (List.replicate n zeroD), rowD "list" (List.replicate n zeroD), rowD "dict" ((List.range n).map entD)]
def rowsOf (n : Nat) (low : Int) : List PyData := [.tuple [.str "ref", .int 17], .tuple [.str "ref", .int 18], .tuple [.str "ref", .int 19], .tuple [.str "text", .str (repS "0" n)], .tuple [.str "span", .int low, .int (low + n)]]
theorem show_okInt {n : Int} (h : n.natAbs < 2 ^ 1000) : ShowOk (okInt n) :=
  (Sm.tup (.cons (Sm.short (n := "ok") (by decide +kernel)) (.cons (Sm.tup (.cons (Sm.short (n := "int") (by decide +kernel)) (.cons (Sm.int (Nat.lt_of_lt_of_le h (Nat.pow_le_pow_right (by decide) (by decide)))) .nil))) .nil))).show (by decide) (by decide)
theorem show_big : ShowOk bigD := (Sm.tup (.cons (Sm.short (n := "raise") (by decide +kernel)) (.cons (Sm.int (by decide)) (.cons (Sm.short (n := "integer too large") (by decide +kernel)) .nil)))).show (by decide) (by decide)
theorem sm_row {kd : Str} {ds : List PyData} (hk : shortS kd = true) (h : ∀ d ∈ ds, Sm d 3 4000) (hl : ds.length ≤ 9) : Sm (rowD kd ds) 5 150000 :=
  (Sm.tup (.cons (Sm.short hk) (.cons (Sm.tup ((SmAll.many h).mem (m := 9) (M := 36000) hl (by omega))) .nil))).mono (by decide) (by decide)
theorem show_heap {n : Nat} (hn : n ≤ 9) : ShowOk (.list (hdsOf n)) := by
  have h : ∀ d ∈ hdsOf n, Sm d 5 150000 := fun d hd => by
    rcases List.mem_append.mp hd with hd | hd
    · exact sm_start (L := 0) (by simp) (by simp) d hd
    · have hz : ∀ d ∈ List.replicate n zeroD, Sm d 3 4000 := fun d hd => by
        obtain ⟨_, rfl⟩ := List.mem_replicate.mp hd
        exact (Sm.tup (.cons (Sm.short (n := "int") (by decide +kernel)) (.cons (Sm.int (by decide)) .nil))).mono (by decide) (by decide)
      have he : ∀ d ∈ (List.range n).map entD, Sm d 3 4000 := fun d hd => by
        obtain ⟨k, hk, rfl⟩ := List.mem_map.mp hd
        have hk := List.mem_range.mp hk
        exact (Sm.tup (.cons (Sm.tup (.cons (Sm.short (n := "int") (by decide +kernel)) (.cons (Sm.int (Nat.lt_of_lt_of_le (show (k : Int).natAbs < 2 ^ 20 by omega) (Nat.pow_le_pow_right (by decide) (by decide)))) .nil))) (.cons (Sm.tup (.cons (Sm.short (n := "none") (by decide +kernel)) .nil)) .nil))).mono (by decide) (by decide)
      have hd : d = rowD "tuple" (List.replicate n zeroD) ∨ d = rowD "list" (List.replicate n zeroD) ∨ d = rowD "dict" ((List.range n).map entD) := by simpa using hd
      rcases hd with rfl | rfl | rfl
      · exact sm_row (by decide +kernel) hz (by simpa using hn)
      · exact sm_row (by decide +kernel) hz (by simpa using hn)
      · exact sm_row (by decide +kernel) he (by simpa using hn)
  have hl : (hdsOf n).length = 20 := by simp [hdsOf]; decide
  exact (Sm.lst ((SmAll.many h).mem (m := 20) (M := 3000000) (by omega) (by omega))).show (by decide) (by decide)
theorem rows_ok {n : Nat} {low : Int} {i : Nat} {d : PyData} (hn : n ≤ 9) (h : (rowsOf n low)[i]? = some d) : LenIs (hdsOf n) d (okInt n) ∧ TruthIs (hdsOf n) d (decide ((0 : Int) < n)) := by
  have e0 : (startD []).length = 17 := by decide
  have r0 : (hdsOf n)[17]? = some (rowD "tuple" (List.replicate n zeroD)) := by unfold hdsOf; rw [List.getElem?_append_right (by omega), e0]; rfl
  have r1 : (hdsOf n)[18]? = some (rowD "list" (List.replicate n zeroD)) := by unfold hdsOf; rw [List.getElem?_append_right (by omega), e0]; rfl
  have r2 : (hdsOf n)[19]? = some (rowD "dict" ((List.range n).map entD)) := by unfold hdsOf; rw [List.getElem?_append_right (by omega), e0]; rfl
  have l1 : ∀ ds : List PyData, ds.length = n → (!ds.isEmpty) = decide ((0 : Int) < n) := fun ds hl => by
    cases ds with
    | nil => have : n = 0 := by simpa using hl.symm
             subst this; rfl
    | cons a b => have : 0 < n := by rw [← hl]; simp
                  simp [this]
  have sh1 : ∀ m ≤ 9, SeqAt.shaped (.tuple (List.replicate m zeroD)) = true := by decide +kernel
  have sh2 : ∀ m ≤ 9, SeqAt.shaped (.tuple ((List.range m).map entD)) = true := by decide +kernel
  have sh3 : ∀ m ≤ 9, SeqAt.shaped (.str (repS "0" (m : Nat))) = true ∧ ((repS "0" (m : Nat)) != "") = decide ((0 : Int) < (m : Nat)) ∧ (repS "0" (m : Nat)).length = m := by decide +kernel
  have t1 : ∀ ds : List PyData, ds.length = n → okInt ds.length = okInt n := fun ds hl => by rw [hl]
  match i, h with
  | 0, h =>
    obtain rfl := Option.some.inj h
    exact ⟨t1 _ (List.length_replicate ..) ▸ LenIs.row (k := 17) (.inl rfl) r0, l1 _ (List.length_replicate ..) ▸ TruthIs.row (k := 17) (.inl rfl) r0 (sh1 n hn)⟩
  | 1, h =>
    obtain rfl := Option.some.inj h
    exact ⟨t1 _ (List.length_replicate ..) ▸ LenIs.row (k := 18) (.inr (.inl rfl)) r1, l1 _ (List.length_replicate ..) ▸ TruthIs.row (k := 18) (.inr (.inl rfl)) r1 (sh1 n hn)⟩
  | 2, h =>
    obtain rfl := Option.some.inj h
    exact ⟨t1 ((List.range n).map entD) (by simp) ▸ LenIs.row (k := 19) (.inr (.inr rfl)) r2, l1 ((List.range n).map entD) (by simp) ▸ TruthIs.row (k := 19) (.inr (.inr rfl)) r2 (sh2 n hn)⟩
  | 3, h =>
    obtain rfl := Option.some.inj h
    obtain ⟨s1, s2, s3⟩ := sh3 n hn
    have e : okInt ((repS "0" n).length : Nat) = okInt n := by rw [s3]
    exact ⟨e ▸ LenIs.text _ (by rw [s3]; omega), s2 ▸ TruthIs.text _ s1⟩
  | 4, h =>
    obtain rfl := Option.some.inj h
    have e1 : (if (2 : Int) ^ 256 ≤ low + n - low then bigD else okInt (low + n - low)) = okInt n := by
      rw [if_neg (by omega)]
      congr 1
      omega
    have e2 : (low != low + (n : Int)) = decide ((0 : Int) < n) := by
      by_cases hz : n = 0
      · subst hz; simp
      · have : low ≠ low + (n : Int) := by omega
        have h2 : (0 : Int) < n := by omega
        rw [decide_eq_true h2]; exact bne_iff_ne.mpr this
    exact ⟨e1 ▸ LenIs.span low (low + n), e2 ▸ TruthIs.span low (low + n)⟩
  | i + 5, h => simp [rowsOf] at h
theorem ok_law {f : Addr} {fd : FuncData} (F : Fun K "law" "law" s_law f fd) (T : Txt K mg) (U_law_digits : Use P w K mg base CX0 "_law_digits" 2 P_law_digits (spDigits K)) (U_law_draw : Use P w K mg base CX0 "_law_draw" 1 P_law_draw (spDraw K))
    (U_law_number : Use P w K mg base CX0 "_law_number" 2 P_law_number (spNumber K)) (U_law_bound : Use P w K mg base CX0 "_law_bound" 1 P_law_bound spBound) (U_law_same : Use P w K mg base CX0 "_law_same" 1 P_law_same (spSame K))
    (U_start_heap : Use P w K mg base CX0 "start_heap" 1 P_start_heap (spStart K)) (U_length : Use P w K mg base CX0 "length" 2 P_length (spLength K)) (U_truth : Use P w K mg base CX0 "truth" 2 P_truth (spTruth K)) :
    FnG P w K mg base CX0 3 f fd P_law (spLaw K) := by
  refine okG0 F sc_law (fun vs H Q E h => ?_) fun cdv A outer s H vs Q E hr hg h => ?_
  · obtain ⟨a, ns, rfl, _⟩ := h
    rfl
  · obtain ⟨a, ns, rfl, hs, hn, k⟩ := h
    refine ⟨_, (pss_cons (ps_set (i := 1) sc_law.nd rfl (Or.inl rfl) (pe_lst (pa_cons (pe_use U_law_digits (hr.mono (by decide)) hg rfl (pa_cons (pv 0) (pa_cons pe_int (pa_cons pe_int pa_nil)))) (pa_cons pe_int pa_nil))))
  (pss_cons (ps_set (i := 2) sc_law.nd rfl (Or.inl rfl) (pe_use U_start_heap (hr.mono (by decide)) hg rfl (pa_cons (pe_tup pa_nil) pa_nil)))
  (pss_cons (ps_set (i := 3) sc_law.nd rfl (Or.inl rfl) (pe_callB call_len (by rfl) T.b_len PySem.boot_len (pa_cons (pv 2) pa_nil)))
  (pss_cons (ps_set (i := 4) sc_law.nd rfl (Or.inl rfl) (pe_op op_mul (pe_use U_law_draw (hr.mono (by decide)) hg rfl (pa_cons (pv 1) (pa_cons pe_int pa_nil))) (pe_use U_law_draw (hr.mono (by decide)) hg rfl (pa_cons (pv 1) (pa_cons pe_int pa_nil)))))
  (pss_cons (ps_set (i := 5) sc_law.nd rfl (Or.inl rfl) (pe_lst pa_nil))
  (pss_cons (ps_set (i := 6) sc_law.nd rfl (Or.inl rfl) (pe_lst pa_nil))
  (pss_cons (ps_for PassesOwn.never rfl (pi_range1 (by rfl) T.b_range (pa_cons (pv 4) pa_nil)) (pg_name (i := 7) sc_law.nd rfl (Or.inl rfl))
   (pss_cons (ps_expr (pe_bm PySem.F.plainAttrs_list PySem.F.slot_list_append PySem.F.type_list_append mt_append (pv 5) (pa_cons (pe_tup (pa_cons pe_str (pa_cons pe_int pa_nil))) pa_nil)))
  (pss_one (ps_expr (pe_bm PySem.F.plainAttrs_list PySem.F.slot_list_append PySem.F.type_list_append mt_append (pv 6) (pa_cons (pe_tup (pa_cons (pe_tup (pa_cons pe_str (pa_cons (pv 7) pa_nil))) (pa_cons (pe_tup (pa_cons pe_str pa_nil)) pa_nil))) pa_nil))))))
  (pss_cons (ps_expr (pe_bm PySem.F.plainAttrs_list PySem.F.slot_list_append PySem.F.type_list_append mt_append (pv 2) (pa_cons (pe_tup (pa_cons pe_str (pa_cons (pe_callTy call_tuple_of (by rfl) T.b_tuple (by decide +kernel) (pa_cons (pv 5) pa_nil)) pa_nil))) pa_nil)))
  (pss_cons (ps_expr (pe_bm PySem.F.plainAttrs_list PySem.F.slot_list_append PySem.F.type_list_append mt_append (pv 2) (pa_cons (pe_tup (pa_cons pe_str (pa_cons (pe_callTy call_tuple_of (by rfl) T.b_tuple (by decide +kernel) (pa_cons (pv 5) pa_nil)) pa_nil))) pa_nil)))
  (pss_cons (ps_expr (pe_bm PySem.F.plainAttrs_list PySem.F.slot_list_append PySem.F.type_list_append mt_append (pv 2) (pa_cons (pe_tup (pa_cons pe_str (pa_cons (pe_callTy call_tuple_of (by rfl) T.b_tuple (by decide +kernel) (pa_cons (pv 6) pa_nil)) pa_nil))) pa_nil)))
  (pss_cons (ps_set (i := 8) sc_law.nd rfl (Or.inl rfl) (pe_op op_fdiv (pe_use U_law_number (hr.mono (by decide)) hg rfl (pa_cons (pv 1) pa_nil)) pe_int))
  (pss_cons (ps_set (i := 9) sc_law.nd rfl (Or.inl rfl) (pe_lst (pa_cons (pe_tup (pa_cons pe_str (pa_cons (pv 3) pa_nil))) (pa_cons (pe_tup (pa_cons pe_str (pa_cons (pe_op op_add (pv 3) pe_int) pa_nil))) (pa_cons (pe_tup (pa_cons pe_str (pa_cons (pe_op op_add (pv 3) pe_int) pa_nil))) (pa_cons (pe_tup (pa_cons pe_str (pa_cons (pe_op op_rep_str pe_str (pv 4)) pa_nil))) (pa_cons (pe_tup (pa_cons pe_str (pa_cons (pv 8) (pa_cons (pe_op op_add (pv 8) (pv 4)) pa_nil)))) pa_nil)))))))
  (pss_cons (ps_set (i := 10) sc_law.nd rfl (Or.inl rfl) (pe_callB (call_repr_data hg hr.units) (by rfl) T.b_repr (by decide +kernel) (pa_cons (pv 2) pa_nil)))
  (pss_cons (ps_for PassesOwn.never rfl (pi_list (pv 9)) (pg_name (i := 11) sc_law.nd rfl (Or.inl rfl))
   (pss_one (ps_if (PW.pt (pw_or (pt_not (pt_val (pe_use U_law_same (hr.mono (by decide)) hg rfl (pa_cons (pe_use U_length (hr.mono (by decide)) hg rfl (pa_cons (pv 2) (pa_cons (pv 11) pa_nil))) (pa_cons (pe_tup (pa_cons pe_str (pa_cons (pe_tup (pa_cons pe_str (pa_cons (pv 4) pa_nil))) pa_nil))) pa_nil))))) (pw_or1 (pt_not (pt_val (pe_use U_law_same (hr.mono (by decide)) hg rfl (pa_cons (pe_use U_truth (hr.mono (by decide)) hg rfl (pa_cons (pv 2) (pa_cons (pv 11) pa_nil))) (pa_cons (pe_cmpR op_gt (pv 4) pe_int (nomark _)) pa_nil))))))))
   (pss_one (ps_ret pe_bl))
   pss_nil)))
  (pss_cons (ps_set (i := 12) sc_law.nd rfl (Or.inl rfl) (pe_op op_sub (pe_op op_sub (pe_use0 U_law_bound (hr.mono (by decide)) hg rfl) pe_int) (pe_use U_law_draw (hr.mono (by decide)) hg rfl (pa_cons (pv 1) (pa_cons pe_int pa_nil)))))
  (pss_cons (ps_set (i := 13) sc_law.nd rfl (Or.inl rfl) (pe_op op_sub (pe_use U_law_draw (hr.mono (by decide)) hg rfl (pa_cons (pv 1) (pa_cons pe_int pa_nil))) pe_int))
  (pss_cons (ps_set (i := 14) sc_law.nd rfl (Or.inl rfl) (pe_tup (pa_cons pe_str (pa_cons pe_int (pa_cons pe_str pa_nil)))))
  (C8.pss_cut (ps_if (pt_cmpR op_lt (pe_op op_add (pv 12) (pv 13)) (pe_use0 U_law_bound (hr.mono (by decide)) hg rfl) (nomark _))
   (pss_one (ps_set (i := 14) sc_law.nd rfl (Or.inl rfl) (pe_tup (pa_cons pe_str (pa_cons (pe_tup (pa_cons pe_str (pa_cons (pe_op op_add (pv 12) (pv 13)) pa_nil))) pa_nil)))))
   pss_nil)
  (pss_cons (ps_if (pt_not (pt_val (pe_use U_law_same (hr.mono (by decide)) hg rfl (pa_cons (pe_use U_length (hr.mono (by decide)) hg rfl (pa_cons (pv 2) (pa_cons (pe_tup (pa_cons pe_str (pa_cons (pe_op op_sub pe_int (pv 13)) (pa_cons (pv 12) pa_nil)))) pa_nil))) (pa_cons (pv 14) pa_nil)))))
   (pss_one (ps_ret pe_bl))
   pss_nil)
  (pss_cons (ps_set (i := 15) sc_law.nd rfl (Or.inl rfl) (pe_use U_law_number (hr.mono (by decide)) hg rfl (pa_cons (pv 1) pa_nil)))
  (pss_cons (ps_if (PW.pt (pw_or (pt_not (pt_val (pe_use U_law_same (hr.mono (by decide)) hg rfl (pa_cons (pe_use U_truth (hr.mono (by decide)) hg rfl (pa_cons (pv 2) (pa_cons (pe_tup (pa_cons pe_str (pa_cons (pv 15) pa_nil))) pa_nil))) (pa_cons (pe_cmpR op_ne (pv 15) pe_int (nomark _)) pa_nil))))) (pw_or1 (pt_cmpR op_notBl (pe_use U_truth (hr.mono (by decide)) hg rfl (pa_cons (pv 2) (pa_cons (pe_tup (pa_cons pe_str (pa_cons pe_int pa_nil))) pa_nil))) pe_bl (nomark _)))))
   (pss_one (ps_ret pe_bl))
   pss_nil)
  (pss_cons (ps_if (PW.pt (pw_or (pt_cmpR op_notBl (pe_use U_truth (hr.mono (by decide)) hg rfl (pa_cons (pv 2) (pa_cons (pe_tup (pa_cons pe_str pa_nil)) pa_nil))) pe_bl (nomark _)) (pw_or1 (pt_cmpR op_notBl (pe_use U_truth (hr.mono (by decide)) hg rfl (pa_cons (pv 2) (pa_cons (pe_tup (pa_cons pe_str (pa_cons pe_bl pa_nil))) pa_nil))) pe_bl (nomark _)))))
   (pss_one (ps_ret pe_bl))
   pss_nil)
  (pss_cons (ps_for PassesOwn.never rfl (pi_list (pe_lst (pa_cons (pe_tup (pa_cons pe_str (pa_cons pe_bl pa_nil))) (pa_cons (pe_tup (pa_cons pe_str (pa_cons pe_str pa_nil))) (pa_cons (pe_tup (pa_cons pe_str (pa_cons pe_str pa_nil))) (pa_cons (pe_tup (pa_cons pe_str (pa_cons pe_int pa_nil))) (pa_cons (pe_tup (pa_cons pe_str (pa_cons (pe_op op_add pe_int (pe_use U_law_draw (hr.mono (by decide)) hg rfl (pa_cons (pv 1) (pa_cons pe_int pa_nil)))) pa_nil))) pa_nil))))))) (pg_name (i := 16) sc_law.nd rfl (Or.inl rfl))
   (pss_one (ps_if (pt_cmpR op_notBl (pe_use U_truth (hr.mono (by decide)) hg rfl (pa_cons (pv 2) (pa_cons (pv 16) pa_nil))) pe_bl (nomark _))
   (pss_one (ps_ret pe_bl))
   pss_nil)))
  (pss_one (ps_ret (pe_cmpR op_eq (pe_callB (call_repr_data hg hr.units) (by rfl) T.b_repr (by decide +kernel) (pa_cons (pv 2) pa_nil)) (pv 10) (nomark _))))))))))))))))))))))))))), ?_⟩
    refine ⟨_, rfl, a, ns, 0, 63, rfl, hs, by decide, by decide, fun dl H1 nd D => ?_⟩
    obtain ⟨ds, hd, hl, hds, S1⟩ := D
    refine ⟨sz_2, fun p hp => ?_⟩
    have B0 : BoxAt (upd H1 p (.lst [.ref dl, .int 0])) p dl := ⟨ds, 0, upd_same, by decide, by rw [upd_ne (ne_of_none hd hp)]; exact hd, hl, hds⟩
    generalize upd H1 p (.lst [.ref dl, .int 0]) = H2 at B0
    -- heap = start_heap(())
    refine ⟨sz_0, fun t0 ht0 => ⟨t0, [], rfl, SqT.of upd_same, by decide, fun hp0 H3 nh S3 L3 => ?_⟩⟩
    have B2 := B0.same (Same.new (o := .tup []) ht0)
    have B3 := B2.same S3
    have np : hp0 ≠ p := fun e => by
      obtain ⟨xs, hx⟩ := B2.at_
      rw [← e, nh] at hx; cases hx
    have ndl : hp0 ≠ dl := fun e => by
      obtain ⟨xs, hx⟩ := B2.dg
      rw [← e, nh] at hx; cases hx
    obtain ⟨xs3, hx3, ax3⟩ := id L3
    have l17 : xs3.length = 17 := by rw [ax3.length]; decide
    clear B0 B2 S3
    -- first = len(heap); many
    refine ⟨_, rfl, _, 17, rfl, .inl ⟨_, SqL.of hx3, l17.symm⟩, ?_⟩
    refine ⟨_, rfl, p, dl, 10, rfl, B3, by decide, fun r1 H4 r10 r11 B4 K4 => ⟨_, rfl, p, dl, 2, rfl, B4, by decide, fun r2 H5 r20 r21 B5 K5 => ⟨_, _, rfl, rfl, .inl ⟨by omega, by omega⟩, ?_⟩⟩⟩
    have L5 := listAt_keep (listAt_keep L3 K4 np B3.at_) K5 np B4.at_
    have hm : 0 ≤ r1 * r2 ∧ r1 * r2 ≤ 9 := by
      rcases (show r2 = 0 ∨ r2 = 1 by omega) with rfl | rfl <;> omega
    dsimp only
    generalize r1 * r2 = mm at hm
    clear B3 B4 K4 K5 L3 hx3 ax3
    -- items, entries
    refine ⟨sz_0, fun li hli => ⟨sz_0, fun le hle => ?_⟩⟩
    have B7 := (B5.same (Same.new (o := .lst []) hli)).same (Same.new (o := .lst []) hle)
    have L7 := listAt_mono (listAt_mono L5 (Same.new (o := .lst []) hli)) (Same.new (o := .lst []) hle)
    have I7 : ListAt K (upd (upd H5 li (.lst [])) le (.lst [])) li [] := listAt_mono (listAt_made hli .nil) (Same.new hle)
    have E7 : ListAt K (upd (upd H5 li (.lst [])) le (.lst [])) le [] := listAt_made hle .nil
    have lp : li ≠ p := fun e => by obtain ⟨xs, hx⟩ := B5.at_; rw [← e, hli] at hx; cases hx
    have ldl : li ≠ dl := fun e => by obtain ⟨xs, hx⟩ := B5.dg; rw [← e, hli] at hx; cases hx
    have lh : li ≠ hp0 := fun e => by obtain ⟨xs, hx, _⟩ := L5; rw [← e, hli] at hx; cases hx
    have ep : le ≠ p := fun e => by obtain ⟨xs, hx⟩ := (B5.same (Same.new (o := .lst []) hli)).at_; rw [← e, hle] at hx; cases hx
    have edl : le ≠ dl := fun e => by obtain ⟨xs, hx⟩ := (B5.same (Same.new (o := .lst []) hli)).dg; rw [← e, hle] at hx; cases hx
    have eh : le ≠ hp0 := fun e => by obtain ⟨xs, hx, _⟩ := listAt_mono L5 (Same.new (o := .lst []) hli); rw [← e, hle] at hx; cases hx
    have el : le ≠ li := fun e => by rw [e, upd_same] at hle; cases hle
    refine ⟨_, rfl, mm, rfl, by omega, by omega, ?_⟩
    refine for_range (lo := 0) (n := mm.toNat) (fun i σ H8 => ∃ x7, σ = [some (.ref a), some (.ref p), some (.ref hp0), some (.int 17), some (.int mm), some (.ref li), some (.ref le), x7, none, none, none, none, none, none, none, none, none] ∧
      BoxAt H8 p dl ∧ ListAt K H8 hp0 (startD []) ∧ ListAt K H8 li (List.replicate i zeroD) ∧ ListAt K H8 le ((List.range i).map entD)) ⟨none, rfl, B7, L7, I7, E7⟩ ?_ ?_
    · rintro i σ H8 hi ⟨x7, rfl, B8, L8, I8, E8⟩
      obtain ⟨xi, hxi, ai⟩ := id I8
      have li8 : xi.length < sizeLine := by
        rw [ai.length, List.length_replicate]
        exact Nat.lt_of_lt_of_le (show i < 100 by omega) (by decide)
      refine ⟨_, rfl, .inl ⟨rfl, _, SqL.of hxi⟩, sz_2, fun u hu => ?_⟩
      have S := Same.new (o := .tup [.str "int", .int 0]) hu
      have du : Dt K (upd H8 u (.tup [.str "int", .int 0])) (.ref u) zeroD := Dt.made hu (.cons (.str _) (.cons (.int _) .nil))
      have hxi' := S _ _ hxi
      refine ⟨li, xi, _, rfl, rfl, hxi', li8, ?_⟩
      have B9 := (B8.same S).upd (o := .lst (xi ++ [.ref u])) lp ldl
      have L9 := listAt_upd (o := .lst (xi ++ [.ref u])) (listAt_mono L8 S) (Ne.symm lh) hxi'
      have E9 := listAt_upd (o := .lst (xi ++ [.ref u])) (listAt_mono E8 S) el hxi'
      have I9 := listAt_app (listAt_mono I8 S) hxi' du
      generalize upd (upd H8 u _) li _ = H9 at B9 L9 E9 I9
      obtain ⟨xe, hxe, ae⟩ := id E9
      have le9 : xe.length < sizeLine := by
        rw [ae.length, List.length_map, List.length_range]
        exact Nat.lt_of_lt_of_le (show i < 100 by omega) (by decide)
      refine ⟨_, rfl, .inl ⟨rfl, _, SqL.of hxe⟩, _, rfl, sz_2, fun u1 h1 => ⟨sz_1, fun u2 h2 => ⟨sz_2, fun u3 h3 => ?_⟩⟩⟩
      have S' := (Same.new (o := .tup [.str "int", .int (0 + (i : Int))]) h1).trans ((Same.new (o := .tup [.str "none"]) h2).trans (Same.new (o := .tup [.ref u1, .ref u2]) h3))
      have d3 : Dt K _ (.ref u3) (.tuple [.tuple [.str "int", .int (0 + (i : Int))], .tuple [.str "none"]]) :=
        Dt.made h3 (.cons (Dt.mono (Same.new h2) (Dt.made h1 (.cons (.str _) (.cons (.int _) .nil)))) (.cons (Dt.made h2 (.cons (.str _) .nil)) .nil))
      have hxe' := S' _ _ hxe
      refine ⟨le, xe, _, rfl, rfl, hxe', le9, ?_⟩
      refine ⟨_, rfl, (B9.same S').upd ep edl, listAt_upd (listAt_mono L9 S') (Ne.symm eh) hxe', ?_, ?_⟩
      · have := listAt_upd (o := .lst (xe ++ [.ref u3])) (listAt_mono I9 S') (Ne.symm el) hxe'
        rw [← List.replicate_succ'] at this
        exact this
      · have := listAt_app (listAt_mono E9 S') hxe' d3
        rw [List.range_succ, List.map_append]
        have e : (0 : Int) + (i : Int) = (i : Int) := Int.zero_add _
        have e2 : List.map entD [i] = [.tuple [.tuple [.str "int", .int (0 + (i : Int))], .tuple [.str "none"]]] := by rw [e]; rfl
        rw [e2]
        exact this
    rintro σ H8 ⟨x7, rfl, B8, L8, I8, E8⟩
    obtain ⟨n, rfl⟩ : ∃ n : Nat, mm = (n : Int) := ⟨mm.toNat, by omega⟩
    rw [Int.toNat_natCast] at I8 E8
    -- heap.append(("tuple", tuple(items)))
    obtain ⟨xi, hxi, ai⟩ := id I8
    obtain ⟨xh, hxh, ah⟩ := id L8
    refine ⟨_, rfl, .inl ⟨rfl, _, SqL.of hxh⟩, _, rfl, li, xi, rfl, .inl ⟨SqL.of hxi, fun t1 h1 => ⟨sz_2, fun t2 h2 => ?_⟩⟩⟩
    have S := (Same.new (o := .tup xi) h1).trans (Same.new (o := .tup [.str "tuple", .ref t1]) h2)
    have dt : Dt K _ (.ref t2) (rowD "tuple" (List.replicate n zeroD)) := Dt.made h2 (.cons (.str _) (.cons (Dt.made h1 ai) .nil))
    have hxh' := S _ _ hxh
    have lnh : xh.length < sizeLine := Nat.lt_of_le_of_lt (show xh.length ≤ 17 by rw [ah.length]; decide) (by decide)
    refine ⟨hp0, xh, _, rfl, rfl, hxh', lnh, ?_⟩
    have B9 := (B8.same S).upd (o := .lst (xh ++ [.ref t2])) np ndl
    have L9 := listAt_app (listAt_mono L8 S) hxh' dt
    have I9 := listAt_upd (o := .lst (xh ++ [.ref t2])) (listAt_mono I8 S) lh hxh'
    have E9 := listAt_upd (o := .lst (xh ++ [.ref t2])) (listAt_mono E8 S) eh hxh'
    generalize upd (upd (upd H8 t1 _) t2 _) hp0 _ = H9 at B9 L9 E9 I9
    clear B8 L8 I8 E8 hxi ai hxh ah hxh' dt S
    -- heap.append(("list", tuple(items)))
    obtain ⟨xi, hxi, ai⟩ := id I9
    obtain ⟨xh, hxh, ah⟩ := id L9
    refine ⟨_, rfl, .inl ⟨rfl, _, SqL.of hxh⟩, _, rfl, li, xi, rfl, .inl ⟨SqL.of hxi, fun t1 h1 => ⟨sz_2, fun t2 h2 => ?_⟩⟩⟩
    have S := (Same.new (o := .tup xi) h1).trans (Same.new (o := .tup [.str "list", .ref t1]) h2)
    have dt : Dt K _ (.ref t2) (rowD "list" (List.replicate n zeroD)) := Dt.made h2 (.cons (.str _) (.cons (Dt.made h1 ai) .nil))
    have hxh' := S _ _ hxh
    have lnh : xh.length < sizeLine := Nat.lt_of_le_of_lt (show xh.length ≤ 18 by rw [ah.length]; exact Nat.le_of_eq rfl) (by decide)
    refine ⟨hp0, xh, _, rfl, rfl, hxh', lnh, ?_⟩
    have B10 := (B9.same S).upd (o := .lst (xh ++ [.ref t2])) np ndl
    have L10 := listAt_app (listAt_mono L9 S) hxh' dt
    have E10 := listAt_upd (o := .lst (xh ++ [.ref t2])) (listAt_mono E9 S) eh hxh'
    generalize upd (upd (upd H9 t1 _) t2 _) hp0 _ = H10 at B10 L10 E10
    clear B9 L9 I9 E9 hxi ai hxh ah hxh' dt S
    -- heap.append(("dict", tuple(entries)))
    obtain ⟨xi, hxi, ai⟩ := id E10
    obtain ⟨xh, hxh, ah⟩ := id L10
    refine ⟨_, rfl, .inl ⟨rfl, _, SqL.of hxh⟩, _, rfl, le, xi, rfl, .inl ⟨SqL.of hxi, fun t1 h1 => ⟨sz_2, fun t2 h2 => ?_⟩⟩⟩
    have S := (Same.new (o := .tup xi) h1).trans (Same.new (o := .tup [.str "dict", .ref t1]) h2)
    have dt : Dt K _ (.ref t2) (rowD "dict" ((List.range n).map entD)) := Dt.made h2 (.cons (.str _) (.cons (Dt.made h1 ai) .nil))
    have hxh' := S _ _ hxh
    have lnh : xh.length < sizeLine := Nat.lt_of_le_of_lt (show xh.length ≤ 19 by rw [ah.length]; exact Nat.le_of_eq rfl) (by decide)
    refine ⟨hp0, xh, _, rfl, rfl, hxh', lnh, ?_⟩
    have B11 := (B10.same S).upd (o := .lst (xh ++ [.ref t2])) np ndl
    have L11 := listAt_app (listAt_mono L10 S) hxh' dt
    generalize upd (upd (upd H10 t1 _) t2 _) hp0 _ = H11 at B11 L11
    clear B10 L10 E10 hxi ai hxh ah hxh' dt S
    have eh : startD [] ++ [rowD "tuple" (List.replicate n zeroD)] ++ [rowD "list" (List.replicate n zeroD)] ++ [rowD "dict" ((List.range n).map entD)] = hdsOf n := by
      simp only [hdsOf, List.append_assoc]; rfl
    rw [eh] at L11
    -- low
    refine ⟨_, rfl, p, dl, rfl, B11, fun n0 H12 hn0 B12 K12 => ⟨_, _, rfl, rfl, ⟨by decide, by decide⟩, ?_⟩⟩
    have L12 := listAt_keep L11 K12 np B11.at_
    dsimp only
    have hlow : (n0 / 1000).natAbs < 2 ^ 260 := by omega
    generalize n0 / 1000 = low at hlow
    -- rows
    refine ⟨_, rfl, sz_2, fun u1 h1 => ⟨_, rfl, _, _, rfl, rfl, sz_2, fun u2 h2 => ⟨_, rfl, _, _, rfl, rfl, sz_2, fun u3 h3 => ⟨_, rfl, "0", (n : Int), rfl, rfl, by omega, by omega, ?_, sz_2, fun u4 h4 => ⟨_, rfl, _, rfl, _, rfl, _, _, rfl, rfl, sz_3, fun u5 h5 => ⟨sz_5, fun lr hlr => ?_⟩⟩⟩⟩⟩⟩
    · show 1 * (n : Int).toNat ≤ 1000000
      omega
    have SR := (Same.new (o := .tup [.str "ref", .int 17]) h1).trans ((Same.new (o := .tup [.str "ref", .int (17 + 1)]) h2).trans ((Same.new (o := .tup [.str "ref", .int (17 + 2)]) h3).trans ((Same.new (o := .tup [.str "text", .str (repS "0" n)]) h4).trans
      ((Same.new (o := .tup [.str "span", .int low, .int (low + n)]) h5).trans (Same.new (o := .lst [.ref u1, .ref u2, .ref u3, .ref u4, .ref u5]) hlr)))))
    have d1 : Dt K _ (.ref u1) (.tuple [.str "ref", .int 17]) := Dt.made h1 (.cons (.str _) (.cons (.int _) .nil))
    have d2 : Dt K _ (.ref u2) (.tuple [.str "ref", .int 18]) := Dt.made h2 (.cons (.str _) (.cons (.int _) .nil))
    have d3 : Dt K _ (.ref u3) (.tuple [.str "ref", .int 19]) := Dt.made h3 (.cons (.str _) (.cons (.int _) .nil))
    have d4 : Dt K _ (.ref u4) (.tuple [.str "text", .str (repS "0" n)]) := Dt.made h4 (.cons (.str _) (.cons (.str _) .nil))
    have d5 : Dt K _ (.ref u5) (.tuple [.str "span", .int low, .int (low + n)]) := Dt.made h5 (.cons (.str _) (.cons (.int _) (.cons (.int _) .nil)))
    have dr : DtAll K _ [.ref u1, .ref u2, .ref u3, .ref u4, .ref u5] (rowsOf n low) :=
      DtAll.mono (Same.new (o := .lst [.ref u1, .ref u2, .ref u3, .ref u4, .ref u5]) hlr)
        (.cons (Dt.mono (Same.new h5) (Dt.mono (Same.new h4) (Dt.mono (Same.new h3) (Dt.mono (Same.new h2) d1)))) (.cons (Dt.mono (Same.new h5) (Dt.mono (Same.new h4) (Dt.mono (Same.new h3) d2)))
          (.cons (Dt.mono (Same.new h5) (Dt.mono (Same.new h4) d3)) (.cons (Dt.mono (Same.new h5) d4) (.cons d5 .nil)))))
    have hlr' := upd_same (H := upd (upd (upd (upd (upd H12 u1 (.tup [.str "ref", .int 17])) u2 (.tup [.str "ref", .int (17 + 1)])) u3 (.tup [.str "ref", .int (17 + 2)])) u4 (.tup [.str "text", .str (repS "0" n)])) u5 (.tup [.str "span", .int low, .int (low + n)])) (a := lr) (o := HO.lst [.ref u1, .ref u2, .ref u3, .ref u4, .ref u5])
    have B13 := B12.same SR
    have L13 := listAt_mono L12 SR
    generalize upd (upd (upd (upd (upd (upd H12 u1 _) u2 _) u3 _) u4 _) u5 _) lr _ = H13 at dr hlr' B13 L13
    clear d1 d2 d3 d4 d5 SR L12 B12
    have hn9 : n ≤ 9 := by omega
    have shw := show_heap hn9
    -- kept = repr(heap)
    obtain ⟨xh, hxh, ah⟩ := id L13
    refine ⟨_, rfl, .ref hp0, .list (hdsOf n), rfl, .lst (SqL.of hxh) ah.dp, shw, ?_⟩
    -- for row in rows
    refine ⟨_, rfl, lr, rfl, ⟨_, SqL.of hlr'⟩, ?_⟩
    refine for_list (xs := [.ref u1, .ref u2, .ref u3, .ref u4, .ref u5]) (fun i σ H14 => ∃ x11, σ = [some (.ref a), some (.ref p), some (.ref hp0), some (.int 17), some (.int n), some (.ref li), some (.ref le), x7, some (.int low), some (.ref lr), some (.str (PyData.list (hdsOf n)).shown), x11, none, none, none, none, none] ∧ Same H13 H14)
      ⟨none, rfl, Same.refl _⟩ ?_ ?_ ?_
    · rintro i σ H14 hi ⟨x11, rfl, S14⟩
      exact SqL.of (S14 _ _ hlr')
    · rintro i v σ H14 hv ⟨x11, rfl, S14⟩
      obtain ⟨d, hd, dv⟩ := dr.getV hv
      obtain ⟨hlen, htr⟩ := rows_ok hn9 hd
      have L14 := listAt_mono L13 S14
      refine ⟨_, rfl, _, rfl, hp0, hdsOf n, v, d, _, rfl, L14, Dt.mono S14 dv, hlen, fun r H15 S15 dr15 => ?_⟩
      refine ⟨_, rfl, sz_2, fun a1 ha1 => ⟨sz_2, fun a2 ha2 => ?_⟩⟩
      have S16 := (Same.new (o := .tup [.str "int", .int n]) ha1).trans (Same.new (o := .tup [.str "ok", .ref a1]) ha2)
      have d2 : Dt K _ (.ref a2) (okInt n) := Dt.made ha2 (.cons (.str "ok") (.cons (Dt.made ha1 (.cons (.str "int") (.cons (.int n) .nil))) .nil))
      refine ⟨r, .ref a2, okInt n, rfl, (Dt.mono S16 dr15).dp, d2.dp, show_okInt (by omega), true, rfl, iteFb rfl ?_⟩
      have S17 := S14.trans (S15.trans S16)
      generalize upd (upd H15 a1 _) a2 _ = H17 at S17
      refine ⟨_, rfl, _, rfl, hp0, hdsOf n, v, d, _, rfl, listAt_mono L13 S17, Dt.mono S17 dv, htr, fun H18 S18 => ?_⟩
      refine ⟨_, rfl, _, _, rfl, rfl, .bl _, .bl _, .bool _, rfl, .bl _, .bl _, (Sm.bool _).show (by decide) (by decide), true, rfl, iteFb rfl ⟨_, rfl, S17.trans S18⟩⟩
    rintro σ H14 ⟨x11, rfl, S14⟩
    have B14 := B13.same S14
    have L14 := listAt_mono L13 S14
    clear L13 B13 dr hlr' S14 hxh ah
    -- far, near
    refine ⟨rfl, _, _, rfl, rfl, _, rfl, p, dl, 3, rfl, B14, by decide, fun f0 H15 f00 f01 B15 K15 => ⟨_, _, rfl, rfl, ?_⟩⟩
    have L15 := listAt_keep L14 K15 np B14.at_
    refine ⟨_, rfl, p, dl, 3, rfl, B15, by decide, fun e0 H16 e00 e01 B16 K16 => ⟨_, _, rfl, rfl, ?_⟩⟩
    have L16 := listAt_keep L15 K16 np B15.at_
    dsimp only
    have hfar : (2 ^ 256 - 1 - f0).natAbs < 2 ^ 300 := by omega
    have hnear : (e0 - 1).natAbs < 2 ^ 20 := by omega
    generalize 2 ^ 256 - 1 - f0 = far at hfar
    generalize e0 - 1 = near at hnear
    clear L14 B14 L15 B15 K15 K16
    -- due
    refine ⟨sz_3, fun ud hud => ?_⟩
    have Bd := B16.same (Same.new (o := .tup [.str "raise", .int 4, .str "integer too large"]) hud)
    have Ld := listAt_mono L16 (Same.new (o := .tup [.str "raise", .int 4, .str "integer too large"]) hud)
    have Dd : Dt K (upd H16 ud (.tup [.str "raise", .int 4, .str "integer too large"])) (.ref ud) bigD := Dt.made hud (.cons (.str _) (.cons (.int _) (.cons (.str _) .nil)))
    generalize upd H16 ud _ = Hd at Bd Ld Dd
    refine ⟨fun σ H18 => ∃ vd, σ = [some (.ref a), some (.ref p), some (.ref hp0), some (.int 17), some (.int n), some (.ref li), some (.ref le), x7, some (.int low), some (.ref lr), some (.str (PyData.list (hdsOf n)).shown), x11, some (.int far), some (.int near), some vd, none, none] ∧
      BoxAt H18 p dl ∧ ListAt K H18 hp0 (hdsOf n) ∧ Dt K H18 vd (if 2 ^ 256 ≤ far - (0 - near) then bigD else okInt (far - (0 - near))), ?_, ?_⟩
    · refine ⟨_, rfl, _, rfl, _, _, rfl, rfl, rfl, _, _, rfl, rfl, _, rfl, ?_⟩
      refine ite3 (fun c => ?_) fun c => ?_
      · have c := of_decide_eq_true c
        refine ⟨_, rfl, _, rfl, _, _, rfl, rfl, sz_2, fun a1 ha1 => ⟨sz_2, fun a2 ha2 => ?_⟩⟩
        have S := (Same.new (o := .tup [.str "int", .int (far + near)]) ha1).trans (Same.new (o := .tup [.str "ok", .ref a1]) ha2)
        refine ⟨_, rfl, Bd.same S, listAt_mono Ld S, ?_⟩
        rw [if_neg (by omega), show far - (0 - near) = far + near by omega]
        exact Dt.made ha2 (.cons (.str "ok") (.cons (Dt.made ha1 (.cons (.str "int") (.cons (.int _) .nil))) .nil))
      · have c := of_decide_eq_false c
        refine ⟨_, rfl, Bd, Ld, ?_⟩
        rw [if_pos (by omega)]
        exact Dd
    rintro _ H18 ⟨vd, rfl, B18, L18, D18⟩
    clear Bd Ld Dd B16 L16
    refine ⟨_, rfl, _, rfl, _, _, rfl, rfl, _, rfl, sz_3, fun us hus => ⟨hp0, hdsOf n, .ref us, _, _, rfl, listAt_mono L18 (Same.new hus), Dt.made hus (.cons (.str "span") (.cons (.int (0 - near)) (.cons (.int far) .nil))), .span (0 - near) far, fun r H19 S19 dr => ?_⟩⟩
    have S20 := (Same.new (o := .tup [.str "span", .int (0 - near), .int far]) hus).trans S19
    refine ⟨_, rfl, r, vd, _, rfl, dr.dp, (Dt.mono S20 D18).dp, ?_, true, rfl, iteFb rfl ?_⟩
    · split
      · exact show_big
      · exact show_okInt (by omega)
    have B20 := B18.same S20
    have L20 := listAt_mono L18 S20
    clear B18 L18 D18 S20 S19 dr
    -- number
    refine ⟨_, rfl, p, dl, rfl, B20, fun num H21 hnum B21 K21 => ?_⟩
    have L21 := listAt_keep L20 K21 np B20.at_
    refine ⟨_, rfl, _, rfl, sz_2, fun a1 ha1 => ⟨hp0, hdsOf n, .ref a1, _, _, rfl, listAt_mono L21 (Same.new ha1), Dt.made ha1 (.cons (.str "int") (.cons (.int num) .nil)), .int num, fun H22 S22 => ?_⟩⟩
    have en : (!decide (V.int num = V.int 0)) = (num != 0) := by rw [dec_int]; rfl
    have S23 := (Same.new (o := .tup [.str "int", .int num]) ha1).trans S22
    refine ⟨_, rfl, rfl, .bl _, .bl _, .bool (num != 0), rfl, .bl _, en ▸ .bl _, (Sm.bool _).show (by decide) (by decide), true, rfl, iteFb rfl ?_⟩
    refine ⟨_, rfl, sz_2, fun a2 ha2 => ⟨hp0, hdsOf n, .ref a2, _, false, rfl, listAt_mono (listAt_mono L21 S23) (Same.new ha2), Dt.made ha2 (.cons (.str "int") (.cons (.int 0) .nil)), (.int 0), fun H24 S24' => ⟨_, _, rfl, rfl, _, rfl, iteFb (by decide) ?_⟩⟩⟩
    have S24 := S23.trans ((Same.new ha2).trans S24')
    refine ⟨_, rfl, sz_1, fun a3 ha3 => ⟨hp0, hdsOf n, .ref a3, _, false, rfl, listAt_mono (listAt_mono L21 S24) (Same.new ha3), Dt.made ha3 (.cons (.str "none") .nil), .none, fun H25 S25' => ⟨_, _, rfl, rfl, _, rfl, iteFb (by decide) ?_⟩⟩⟩
    have S25 := S24.trans ((Same.new ha3).trans S25')
    refine ⟨_, rfl, sz_2, fun a4 ha4 => ⟨hp0, hdsOf n, .ref a4, _, false, rfl, listAt_mono (listAt_mono L21 S25) (Same.new ha4), Dt.made ha4 (.cons (.str "bool") (.cons (.bl false) .nil)), (.bool false), fun H26 S26' => ⟨_, _, rfl, rfl, _, rfl, iteFb (by decide) ?_⟩⟩⟩
    have S26 := S25.trans ((Same.new ha4).trans S26')
    -- for value in [..]
    have B26 := B21.same S26
    have L26 := listAt_mono L21 S26
    refine ⟨sz_2, fun v1 h1 => ⟨sz_2, fun v2 h2 => ⟨sz_2, fun v3 h3 => ⟨sz_2, fun v4 h4 => ?_⟩⟩⟩⟩
    have SV := (Same.new (o := .tup [.str "bool", .bl true]) h1).trans ((Same.new (o := .tup [.str "built", .str "len"]) h2).trans ((Same.new (o := .tup [.str "host", .str "ask"]) h3).trans (Same.new (o := .tup [.str "ref", .int 0]) h4)))
    have e1 : Dt K _ (.ref v1) (.tuple [.str "bool", .bool true]) := Dt.made h1 (.cons (.str _) (.cons (.bl _) .nil))
    have e2 : Dt K _ (.ref v2) (.tuple [.str "built", .str "len"]) := Dt.made h2 (.cons (.str _) (.cons (.str _) .nil))
    have e3 : Dt K _ (.ref v3) (.tuple [.str "host", .str "ask"]) := Dt.made h3 (.cons (.str _) (.cons (.str _) .nil))
    have e4 : Dt K _ (.ref v4) (.tuple [.str "ref", .int 0]) := Dt.made h4 (.cons (.str _) (.cons (.int _) .nil))
    have dv : DtAll K _ [.ref v1, .ref v2, .ref v3, .ref v4] [.tuple [.str "bool", .bool true], .tuple [.str "built", .str "len"], .tuple [.str "host", .str "ask"], .tuple [.str "ref", .int 0]] :=
      .cons (Dt.mono (Same.new h4) (Dt.mono (Same.new h3) (Dt.mono (Same.new h2) e1))) (.cons (Dt.mono (Same.new h4) (Dt.mono (Same.new h3) e2)) (.cons (Dt.mono (Same.new h4) e3) (.cons e4 .nil)))
    have B27 := B26.same SV
    have L27 := listAt_mono L26 SV
    generalize upd (upd (upd (upd H26 v1 _) v2 _) v3 _) v4 _ = H27 at dv B27 L27
    refine ⟨_, rfl, p, dl, 16, rfl, B27, by decide, fun kk H28 k0 k1 B28 K28 => ⟨_, _, rfl, rfl, sz_2, fun v5 h5 => ⟨sz_5, fun lv hlv => ?_⟩⟩⟩
    have L28 := listAt_keep L27 K28 np B27.at_
    have dv28 := DtAll.keepT (Keep.keepT K28 B27.at_) dv
    have e5 : Dt K (upd H28 v5 (.tup [.str "ref", .int (1 + kk)])) (.ref v5) (.tuple [.str "ref", .int (1 + kk)]) := Dt.made h5 (.cons (.str _) (.cons (.int _) .nil))
    have dv5 : DtAll K _ [.ref v1, .ref v2, .ref v3, .ref v4, .ref v5] [.tuple [.str "bool", .bool true], .tuple [.str "built", .str "len"], .tuple [.str "host", .str "ask"], .tuple [.str "ref", .int 0], .tuple [.str "ref", .int (1 + kk)]] :=
      DtAll.mono (Same.new (o := .lst [.ref v1, .ref v2, .ref v3, .ref v4, .ref v5]) hlv) (DtAll.app (DtAll.mono (Same.new h5) dv28) (.cons e5 .nil))
    have hlv' := upd_same (H := upd H28 v5 (.tup [.str "ref", .int (1 + kk)])) (a := lv) (o := HO.lst [.ref v1, .ref v2, .ref v3, .ref v4, .ref v5])
    have L29 := listAt_mono (listAt_mono L28 (Same.new (o := .tup [.str "ref", .int (1 + kk)]) h5)) (Same.new (o := .lst [.ref v1, .ref v2, .ref v3, .ref v4, .ref v5]) hlv)
    generalize upd (upd H28 v5 _) lv _ = H29 at dv5 hlv' L29
    have tr : ∀ (i : Nat) (d : PyData), ([.tuple [.str "bool", .bool true], .tuple [.str "built", .str "len"], .tuple [.str "host", .str "ask"], .tuple [.str "ref", .int 0], .tuple [.str "ref", .int (1 + kk)]] : List PyData)[i]? = some d → TruthIs (hdsOf n) d true := by
      intro i d hd
      match i, hd with
      | 0, hd => obtain rfl := Option.some.inj hd; exact .bool true
      | 1, hd => obtain rfl := Option.some.inj hd; exact .built _
      | 2, hd => obtain rfl := Option.some.inj hd; exact .host _
      | 3, hd => obtain rfl := Option.some.inj hd; exact TruthIs.obj (k := 0) (.inl rfl) rfl
      | 4, hd =>
        obtain rfl := Option.some.inj hd
        obtain ⟨j, hj⟩ : ∃ j : Nat, 1 + kk = (j : Int) := ⟨(1 + kk).toNat, by omega⟩
        obtain ⟨rest, hrest⟩ := start_cls (hs := []) (k := j) (by omega) (by omega)
        rw [hj]
        refine TruthIs.obj (k := j) (.inr rfl) (rest := rest) ?_
        unfold hdsOf
        rw [List.getElem?_append_left (by have : (startD []).length = 17 := by decide
                                          omega)]
        exact hrest
      | i + 5, hd => simp at hd
    refine ⟨lv, rfl, ⟨_, SqL.of hlv'⟩, ?_⟩
    refine for_list (xs := [.ref v1, .ref v2, .ref v3, .ref v4, .ref v5]) (fun i σ H30 => ∃ x16, σ = [some (.ref a), some (.ref p), some (.ref hp0), some (.int 17), some (.int n), some (.ref li), some (.ref le), x7, some (.int low), some (.ref lr), some (.str (PyData.list (hdsOf n)).shown), x11, some (.int far), some (.int near), some vd, some (.int num), x16] ∧ Same H29 H30)
      ⟨none, rfl, Same.refl _⟩ ?_ ?_ ?_
    · rintro i σ H30 hi ⟨x16, rfl, S30⟩
      exact SqL.of (S30 _ _ hlv')
    · rintro i v σ H30 hv ⟨x16, rfl, S30⟩
      obtain ⟨d, hd, dvi⟩ := dv5.getV hv
      refine ⟨_, rfl, _, rfl, hp0, hdsOf n, v, d, true, rfl, listAt_mono L29 S30, Dt.mono S30 dvi, tr i d hd, fun H31 S31 => ⟨_, _, rfl, rfl, _, rfl, iteFb (by decide) ⟨_, rfl, S30.trans S31⟩⟩⟩
    rintro σ H30 ⟨x16, rfl, S30⟩
    obtain ⟨xh, hxh, ah⟩ := listAt_mono L29 S30
    refine ⟨_, rfl, .ref hp0, .list (hdsOf n), rfl, .lst (SqL.of hxh) ah.dp, shw, _, rfl, rfl, ?_⟩
    rw [decide_eq_true rfl]
    exact k H30
end
theorem walk_mk {l : PySem.W.OpenLaw} {w : World} {K : PySem.W.Frag} {h : Heap} {mg : Str → Option Value} {fa : Addr} (X : K.In h) (G : h.Ns mainGlobals mg) (hfa : mg "law" = some (.ref fa))
    (f0 : HasFn K "_law_cell" s_law_cell)
    (f1 : HasFn K "_law_digits" s_law_digits)
    (f2 : HasFn K "_law_draw" s_law_draw)
    (f3 : HasFn K "_law_bound" s_law_bound)
    (f4 : HasFn K "_law_number" s_law_number)
    (f5 : HasFn K "_law_same" s_law_same)
    (f6 : HasFn K "start_heap" s_start_heap)
    (f7 : HasFn K "object_kind" s_object_kind)
    (f8 : HasFn K "length" s_length)
    (f9 : HasFn K "is_number" s_is_number)
    (f10 : HasFn K "truth" s_truth)
    (f11 : HasFn K "law" s_law)
    (c0 : HasInt K "INTEGER_END" (2 ^ 256))
    (c1 : HasTup K "INTEGER_TOO_LARGE" [.str "raise", .int 4, .str "integer too large"])
    (c2 : HasTup K "CLASSES" (clsNames.map V.str))
    (c3 : HasTup K "BASES" (clsBases.map V.int))
    (c4 : HasTup K "BUILT" (builtNames.map V.str))
    (b_len : PySem.W.nsIn K mainGlobals "len" = some none)
    (b_int : PySem.W.nsIn K mainGlobals "int" = some none)
    (b_repr : PySem.W.nsIn K mainGlobals "repr" = some none)
    (b_range : PySem.W.nsIn K mainGlobals "range" = some none)
    (b_enumerate : PySem.W.nsIn K mainGlobals "enumerate" = some none)
    (b_zip : PySem.W.nsIn K mainGlobals "zip" = some none)
    (b_tuple : PySem.W.nsIn K mainGlobals "tuple" = some none) :
    ∃ fd : FuncData, (∀ (s : Shared) (v : Value), BindsTo s fd ⟨[v], []⟩ [("script", v)]) ∧ ∀ base : Heap, K.In base → base.Ns mainGlobals mg → FnG l.prog w K mg base CX0 3 fa fd ["script"] (spLaw K) := by
  have T : Txt K mg := ⟨c0.g X G, c1.g X G, c2.g X G, c3.g X G, c4.g X G, PySem.W.mg_none_of X G b_len, PySem.W.mg_none_of X G b_int, PySem.W.mg_none_of X G b_repr, PySem.W.mg_none_of X G b_range, PySem.W.mg_none_of X G b_enumerate, PySem.W.mg_none_of X G b_zip, PySem.W.mg_none_of X G b_tuple⟩
  refine law_use f11 X G hfa (fun _ _ _ _ _ _ _ => rfl) fun base X' G' fd F => ?_
  have U_law_cell := mk_use (P := l.prog) (w := w) (mg := mg) (base := base) f0 X G (fun _ _ _ _ _ _ us hl => match us, hl with | [_, _], _ => rfl) fun f fd F => ok_cell F T 
  have U_law_digits := mk_use (P := l.prog) (w := w) (mg := mg) (base := base) f1 X G (fun _ _ _ _ _ _ us hl => match us, hl with | [_, _, _], _ => rfl) fun f fd F => ok_digits F T U_law_cell
  have U_law_draw := mk_use (P := l.prog) (w := w) (mg := mg) (base := base) f2 X G (fun _ _ _ _ _ _ us hl => match us, hl with | [_, _], _ => rfl) fun f fd F => ok_draw F T 
  have U_law_bound := mk_use (P := l.prog) (w := w) (mg := mg) (base := base) f3 X G (fun _ _ _ _ _ _ us hl => match us, hl with | [], _ => rfl) fun f fd F => ok_bound F T 
  have U_law_number := mk_use (P := l.prog) (w := w) (mg := mg) (base := base) f4 X G (fun _ _ _ _ _ _ us hl => match us, hl with | [_], _ => rfl) fun f fd F => ok_number F T U_law_draw U_law_bound
  have U_law_same := mk_use (P := l.prog) (w := w) (mg := mg) (base := base) f5 X G (fun _ _ _ _ _ _ us hl => match us, hl with | [_, _], _ => rfl) fun f fd F => ok_same F T 
  have U_start_heap := mk_use (P := l.prog) (w := w) (mg := mg) (base := base) f6 X G (fun _ _ _ _ _ _ us hl => match us, hl with | [_], _ => rfl) fun f fd F => ok_start F T 
  have U_object_kind := mk_use (P := l.prog) (w := w) (mg := mg) (base := base) f7 X G (fun _ _ _ _ _ _ us hl => match us, hl with | [_, _], _ => rfl) fun f fd F => ok_kind F T 
  have U_length := mk_use (P := l.prog) (w := w) (mg := mg) (base := base) f8 X G (fun _ _ _ _ _ _ us hl => match us, hl with | [_, _], _ => rfl) fun f fd F => ok_length F T U_object_kind
  have U_is_number := mk_use (P := l.prog) (w := w) (mg := mg) (base := base) f9 X G (fun _ _ _ _ _ _ us hl => match us, hl with | [_], _ => rfl) fun f fd F => ok_isnum F T 
  have U_truth := mk_use (P := l.prog) (w := w) (mg := mg) (base := base) f10 X G (fun _ _ _ _ _ _ us hl => match us, hl with | [_, _], _ => rfl) fun f fd F => ok_truth F T U_is_number U_object_kind
  exact ok_law F T U_law_digits U_law_draw U_law_number U_law_bound U_law_same U_start_heap U_length U_truth
end K27
open PySem PySem.W PyProof.Rows
set_option maxRecDepth 100000 in
set_option maxHeartbeats 0 in
theorem PySem.Challenge.cw_pyhold_k27_lengths_and_truth_holds : PySem.Challenge.rw_pyhold_k27_lengths_and_truth.Holds := by
  w_on; o_law; k_head; (case hw => w_witness2)
  k_fill
  refine LK.walkG (l := PySem.Challenge.rw_pyhold_k27_lengths_and_truth) (n := 63) (k := 3) (x := "script") (CX := L2.CX0) (sp := K27.spLaw) rfl (by decide) rfl ⟨rfl, by decide, by decide⟩ (fun w h Y => PySem.W.kIn_of Y) ?F (fun K H a ns hl _ hS => ⟨a, ns, rfl, hS, hl, fun _ => rfl⟩) (fun _ _ _ _ z => z)
  case F =>
    intro w mg fa h KX G hmg
    refine' K27.walk_mk KX G hmg ?f0 ?f1 ?f2 ?f3 ?f4 ?f5 ?f6 ?f7 ?f8 ?f9 ?f10 ?f11 ?c0 ?c1 ?c2 ?c3 ?c4 ?b_len ?b_int ?b_repr ?b_range ?b_enumerate ?b_zip ?b_tuple
    case f0 => refine' LK.HasFn.mk' ?a ?b ?c ?d; (case a => k_is); (case b => k_is); (case c => k_is); (case d => k_is)
    case f1 => refine' LK.HasFn.mk' ?a ?b ?c ?d; (case a => k_is); (case b => k_is); (case c => k_is); (case d => k_is)
    case f2 => refine' LK.HasFn.mk' ?a ?b ?c ?d; (case a => k_is); (case b => k_is); (case c => k_is); (case d => k_is)
    case f3 => refine' LK.HasFn.mk' ?a ?b ?c ?d; (case a => k_is); (case b => k_is); (case c => k_is); (case d => k_is)
    case f4 => refine' LK.HasFn.mk' ?a ?b ?c ?d; (case a => k_is); (case b => k_is); (case c => k_is); (case d => k_is)
    case f5 => refine' LK.HasFn.mk' ?a ?b ?c ?d; (case a => k_is); (case b => k_is); (case c => k_is); (case d => k_is)
    case f6 => refine' LK.HasFn.mk' ?a ?b ?c ?d; (case a => k_is); (case b => k_is); (case c => k_is); (case d => k_is)
    case f7 => refine' LK.HasFn.mk' ?a ?b ?c ?d; (case a => k_is); (case b => k_is); (case c => k_is); (case d => k_is)
    case f8 => refine' LK.HasFn.mk' ?a ?b ?c ?d; (case a => k_is); (case b => k_is); (case c => k_is); (case d => k_is)
    case f9 => refine' LK.HasFn.mk' ?a ?b ?c ?d; (case a => k_is); (case b => k_is); (case c => k_is); (case d => k_is)
    case f10 => refine' LK.HasFn.mk' ?a ?b ?c ?d; (case a => k_is); (case b => k_is); (case c => k_is); (case d => k_is)
    case f11 => refine' LK.HasFn.mk' ?a ?b ?c ?d; (case a => k_is); (case b => k_is); (case c => k_is); (case d => k_is)
    case c0 => refine' LK.HasInt.mk' ?a ?b; (case a => k_is); (case b => decide +kernel)
    case c1 => refine' LK.HasTup.mk' ?a ?b ?c ?d; (case a => k_is); (case b => k_is); (case c => decide); (case d => repeat (first | exact .nil | refine .cons ⟨_, rfl⟩ ?_))
    case c2 => refine' LK.HasTup.mk' ?a ?b ?c ?d; (case a => k_is); (case b => k_is); (case c => decide); (case d => repeat (first | exact .nil | refine .cons ⟨_, rfl⟩ ?_))
    case c3 => refine' LK.HasTup.mk' ?a ?b ?c ?d; (case a => k_is); (case b => k_is); (case c => decide); (case d => repeat (first | exact .nil | refine .cons ⟨_, rfl⟩ ?_))
    case c4 => refine' LK.HasTup.mk' ?a ?b ?c ?d; (case a => k_is); (case b => k_is); (case c => decide); (case d => repeat (first | exact .nil | refine .cons ⟨_, rfl⟩ ?_))
    case b_len => k_is
    case b_int => k_is
    case b_repr => k_is
    case b_range => k_is
    case b_enumerate => k_is
    case b_zip => k_is
    case b_tuple => k_is


