import PyProof.Rows.All
import Wide.All
import OpenK.AllK
import Wide.FinOn
import HandS.Base
import HandS.Call
import HandS.List
import HandS.Comp
import HandS.Ends
import HandS.Dict
import HandS.Iter
import HandS.EndBits
import HandS.Words
import HandS.WordsList
import HandS.WordsDict
import HandS.Text
import HandS.Wide
import HandS.WideBits
import HandS.Conv
import HandS.TupLe
import HandS.IsInst
import HandS.ExcIs
import HandS.ExcValue
import HandS.TupSets
import HandS.Zip
import HandS.Walk
import HandS.TupAny
import PyProof.ReprRoads
import PyProof.ReprBulk
import PySem.Challenge.RW_anywide_k06_refusals_made
set_option Elab.async false
set_option linter.all false
set_option maxRecDepth 100000
namespace AW
open PySem PySem.Spec PyProof.Rows L2

/-! ### a def's call at one around -/
theorem fn_at {P : Program} {w : World} {K : PySem.W.Frag} {mg : Str → Option Value} {base : Heap} {k : Nat} {f : Addr} {x qual : Str} {st : Stmt} {fd : FuncData} {N ps : List Str}
    (F : Fun K x qual st f fd) (S : FnScope N ps (defScope st)) {A : Around} {outer : List Env} {s : Shared} {H : Hp} {args : Args} {us : List Value} {vs : List V} {Q : VK} {E : XK}
    (hr : Room (k + 1) A) (e0 : Env0 P w K mg base A outer s H) (hb : BindsTo s fd args (ps.zip us)) (r : Vals vs us) (hl : vs.length = ps.length)
    (hbody : ∀ cdv : Value, ∃ t, PSs (cxOf CX0 P w K mg base N qual (defScope st) f cdv A outer s H E).nox (defBody st) t ∧ t { nx := fun _ H' => Q .non H', rt := Q } (start N vs) H) :
    codeAny (model P w) A (.call (.ref f) args) (CR CX0 outer P w H s Q E) s := by
  obtain ⟨oc, od, kV, doc, pm, an, cdv, ct, osl, rfl, lk, hcd⟩ := F.ex
  have keep0 : ∀ b o, base.get? b = some o → s.heap.get? b = some o := fun b o e => (e0.bs b o e).1
  have KX := e0.mod.kin.keeps keep0
  refine codeAny_call_function (Room.depth hr) (KX _ _ lk) rfl S.co S.gen rfl (PySem.W.codeRec_of KX hcd) (hb _ _ _ _ ?_)
  have kinds : ∀ y ∈ ps.zip us, (defScope st).names.lookup y.1 = some .local ∨ ((defScope st).names.lookup y.1 = some .cell ∧ ((cellsFrom (s.heap.objs.size + 1) (defScope st).names []).lookup y.1).isSome = true) := by
    intro y hy
    obtain ⟨n, v⟩ := y
    exact (S.par n (List.of_mem_zip hy).1).elim Or.inl fun q => Or.inr ⟨q, PySem.W.cellsFrom_some _ _ _ (.inl q)⟩
  refine wpAny_newFunctionEnv_cells S.kind kinds ?_
  rintro env rfl s1 ic
  obtain ⟨t, ht, hq⟩ := hbody cdv
  refine ⟨(e0.mod.nolimit.keeps keep0).keeps ic.toInCall.keep, codeAny_func (wpAny_mono (ht.nox.run [] s1 (start N vs) H _ (inv_start S hr.hd e0 hl r ic) hq) ?_ (fun _ _ z => z))⟩
  intro fl s' hs
  cases fl with
  | ret u =>
    obtain ⟨v, σ', H', J, rv, q⟩ := hs
    exact ⟨v, H', J.os, J.bare, J.base, J.hok, rv, q⟩
  | next =>
    obtain ⟨σ', H', J, q⟩ := hs
    exact ⟨V.non, H', J.os, J.bare, J.base, J.hok, rfl, q⟩
  | brk => exact hs.elim fun _ z => z.elim fun _ z => z.2.elim
  | cont => exact hs.elim fun _ z => z.elim fun _ z => z.2.elim

/-! ### the law's own call -/
theorem env_at {P : Program} {w : World} {K : PySem.W.Frag} {mg mb : Str → Option Value} {a : Addr} {s1 : Shared} {vs : List Value} {H : Hp}
    (KX : K.In s1.heap) (hns : s1.heap.Ns mainGlobals mg) (hb : s1.heap.Ns builtinsNs mb) (hbb : ∀ x : Str, x ≠ "__name__" → mb x = bootBuiltins x) (hlim : s1.heap.NoLimit) (hg : s1.gens = #[])
    (ha : s1.heap.get? a = some { cls := .type "list", data := .seq vs.toArray }) (one : ∀ b u, H b = some u → b = a) (out : ∀ o, K.lookup a = some o → H a = none) (ok : HOk P w H s1.heap) :
    Env0 P w K mg (hidT s1.heap H) callerA [] s1 H := by
  have dicts : ∀ {b : Addr} {m : Str → Option Value}, s1.heap.Ns b m → (hidT s1.heap H).Ns b m := by
    rintro b m ⟨o, es, ep, e, d, r⟩
    refine ⟨o, es, ep, hidT_get e ?_, d, r⟩
    match q : H b with
    | none => rfl
    | some u =>
      obtain rfl := one b u q
      have e2 := Option.some.inj (e.symm.trans ha)
      rw [e2] at d
      cases d
  have kin : K.In (hidT s1.heap H) := by
    intro b o e
    refine hidT_get (KX b o e) ?_
    match q : H b with
    | none => rfl
    | some u =>
      obtain rfl := one b u q
      exact q.symm.trans (out o e)
  obtain ⟨mc, l1, l2⟩ := hlim
  exact ⟨rfl, ⟨kin, dicts hns, ⟨mb, dicts hb, hbb⟩, ⟨mc, dicts l1, l2⟩⟩, fun b o e => of_hidT e, Nat.le_of_eq (hidT_size _ _), trivial, (fun b z => nomatch z), ok, .of_eq hg⟩

theorem law_end {P : Program} {w : World} {K : PySem.W.Frag} {mg mb : Str → Option Value} {fa a : Addr} {s1 : Shared} {vs : List Value} {ns : List Int}
    (KX : K.In s1.heap) (hns : s1.heap.Ns mainGlobals mg) (hb : s1.heap.Ns builtinsNs mb) (hbb : ∀ x : Str, x ≠ "__name__" → mb x = bootBuiltins x) (hlim : s1.heap.NoLimit) (hg : s1.gens = #[])
    (ha : s1.heap.get? a = some { cls := .type "list", data := .seq vs.toArray }) (hi : IntsAre vs ns) (hl : ns.length ≤ sizeLine)
    (run : ∀ (base : Heap) (H : Hp), Env0 P w K mg base callerA [] s1 H → SqL K H a (ns.map V.int) →
      codeAny (model P w) callerA (.call (.ref fa) ⟨[.ref a], []⟩) (CR CX0 [] P w H s1 (fun v _ => v = .bl true) E0) s1) :
    codeAny (model P w) callerA (.call (.ref fa) ⟨[.ref a], []⟩) (fun r s' => r = .ok (.ret (.bool true)) ∧ OldK s1.heap s'.heap ∧ s'.os = s1.os ∧ AllBare s'.gens) s1 := by
  have rv := vals_ints hi
  have fin : ∀ H : Hp, HOk P w H s1.heap → (∀ b u, H b = some u → ∃ o xs, u = .frz o (.lst xs)) → ∀ r s', CR CX0 [] P w H s1 (fun v _ => v = .bl true) E0 r s' →
      r = .ok (.ret (.bool true)) ∧ OldK s1.heap s'.heap ∧ s'.os = s1.os ∧ AllBare s'.gens := by
    intro H ok hf r s' h
    match r, h with
    | .ok (.ret u), ⟨v, H', os, bare, un, ok2, rel, q⟩ =>
      obtain rfl : v = .bl true := q
      obtain rfl : u = Value.bool true := rel
      refine ⟨rfl, OldK.of_keep ?_, os, bare⟩
      intro b o e
      match qb : H b with
      | none => exact un.keep b o e qb (fun z => nomatch z) (fun z => nomatch z)
      | some ho =>
        obtain ⟨o2, xs, rfl⟩ := hf b ho qb
        have k1 := (ok b _ qb).1
        have k2 := (ok2 b _ (un.frzs b o2 _ qb)).1
        rw [e] at k1
        cases k1
        exact k2
  match hk : K.lookup a with
  | some o =>
    have e := (KX a o hk).symm.trans ha
    obtain rfl := Option.some.inj e
    have ok : HOk P w (fun _ => none) s1.heap := fun b u z => nomatch z
    refine codeAny_mono (run _ (fun _ => none) (env_at KX hns hb hbb hlim hg ha (fun b u z => nomatch z) (fun _ _ => rfl) ok) ?_) (fin _ ok fun b u z => nomatch z)
    exact .inr ⟨_, vs.toArray, _, hk, rfl, rfl, rfl, by rw [List.size_toArray, hi.length]; exact hl, by simpa using rv⟩
  | none =>
    let o : Obj := { cls := .type "list", data := .seq vs.toArray }
    have at_ : ∀ b u, (if b = a then some (HO.frz o (.lst (ns.map V.int))) else none) = some u → b = a ∧ u = HO.frz o (.lst (ns.map V.int)) := by
      intro b u z
      by_cases hb : b = a
      · rw [if_pos hb] at z
        exact ⟨hb, (Option.some.inj z).symm⟩
      · rw [if_neg hb] at z
        cases z
    have ok : HOk P w (fun b => if b = a then some (HO.frz o (.lst (ns.map V.int))) else none) s1.heap := by
      intro b u z
      obtain ⟨rfl, rfl⟩ := at_ b u z
      exact ⟨ha, by rw [List.length_map]; exact hl, vs, _, rv, ha⟩
    refine codeAny_mono (run _ _ (env_at KX hns hb hbb hlim hg ha (fun b u z => (at_ b u z).1) (fun o' e => absurd (hk.symm.trans e) (fun z => nomatch z)) ok) ?_) (fin _ ok fun b u z => ⟨_, _, (at_ b u z).2⟩)
    exact .inl (.inr ⟨o, if_pos rfl⟩)

theorem walkG {l : PySem.W.OpenLaw} {n : Nat} {q : Program} {loose : List Str} {XP : (Str → Option Value) → Heap → Prop} {YP : World → Heap → Prop} {d : DefRec} {K : Params → PySem.W.Frag}
    (hn : l.most = some n) (hn2 : n ≤ sizeLine) (hdf : d.params.defaults = []) (hY : ∀ (w : World) (h : Heap), YP w h → (K w.params).In h)
    (F : ∀ (w : World) (mg : Str → Option Value) (fa : Addr) (h : Heap), (K w.params).In h → h.Ns mainGlobals mg → mg d.name = some (.ref fa) →
      ∀ (s : Shared) (a : Addr) (ns : List Int) (base : Heap) (H : Hp), ns.length ≤ n → (∀ z ∈ ns, Builtin.Int.intBits z ≤ 1048576) → Env0 l.prog w (K w.params) mg base callerA [] s H → SqL (K w.params) H a (ns.map V.int) →
        codeAny (model l.prog w) callerA (.call (.ref fa) ⟨[.ref a], []⟩) (CR CX0 [] l.prog w H s (fun v _ => v = .bl true) E0) s) :
    PySem.W.WalkO q loose XP YP l.row.toRowW d [] (fun f vs => PySem.call f vs) := by
  apply Att.attach_callB hn hdf
  intro w s0 s1 mg mb fa o pm cd doc a vs ns G Y ho hd hcd hmg hobj hints hlen hbits hg
  have KX := hY w _ Y
  exact law_end KX G.T.g G.T.b G.T.builtins G.T.nolimit hg hobj hints (Nat.le_trans hlen hn2) fun base H e0 hS => F w mg fa _ KX G.T.g hmg s1 a ns base H hlen hbits e0 hS

/-! ### repr of data -/
section
variable {X : Cx}
/-- what a value reads, whatever the state -/
def Rz (X : Cx) (H : Hp) (v : V) (d : PyData) : Prop := ∀ pins σ s u, Inv X pins σ H s → RelV v u → ∃ as, Reads s.heap u d as ∧ sysModules ∉ as
def rRepr (X : Cx) : List V → Hp → VK → Prop := fun xs H Q => ∃ (x : V) (d : PyData), xs = [x] ∧ (Rz X H x d ∨ (Dp X.K H x d ∧ d.hasDict = false)) ∧ d.showable = true ∧ d.depth ≤ 40 ∧ d.shown.length ≤ sizeLine ∧ Q (.str d.shown) H
theorem call_repr (hg : X.A.guards = some []) (hu : X.A.units + 64 < cLine) : CallR X (.builtin "repr") (rRepr X) := by
  intro pins s σ H xs us Q I r h
  obtain ⟨x, d, rfl, hd, hs, hp, hz, q⟩ := h
  match us, r with
  | [u], .cons rx .nil =>
    have rd : ∃ as, Reads s.heap u d as ∧ (d.hasDict = true → sysModules ∉ as) := by
      rcases hd with hd | ⟨hd, hn⟩
      · obtain ⟨as, h1, h2⟩ := hd pins σ s u I rx
        exact ⟨as, h1, fun _ => h2⟩
      · obtain ⟨as, h1⟩ := Dp.reads I d x u hd rx
        exact ⟨as, h1, fun z => by rw [hn] at z; cases z⟩
    obtain ⟨as, h1, h2⟩ := rd
    cases h1 with
    | none => exact PySem.P.repr_of_none ⟨.str _, H, I.tok _, ⟨_, rfl⟩, q⟩
    | bool b => exact PySem.P.repr_of_bool ⟨.str _, H, I.tok _, ⟨_, rfl⟩, by have q' := q; simp only [PyData.shown] at q'; cases b <;> exact q'⟩
    | int i t => exact PySem.P.repr_of_int (by simpa [PyData.showable] using hs) ⟨.str _, H, I.tok _, ⟨_, rfl⟩, by simpa only [PyData.shown] using q⟩
    | str x t => exact PySem.P.repr_of_str ⟨.str _, H, I.tok _, ⟨_, rfl⟩, by simpa only [PyData.shown] using q⟩ (by simpa only [PyData.shown] using hz)
    | list a b c e => exact repr_of_reads' (Reads.list a b c e) hs h2 hg (by omega) (fun _ _ e => e) (fun h' u tk k => ⟨.str _, H, I.kept k, ⟨_, rfl⟩, q⟩) hz
    | tuple a b c e => exact repr_of_reads' (Reads.tuple a b c e) hs h2 hg (by omega) (fun _ _ e => e) (fun h' u tk k => ⟨.str _, H, I.kept k, ⟨_, rfl⟩, q⟩) hz
    | dict a b c e f => exact repr_of_reads' (Reads.dict a b c e f) hs h2 hg (by omega) (fun _ _ e => e) (fun h' u tk k => ⟨.str _, H, I.kept k, ⟨_, rfl⟩, q⟩) hz

theorem Rz.int (H : Hp) (i : Int) : Rz X H (.int i) (.int i) := by
  rintro pins σ s u I ⟨t, rfl⟩
  exact ⟨_, Reads.int i t, (fun z => nomatch z)⟩
theorem Rz.str (H : Hp) (x : Str) : Rz X H (.str x) (.str x) := by
  rintro pins σ s u I ⟨t, rfl⟩
  exact ⟨_, Reads.str x t, (fun z => nomatch z)⟩
theorem rz_all {H : Hp} : ∀ {vs : List V} {ds : List PyData}, Paired (Rz X H) vs ds → ∀ {pins σ s us}, Inv X pins σ H s → Vals vs us → ∃ as, ReadsAll s.heap us ds as ∧ sysModules ∉ as
  | _, _, .nil, _, _, _, _, _, .nil => ⟨_, ReadsAll.nil, (fun z => nomatch z)⟩
  | _, _, .cons h t, _, _, _, _, I, .cons r rs => by
    obtain ⟨as, a1, a2⟩ := h _ _ _ _ I r
    obtain ⟨bs, b1, b2⟩ := rz_all t I rs
    exact ⟨_, ReadsAll.cons a1 b1, fun z => (List.mem_append.mp z).elim a2 b2⟩
theorem Rz.tup {H : Hp} {a : Addr} {xs : List V} {ds : List PyData} (h : SqT X.K H a xs) (hs : Paired (Rz X H) xs ds) : Rz X H (.ref a) (.tuple ds) := by
  intro pins σ s u I r
  obtain rfl : u = Value.ref a := r
  obtain ⟨its, rv, ⟨o, ho, hc, n, hd⟩, _⟩ := I.tuple h
  obtain ⟨as, h1, h2⟩ := rz_all hs I rv
  exact ⟨_, Reads.tuple ho hc hd h1, h2⟩
end
end AW
namespace AW
open PySem PySem.Spec PyProof.Rows L2
section
variable {X : Cx}
def CPowW (i j : Int) : Prop := 0 ≤ j ∧ (Builtin.Int.intBits i : Int) * j ≤ 2 ^ 27
theorem op_powW : OpR X (binaryOp .Pow) (rI CPowW fun i j => .int (i ^ j.toNat)) := opI fun _ _ _ _ _ _ _ hc q => pow_int hc.1 hc.2 q
end
theorem bits_lt {z : Int} {n : Nat} (h : Builtin.Int.intBits z ≤ n) : z.natAbs < 2 ^ n := by
  unfold Builtin.Int.intBits at h
  by_cases e : z = 0
  · subst e
    exact Nat.pos_of_ne_zero (by simp)
  · rw [if_neg (by simpa using e)] at h
    have : z.natAbs ≠ 0 := by omega
    exact (Nat.log2_lt this).mp (by omega)
theorem seed_ok {z c : Int} (h0 : 0 ≤ z) (h1 : z ≤ 2147483629) (h2 : Builtin.Int.intBits c ≤ 1048576) : CPowW (z * 50021 + c) 3 := by
  refine ⟨by decide, ?_⟩
  have hc := bits_lt h2
  have h3 : (z * 50021 + c).natAbs < 2 ^ 1048577 := by
    have a : (z * 50021 + c).natAbs ≤ (z * 50021).natAbs + c.natAbs := Int.natAbs_add_le _ _
    have b : (z * 50021).natAbs ≤ 2 ^ 48 := by omega
    have d : (2 : Nat) ^ 48 ≤ 2 ^ 1048576 := Nat.pow_le_pow_right (by decide) (by decide)
    have e : (2 : Nat) ^ 1048577 = 2 ^ 1048576 + 2 ^ 1048576 := by rw [Nat.pow_succ]; omega
    omega
  have h4 := PyProof.Rows.intBits_le h3
  have e : (2 : Int) ^ 27 = 134217728 := by decide
  rw [e]
  omega
/-! ### what follows an if, shown once -/
def tMid (t u : TS) : TS := fun D σ H => ∃ M : L2.St → Hp → Prop, t { D with nx := M } σ H ∧ ∀ σ2 H2, M σ2 H2 → u D σ2 H2
theorem pss_mid {X : Cx} {st : Stmt} {r : List Stmt} {t u : TS} (a : PS X st t) (b : PSs X r u) : PSs X (st :: r) (tMid t u) := by
  constructor
  rintro pins s σ H D I ⟨M, h1, h2⟩
  apply wpAny_execs_cons
  refine thn (a.run pins s σ H _ I h1) ?_
  intro fl s2 z
  match fl, z with
  | .next, ⟨σ2, H2, I2, m⟩ => exact b.run pins s2 σ2 H2 D I2 (h2 σ2 H2 m)
  | .ret _, z => exact z
  | .brk, z => exact z
  | .cont, z => exact z
/-! ### the well -/
def WL (H : Hp) (a c : Addr) : Prop := a ≠ c ∧ ∃ (cs : List Int) (r s : Int), H a = some (.lst [.ref c, .int r, .int s]) ∧ H c = some (.lst (cs.map V.int))
/-- all but the well stands as it stood -/
def Kp (a c : Addr) (H H' : Hp) : Prop := ∀ b o, b ≠ a → b ≠ c → H b = some o → H' b = some o
theorem Kp.refl (a c : Addr) (H : Hp) : Kp a c H H := fun _ _ _ _ h => h
theorem Kp.trans {a c : Addr} {H H1 H2 : Hp} (h : Kp a c H H1) (k : Kp a c H1 H2) : Kp a c H H2 := fun b o n1 n2 e => k b o n1 n2 (h b o n1 n2 e)
theorem Kp.tup {a c : Addr} {H H' : Hp} (w : WL H a c) (k : Kp a c H H') {b : Addr} {xs : List V} (h : H b = some (.tup xs)) : H' b = some (.tup xs) := by
  obtain ⟨_, cs, r, s, e1, e2⟩ := w
  exact k b _ (ne_of h e1 (fun z => nomatch z)) (ne_of h e2 (fun z => nomatch z)) h
theorem Kp.same {a c : Addr} {H H1 H2 : Hp} (ha : H a = none) (hc : H c = none) (s : Same H H1) (k : Kp a c H1 H2) : Same H H2 := fun b o e => k b o (ne_of_none e ha) (ne_of_none e hc) (s b o e)
theorem same_new {H : Hp} {p : Addr} {o : HO} (h : H p = none) : Same H (upd H p o) := fun b x e => by
  rw [upd_ne (ne_of_none e h)]
  exact e
theorem WL.same {H H' : Hp} {a c : Addr} (w : WL H a c) (k : Same H H') : WL H' a c := by
  obtain ⟨n, cs, r, s, e1, e2⟩ := w
  exact ⟨n, cs, r, s, k _ _ e1, k _ _ e2⟩
theorem WL.ne_new {H : Hp} {a c p : Addr} (w : WL H a c) (h : H p = none) : p ≠ a ∧ p ≠ c := by
  obtain ⟨n, cs, r, s, e1, e2⟩ := w
  exact ⟨(ne_of_none e1 h).symm, (ne_of_none e2 h).symm⟩
theorem WL.upd {H : Hp} {a c p : Addr} {o : HO} (w : WL H a c) (h1 : p ≠ a) (h2 : p ≠ c) : WL (upd H p o) a c := by
  obtain ⟨n, cs, r, s, e1, e2⟩ := w
  exact ⟨n, cs, r, s, by rw [upd_ne h1.symm]; exact e1, by rw [upd_ne h2.symm]; exact e2⟩
theorem Same.kp {a c : Addr} {H H' : Hp} (s : Same H H') : Kp a c H H' := fun b o _ _ e => s b o e
theorem dp_ints {K : PySem.W.Frag} {H : Hp} : ∀ cs : List Int, DpAll K H (cs.map V.int) (cs.map PyData.int)
  | [] => .nil
  | c :: cs => .cons (.int c) (dp_ints cs)
theorem lay_ints : ∀ cs : List Int, PyData.canLayAll0 (cs.map PyData.int) = true ∧ PyData.depthAll (cs.map PyData.int) = 0
  | [] => ⟨by simp only [List.map_nil, PyData.canLayAll0], by simp only [List.map_nil, PyData.depthAll]⟩
  | c :: cs => by
    obtain ⟨h1, h2⟩ := lay_ints cs
    exact ⟨by simp only [List.map_cons, PyData.canLayAll0, PyData.canLay0, h1, Bool.and_self], by simp only [List.map_cons, PyData.depthAll, PyData.depth, h2, Nat.max_self]⟩
theorem shaped_ints (cs : List Int) : SeqAt.shaped (.list (cs.map PyData.int)) = true := by
  obtain ⟨h1, h2⟩ := lay_ints cs
  simp only [SeqAt.shaped, PyData.canLay0, PyData.depth, h1, h2, Bool.true_and]
  decide
theorem dp_strs {K : PySem.W.Frag} {H : Hp} : ∀ cs : List Str, DpAll K H (cs.map V.str) (cs.map PyData.str)
  | [] => .nil
  | c :: cs => .cons (.str c) (dp_strs cs)
theorem lay_strs : ∀ cs : List Str, (∀ x ∈ cs, PyData.strOk x = true) → PyData.canLayAll0 (cs.map PyData.str) = true ∧ PyData.depthAll (cs.map PyData.str) = 0
  | [], _ => ⟨by simp only [List.map_nil, PyData.canLayAll0], by simp only [List.map_nil, PyData.depthAll]⟩
  | c :: cs, h => by
    obtain ⟨h1, h2⟩ := lay_strs cs fun x hx => h x (List.mem_cons_of_mem _ hx)
    exact ⟨by simp only [List.map_cons, PyData.canLayAll0, PyData.canLay0, h1, h c List.mem_cons_self, Bool.and_self], by simp only [List.map_cons, PyData.depthAll, PyData.depth, h2, Nat.max_self]⟩
theorem shaped_strs (cs : List Str) (h : ∀ x ∈ cs, PyData.strOk x = true) : SeqAt.shaped (.list (cs.map PyData.str)) = true := by
  obtain ⟨h1, h2⟩ := lay_strs cs h
  simp only [SeqAt.shaped, PyData.canLay0, PyData.depth, h1, h2, Bool.true_and]
  decide
theorem seq0 (n : Nat) : seqIndex? 0 (n + 1) = some 0 := by
  unfold seqIndex?
  simp
/-! ### the words of deeds, deeds, rows -/
def fwL : List (Str × Int) := [("none", 0), ("one", 0), ("all", 0), ("not", 1), ("neg", 1), ("twice", 1), ("and", 2), ("or", 2), ("xor", 2), ("add", 2), ("sub", 2)]
theorem fw_ok : ∀ x ∈ fwL.map (·.1), PyData.strOk x = true := by decide +kernel
def fwK : List (Key × V) := fwL.map fun p => (Sum.inr p.1, .int p.2)
/-- a deed: its word and its numbers -/
abbrev Deed := Str × List Int
def dV (d : Deed) : List V := .str d.1 :: d.2.map V.int
theorem dv0 (d : Deed) : atI (dV d) 0 = some (.str d.1) := atI_nat (j := 0) rfl
theorem dvN {d : Deed} {k : Nat} {i : Int} (h : d.2[k]? = some i) : atI (dV d) ((k + 1 : Nat) : Int) = some (.int i) := atI_nat (by show (d.2.map V.int)[k]? = _; rw [List.getElem?_map, h]; rfl)
structure DeedOk (m : Int) (d : Deed) : Prop where
  word : (d.1, (d.2.length : Int)) ∈ fwL
  ahead : ∀ i ∈ d.2, 0 ≤ i ∧ i < m
theorem fw_at {z : Int} (h0 : 0 ≤ z) (h1 : z < 11) : ∃ x n, (x, n) ∈ fwL ∧ 0 ≤ n ∧ n ≤ 2 ∧ atI (fwK.map fun kv => kV kv.1) z = some (.str x) ∧ valV fwK (Sum.inr x) = some (.int n) := by
  obtain ⟨k, rfl⟩ := Int.eq_ofNat_of_zero_le h0
  have hk : k = 0 ∨ k = 1 ∨ k = 2 ∨ k = 3 ∨ k = 4 ∨ k = 5 ∨ k = 6 ∨ k = 7 ∨ k = 8 ∨ k = 9 ∨ k = 10 := by omega
  rcases hk with rfl | rfl | rfl | rfl | rfl | rfl | rfl | rfl | rfl | rfl | rfl
  · exact ⟨"none", 0, by decide +kernel, by decide, by decide, by decide +kernel, by decide +kernel⟩
  · exact ⟨"one", 0, by decide +kernel, by decide, by decide, by decide +kernel, by decide +kernel⟩
  · exact ⟨"all", 0, by decide +kernel, by decide, by decide, by decide +kernel, by decide +kernel⟩
  · exact ⟨"not", 1, by decide +kernel, by decide, by decide, by decide +kernel, by decide +kernel⟩
  · exact ⟨"neg", 1, by decide +kernel, by decide, by decide, by decide +kernel, by decide +kernel⟩
  · exact ⟨"twice", 1, by decide +kernel, by decide, by decide, by decide +kernel, by decide +kernel⟩
  · exact ⟨"and", 2, by decide +kernel, by decide, by decide, by decide +kernel, by decide +kernel⟩
  · exact ⟨"or", 2, by decide +kernel, by decide, by decide, by decide +kernel, by decide +kernel⟩
  · exact ⟨"xor", 2, by decide +kernel, by decide, by decide, by decide +kernel, by decide +kernel⟩
  · exact ⟨"add", 2, by decide +kernel, by decide, by decide, by decide +kernel, by decide +kernel⟩
  · exact ⟨"sub", 2, by decide +kernel, by decide, by decide, by decide +kernel, by decide +kernel⟩
theorem awSnoc {α β : Type} {F : α → β → Prop} {x : α} {y : β} (h : F x y) : ∀ {l : List α} {l2 : List β}, Paired F l l2 → Paired F (l ++ [x]) (l2 ++ [y])
  | _, _, .nil => .cons h .nil
  | _, _, .cons r t => .cons r (awSnoc h t)
theorem awMap {α β : Type} {F G : α → β → Prop} (f : ∀ a b, F a b → G a b) : ∀ {l : List α} {l2 : List β}, Paired F l l2 → Paired G l l2
  | _, _, .nil => .nil
  | _, _, .cons r t => .cons (f _ _ r) (awMap f t)
theorem awLen {α β : Type} {F : α → β → Prop} : ∀ {l : List α} {l2 : List β}, Paired F l l2 → l.length = l2.length
  | _, _, .nil => rfl
  | _, _, .cons _ t => congrArg (· + 1) (awLen t)
theorem awGet {α β : Type} {F : α → β → Prop} : ∀ {l : List α} {l2 : List β} {i : Nat} {x : α}, Paired F l l2 → l[i]? = some x → ∃ y, l2[i]? = some y ∧ F x y
  | _, _, _, _, .nil, e => by simp at e
  | _, _, 0, _, .cons r _, e => by
    simp only [List.getElem?_cons_zero, Option.some.injEq] at e
    subst e
    exact ⟨_, rfl, r⟩
  | _, _, i + 1, x, .cons _ t, e => by
    simp only [List.getElem?_cons_succ] at e ⊢
    exact awGet t e
theorem awGet2 {α β : Type} {F : α → β → Prop} {l : List α} {l2 : List β} {i : Nat} {y : β} (h : Paired F l l2) (e : l2[i]? = some y) : ∃ x, l[i]? = some x ∧ F x y := by
  have hi : i < l.length := by
    rw [awLen h]
    exact (List.getElem?_eq_some_iff.mp e).1
  obtain ⟨y2, e2, f⟩ := awGet h (List.getElem?_eq_getElem hi)
  rw [e] at e2
  obtain rfl := Option.some.inj e2
  exact ⟨_, List.getElem?_eq_getElem hi, f⟩
/-- deeds that stand in the heap as tuples -/
abbrev DsAt (H : Hp) : List Addr → List Deed → Prop := Paired fun r d => H r = some (.tup (dV d))
def RowAt (H : Hp) (R : Addr) (m : Int) (ds : List Deed) (o : Int) : Prop := ∃ D rs, H R = some (.tup [.int m, .ref D, .int o]) ∧ H D = some (.tup (rs.map V.ref)) ∧ DsAt H rs ds
structure DsOk (m : Int) (ds : List Deed) : Prop where
  each : ∀ (k : Nat) d, ds[k]? = some d → DeedOk (m + k) d
structure RowOk (m : Int) (ds : List Deed) (o : Int) : Prop where
  m1 : 1 ≤ m
  m3 : m ≤ 3
  len : ds.length ≤ 8
  deeds : DsOk m ds
  o0 : 0 ≤ o
  o1 : o < m + ds.length
/-- all tuples stand -/
def TupsStay (H H' : Hp) : Prop := ∀ b xs, H b = some (.tup xs) → H' b = some (.tup xs)
theorem Same.tups {H H' : Hp} (s : Same H H') : TupsStay H H' := fun b xs e => s b _ e
theorem Kp.tups {a c : Addr} {H H' : Hp} (k : Kp a c H H') (w : WL H a c) : TupsStay H H' := fun b xs e => k.tup w e
theorem TupsStay.trans {H H1 H2 : Hp} (a : TupsStay H H1) (b : TupsStay H1 H2) : TupsStay H H2 := fun c xs e => b c xs (a c xs e)
theorem tups_put {H : Hp} {l : Addr} {xs : List V} {o : HO} (h : H l = some (.lst xs)) : TupsStay H (upd H l o) := fun b ys e => by
  rw [upd_ne (ne_of e h (fun z => nomatch z))]
  exact e
theorem TupsStay.ds {H H' : Hp} (t : TupsStay H H') {rs : List Addr} {ds : List Deed} (h : DsAt H rs ds) : DsAt H' rs ds := awMap (fun r d e => t r _ e) h
theorem TupsStay.row {H H' : Hp} (t : TupsStay H H') {R : Addr} {m o : Int} {ds : List Deed} (h : RowAt H R m ds o) : RowAt H' R m ds o := by
  obtain ⟨D, rs, e1, e2, e3⟩ := h
  exact ⟨D, rs, t _ _ e1, t _ _ e2, t.ds e3⟩
theorem dsOk_snoc {m : Int} {ds : List Deed} {d : Deed} (h : DsOk m ds) (k : DeedOk (m + ds.length) d) : DsOk m (ds ++ [d]) := by
  constructor
  intro i d' e
  by_cases hi : i < ds.length
  · rw [List.getElem?_append_left hi] at e
    exact h.each i d' e
  · rw [List.getElem?_append_right (by omega)] at e
    obtain ⟨h1, h2⟩ := List.getElem?_eq_some_iff.mp e
    have h3 : i = ds.length := by simp only [List.length_cons, List.length_nil] at h1; omega
    subst h3
    simp at h2
    subst h2
    exact k
/-! ### data that is shown in few signs -/
structure Nice (b k : Nat) (d : PyData) : Prop where
  sh : d.showable = true
  lv : d.leavesShort 21 = true
  bk : d.bulk ≤ b
  dp : d.depth ≤ k
theorem Nice.fits {b k : Nat} {d : PyData} (h : Nice b k d) (hb : b ≤ 100000) : d.shown.length ≤ sizeLine := by
  have h1 := PyData.shown_le_bulk 21 (by decide) d h.lv
  have h2 := h.bk
  rw [sizeLine_eq]
  omega
theorem Nice.mono {b b2 k k2 : Nat} {d : PyData} (h : Nice b k d) (hb : b ≤ b2) (hk : k ≤ k2) : Nice b2 k2 d := ⟨h.sh, h.lv, Nat.le_trans h.bk hb, Nat.le_trans h.dp hk⟩
theorem nice_int {i : Int} (h : i.natAbs < 10 ^ 20) : Nice 0 0 (.int i) := by
  refine ⟨?_, ?_, ?_, ?_⟩
  · simp only [PyData.showable, decide_eq_true_eq]
    have : i.natAbs < 2 ^ 70 := Nat.lt_trans h (by decide)
    by_cases e : i.natAbs = 0
    · rw [e]; decide
    · have := (Nat.log2_lt e).mpr this
      omega
  · simp only [PyData.leavesShort, decide_eq_true_eq]
    have e := int_text_length_le10 (k := 20) (by decide) h
    simp only [PyData.shown]
    rw [PySem.ofString_length]
    exact e
  · simp only [PyData.bulk, Nat.le_refl]
  · simp only [PyData.depth, Nat.le_refl]
theorem nice_str {x : Str} {n : Nat} (h : x.cps.size ≤ n) (hx : (x.cps.toList.all fun c => decide (c < 16 ^ 8)) = true) : Nice n 0 (.str x) := by
  refine ⟨?_, ?_, ?_, ?_⟩
  · simp only [PyData.showable]
  · simp only [PyData.leavesShort]
    exact hx
  · simp only [PyData.bulk]
    exact h
  · simp only [PyData.depth, Nat.le_refl]
theorem nice_all {b k : Nat} : ∀ {xs : List PyData}, (∀ x ∈ xs, Nice b k x) → PyData.showableAll xs = true ∧ PyData.leavesShortAll 21 xs = true ∧ PyData.bulkAll xs ≤ xs.length * (b + 1) ∧ PyData.depthAll xs ≤ k
  | [], _ => ⟨by simp only [PyData.showableAll], by simp only [PyData.leavesShortAll], by simp only [PyData.bulkAll, Nat.zero_le], by simp only [PyData.depthAll, Nat.zero_le]⟩
  | x :: xs, h => by
    obtain ⟨h1, h2, h3, h4⟩ := nice_all fun y hy => h y (List.mem_cons_of_mem _ hy)
    obtain ⟨g1, g2, g3, g4⟩ := h x List.mem_cons_self
    refine ⟨by simp only [PyData.showableAll, g1, h1, Bool.and_self], by simp only [PyData.leavesShortAll, g2, h2, Bool.and_self], ?_, ?_⟩
    · simp only [PyData.bulkAll, List.length_cons, Nat.add_mul, Nat.one_mul]
      omega
    · simp only [PyData.depthAll]
      omega
theorem nice_tup {b k n : Nat} {xs : List PyData} (h : ∀ x ∈ xs, Nice b k x) (hn : xs.length * (b + 1) ≤ n) : Nice n (k + 1) (.tuple xs) := by
  obtain ⟨h1, h2, h3, h4⟩ := nice_all h
  exact ⟨by simpa only [PyData.showable] using h1, by simpa only [PyData.leavesShort] using h2, by simp only [PyData.bulk]; omega, by simp only [PyData.depth]; omega⟩
theorem nice_lst {b k n : Nat} {xs : List PyData} (h : ∀ x ∈ xs, Nice b k x) (hn : xs.length * (b + 1) ≤ n) : Nice n (k + 1) (.list xs) := by
  obtain ⟨h1, h2, h3, h4⟩ := nice_all h
  exact ⟨by simpa only [PyData.showable] using h1, by simpa only [PyData.leavesShort] using h2, by simp only [PyData.bulk]; omega, by simp only [PyData.depth]; omega⟩
def deedD (d : Deed) : PyData := .tuple (.str d.1 :: d.2.map PyData.int)
def rowD (m : Int) (ds : List Deed) (o : Int) : PyData := .tuple [.int m, .tuple (ds.map deedD), .int o]
theorem fw_short : ∀ p ∈ fwL, p.1.cps.size ≤ 5 ∧ (p.1.cps.toList.all fun c => decide (c < 16 ^ 8)) = true ∧ p.2 ≤ 2 := by decide +kernel
theorem nice_deed {m : Int} {d : Deed} (h : DeedOk m d) (hm : m ≤ 100) : Nice 18 1 (deedD d) := by
  obtain ⟨h1, h2, h3⟩ := fw_short _ h.word
  refine nice_tup (b := 5) (k := 0) (fun x hx => ?_) ?_
  · rcases List.mem_cons.mp hx with rfl | hx
    · exact nice_str h1 h2
    · obtain ⟨i, hi, rfl⟩ := List.mem_map.mp hx
      obtain ⟨i0, i1⟩ := h.ahead i hi
      exact (nice_int (by omega)).mono (by decide) (by decide)
  · rw [List.length_cons, List.length_map]
    have : (d.2.length : Int) ≤ 2 := h3
    omega
theorem nice_row {m o : Int} {ds : List Deed} (h : RowOk m ds o) : Nice 459 3 (rowD m ds o) := by
  have hm := h.m1
  have hm3 := h.m3
  have hl := h.len
  have ho := h.o0
  have ho1 := h.o1
  refine nice_tup (b := 152) (k := 2) (fun x hx => ?_) (by simp only [List.length_cons, List.length_nil]; decide)
  simp only [List.mem_cons, List.not_mem_nil, or_false] at hx
  rcases hx with rfl | rfl | rfl
  · exact (nice_int (by omega)).mono (by decide) (by decide)
  · refine nice_tup (b := 18) (k := 1) (fun x hx => ?_) ?_
    · obtain ⟨d, hd, rfl⟩ := List.mem_map.mp hx
      obtain ⟨k, hk⟩ := List.mem_iff_getElem?.mp hd
      have hk1 := (List.getElem?_eq_some_iff.mp hk).1
      exact nice_deed (h.deeds.each k d hk) (by omega)
    · rw [List.length_map]
      omega
  · exact (nice_int (by omega)).mono (by decide) (by decide)
/-! ### what the row reads -/
section
variable {X : Cx}
theorem rz_ints (H : Hp) : ∀ l : List Int, Paired (Rz X H) (l.map V.int) (l.map PyData.int)
  | [] => .nil
  | i :: l => .cons (Rz.int H i) (rz_ints H l)
theorem rz_deed {H : Hp} {r : Addr} {d : Deed} (h : H r = some (.tup (dV d))) : Rz X H (.ref r) (deedD d) := Rz.tup (SqT.of h) (.cons (Rz.str H _) (rz_ints H _))
theorem rz_deeds {H : Hp} : ∀ {rs : List Addr} {ds : List Deed}, DsAt H rs ds → Paired (Rz X H) (rs.map V.ref) (ds.map deedD)
  | _, _, .nil => .nil
  | _, _, .cons h t => .cons (rz_deed h) (rz_deeds t)
theorem rz_row {H : Hp} {R : Addr} {m o : Int} {ds : List Deed} (h : RowAt H R m ds o) : Rz X H (.ref R) (rowD m ds o) := by
  obtain ⟨D, rs, e1, e2, e3⟩ := h
  exact Rz.tup (SqT.of e1) (.cons (Rz.int H m) (.cons (Rz.tup (SqT.of e2) (rz_deeds e3)) (.cons (Rz.int H o) .nil)))
/-- a dict of texts and ints -/
abbrev siK (es : List (Str × Int)) : List (Key × V) := es.map fun p => (Sum.inr p.1, .int p.2)
theorem si_reads {prog : Program} {w : World} {h : Heap} : ∀ (es : List (Str × Int)) (vs : List (Key × Value)) (en : List DictEntry), KV (siK es) vs → Pairs (mixKind prog w) en vs →
    ReadsAll h (en.map (·.key)) ((es.map fun p => (PyData.str p.1, PyData.int p.2)).map (·.1)) [] ∧ ReadsAll h (en.map (·.val)) ((es.map fun p => (PyData.str p.1, PyData.int p.2)).map (·.2)) []
  | [], _, _, .nil, .nil => ⟨.nil, .nil⟩
  | (x, i) :: es, _, _, .cons hh t, .cons hk hv hp => by
    obtain ⟨h1, h2⟩ := si_reads es _ _ t hp
    obtain ⟨k1, t1, e1⟩ := hh
    rw [← k1] at hk
    obtain ⟨t2, e2⟩ := Value.isStrOf_shape (x := x) hk
    refine ⟨?_, ?_⟩
    · simp only [List.map_cons]
      rw [e2]
      exact ReadsAll.cons (as := []) (Reads.str x t2) h1
    · simp only [List.map_cons]
      rw [hv, e1]
      exact ReadsAll.cons (as := []) (Reads.int i t1) h2
theorem rz_dict {H : Hp} {C : Addr} {es : List (Str × Int)} (h : H C = some (.dK (siK es))) : Rz X H (.ref C) (.dict (es.map fun p => (PyData.str p.1, PyData.int p.2))) := by
  intro pins σ s u I r
  obtain rfl : u = Value.ref C := r
  obtain ⟨_, hs, vs, hkv, o, en, ep, e1, e2, e3, e4, e5, e6⟩ := I.hok C _ h
  obtain ⟨r1, r2⟩ := si_reads (prog := X.prog) (w := X.w) (h := s.heap) es vs _ hkv e5
  refine ⟨_, Reads.dict e1 e2.1 e3 r1 r2, ?_⟩
  intro z
  simp only [List.append_nil, List.mem_cons, List.not_mem_nil, or_false] at z
  rw [← z] at hs
  simp at hs
end
theorem nice_dict {n : Nat} : ∀ {es : List (Str × Int)}, (∀ p ∈ es, p.1.cps.size ≤ 5 ∧ (p.1.cps.toList.all fun c => decide (c < 16 ^ 8)) = true ∧ p.2.natAbs < 10 ^ 20) → es.length * 7 ≤ n →
    Nice n 1 (.dict (es.map fun p => (PyData.str p.1, PyData.int p.2))) := by
  intro es h hn
  have key : ∀ es : List (Str × Int), (∀ p ∈ es, p.1.cps.size ≤ 5 ∧ (p.1.cps.toList.all fun c => decide (c < 16 ^ 8)) = true ∧ p.2.natAbs < 10 ^ 20) →
      PyData.showableKv (es.map fun p => (PyData.str p.1, PyData.int p.2)) = true ∧ PyData.leavesShortKv 21 (es.map fun p => (PyData.str p.1, PyData.int p.2)) = true ∧ PyData.bulkKv (es.map fun p => (PyData.str p.1, PyData.int p.2)) ≤ es.length * 7 ∧ PyData.depthKv (es.map fun p => (PyData.str p.1, PyData.int p.2)) = 0 := by
    intro es
    induction es with
    | nil => intro _; exact ⟨by simp only [List.map_nil, PyData.showableKv], by simp only [List.map_nil, PyData.leavesShortKv], by simp only [List.map_nil, PyData.bulkKv, Nat.zero_le], by simp only [List.map_nil, PyData.depthKv]⟩
    | cons p es ih =>
      intro h
      obtain ⟨h1, h2, h3, h4⟩ := ih fun q hq => h q (List.mem_cons_of_mem _ hq)
      obtain ⟨a, b, c⟩ := h p List.mem_cons_self
      obtain ⟨i1, i2, i3, i4⟩ := nice_int c
      obtain ⟨s1, s2, s3, s4⟩ := nice_str a b
      refine ⟨by simp only [List.map_cons, PyData.showableKv, i1, s1, h1, Bool.and_self], by simp only [List.map_cons, PyData.leavesShortKv, i2, s2, h2, Bool.and_self], ?_, ?_⟩
      · simp only [List.map_cons, PyData.bulkKv, List.length_cons]
        omega
      · simp only [List.map_cons, PyData.depthKv]
        omega
  obtain ⟨h1, h2, h3, h4⟩ := key es h
  exact ⟨by simpa only [PyData.showable] using h1, by simpa only [PyData.leavesShort] using h2, by simp only [PyData.bulk]; omega, by simp only [PyData.depth]; omega⟩
/-! ### values of rows -/
theorem strEq {x y : Str} (h : decide (V.str x = V.str y) = true) : x = y := V.str.inj (of_decide_eq_true h)
theorem strNe {x y : Str} (h : ¬ decide (V.str x = V.str y) = true) : ¬ x = y := fun e => h (decide_eq_true (congrArg V.str e))
def argAt (d : Deed) (told : List Int) (k : Nat) : Int := told.getD (d.2.getD k 0).toNat 0
def dvalue (x : Str) (A B size : Int) : Int :=
  if x = "none" then 0 else if x = "one" then 1 else if x = "all" then size - 1 else if x = "not" then size - 1 - A else if x = "neg" then -A else if x = "twice" then A + A
  else if x = "and" then Builtin.bitAnd A B else if x = "or" then Builtin.bitOr A B else if x = "xor" then Builtin.bitXor A B else if x = "add" then A + B else A - B
def dval (size : Int) (d : Deed) (told : List Int) : Int := dvalue d.1 (argAt d told 0) (argAt d told 1) size % size
def vals (size : Int) : List Deed → List Int → List Int
  | [], told => told
  | d :: ds, told => vals size ds (told ++ [dval size d told])
theorem vals_append (size : Int) : ∀ (l1 l2 : List Deed) (t : List Int), vals size (l1 ++ l2) t = vals size l2 (vals size l1 t)
  | [], _, _ => rfl
  | d :: l1, l2, t => vals_append size l1 l2 (t ++ [dval size d t])
theorem vals_len {size : Int} : ∀ (ds : List Deed) (t : List Int), (vals size ds t).length = t.length + ds.length
  | [], _ => rfl
  | d :: ds, t => by
    show (vals size ds (t ++ [dval size d t])).length = _
    rw [vals_len ds, List.length_append, List.length_cons, List.length_cons, List.length_nil]
    omega
theorem vals_next {size : Int} {ds : List Deed} {i : Nat} {d : Deed} {t : List Int} (h : ds[i]? = some d) : vals size (ds.take (i + 1)) t = vals size (ds.take i) t ++ [dval size d (vals size (ds.take i) t)] := by
  rw [List.take_add_one, h, vals_append]
  rfl
theorem atI_ints {l : List Int} {o : Int} (h0 : 0 ≤ o) (h1 : o < l.length) : atI (l.map V.int) o = some (.int (l.getD o.toNat 0)) := by
  obtain ⟨k, rfl⟩ := Int.eq_ofNat_of_zero_le h0
  have hk : k < l.length := by omega
  apply atI_nat
  rw [List.getElem?_map, List.getElem?_eq_getElem hk, Int.toNat_natCast, List.getD_eq_getElem?_getD, List.getElem?_eq_getElem hk]
  rfl
theorem fw_one : ∀ p ∈ fwL, ¬ p.1 = "none" → ¬ p.1 = "one" → ¬ p.1 = "all" → 1 ≤ p.2 := by decide +kernel
theorem fw_two' : ∀ p ∈ fwL, (decide (p.1 ∈ (["none", "one", "all", "not", "neg", "twice"] : List Str)) || decide (2 ≤ p.2)) = true := by decide +kernel
theorem fw_two (p : Str × Int) (h : p ∈ fwL) (n1 : ¬ p.1 = "none") (n2 : ¬ p.1 = "one") (n3 : ¬ p.1 = "all") (n4 : ¬ p.1 = "not") (n5 : ¬ p.1 = "neg") (n6 : ¬ p.1 = "twice") : 2 ≤ p.2 := by
  have e := fw_two' p h
  rw [Bool.or_eq_true] at e
  rcases e with e | e
  · have e2 := of_decide_eq_true e
    simp only [List.mem_cons, List.not_mem_nil, or_false] at e2
    rcases e2 with e2 | e2 | e2 | e2 | e2 | e2
    · exact absurd e2 n1
    · exact absurd e2 n2
    · exact absurd e2 n3
    · exact absurd e2 n4
    · exact absurd e2 n5
    · exact absurd e2 n6
  · exact of_decide_eq_true e
theorem arg_of {d : Deed} {told : List Int} (h : DeedOk told.length d) {k : Nat} (hk : k < d.2.length) : ∃ i, d.2[k]? = some i ∧ 0 ≤ i ∧ atI (told.map V.int) i = some (.int (argAt d told k)) := by
  have hg := List.getElem?_eq_getElem hk
  obtain ⟨i0, i1⟩ := h.ahead _ (List.getElem_mem hk)
  refine ⟨d.2[k], hg, i0, ?_⟩
  rw [atI_ints i0 i1]
  unfold argAt
  rw [List.getD_eq_getElem?_getD (l := d.2), hg]
  rfl
theorem arg1 {d : Deed} {told : List Int} (h : DeedOk told.length d) (n1 : ¬ d.1 = "none") (n2 : ¬ d.1 = "one") (n3 : ¬ d.1 = "all") : ∃ i, d.2[0]? = some i ∧ 0 ≤ i ∧ atI (told.map V.int) i = some (.int (argAt d told 0)) :=
  arg_of h (by have := fw_one _ h.word n1 n2 n3; show 0 < d.2.length; have e : (1 : Int) ≤ (d.2.length : Int) := this; omega)
theorem arg2 {d : Deed} {told : List Int} (h : DeedOk told.length d) (n1 : ¬ d.1 = "none") (n2 : ¬ d.1 = "one") (n3 : ¬ d.1 = "all") (n4 : ¬ d.1 = "not") (n5 : ¬ d.1 = "neg") (n6 : ¬ d.1 = "twice") :
    ∃ i, d.2[1]? = some i ∧ 0 ≤ i ∧ atI (told.map V.int) i = some (.int (argAt d told 1)) :=
  arg_of h (by have := fw_two _ h.word n1 n2 n3 n4 n5 n6; show 1 < d.2.length; have e : (2 : Int) ≤ (d.2.length : Int) := this; omega)
/-! ### the low bits of values -/
theorem pw_cast (n : Nat) : (2 : Int) ^ n = ((2 ^ n : Nat) : Int) := (PySem.W.kbt_cast n).symm
theorem pw_le {n k : Nat} (h : n ≤ k) : (2 : Int) ^ n ≤ 2 ^ k := by
  rw [pw_cast, pw_cast]
  exact Int.ofNat_le.mpr (Nat.pow_le_pow_right (by decide) h)
theorem pw_pos (n : Nat) : (0 : Int) < 2 ^ n := Int.pow_pos (by decide)
theorem castMod (a n : Nat) : ((a : Int) % 2 ^ n) = ((a % 2 ^ n : Nat) : Int) := by rw [pw_cast, Int.natCast_emod]
theorem low_and {A B : Int} (n : Nat) (ha : 0 ≤ A) (hb : 0 ≤ B) : Builtin.bitAnd (A % 2 ^ n) (B % 2 ^ n) % 2 ^ n = Builtin.bitAnd A B % 2 ^ n := by
  obtain ⟨a, rfl⟩ := Int.eq_ofNat_of_zero_le ha
  obtain ⟨b, rfl⟩ := Int.eq_ofNat_of_zero_le hb
  rw [castMod, castMod, bitAnd_pp (Int.natCast_nonneg _) (Int.natCast_nonneg _), bitAnd_pp (Int.natCast_nonneg _) (Int.natCast_nonneg _), castMod, castMod]
  simp only [Int.toNat_natCast]
  rw [Nat.and_mod_two_pow, Nat.and_mod_two_pow, Nat.mod_mod, Nat.mod_mod]
theorem low_or {A B : Int} (n : Nat) (ha : 0 ≤ A) (hb : 0 ≤ B) : Builtin.bitOr (A % 2 ^ n) (B % 2 ^ n) % 2 ^ n = Builtin.bitOr A B % 2 ^ n := by
  obtain ⟨a, rfl⟩ := Int.eq_ofNat_of_zero_le ha
  obtain ⟨b, rfl⟩ := Int.eq_ofNat_of_zero_le hb
  rw [castMod, castMod, bitOr_nn (Int.natCast_nonneg _) (Int.natCast_nonneg _), bitOr_nn (Int.natCast_nonneg _) (Int.natCast_nonneg _), castMod, castMod]
  simp only [Int.toNat_natCast]
  rw [Nat.or_mod_two_pow, Nat.or_mod_two_pow, Nat.mod_mod, Nat.mod_mod]
theorem low_xor {A B : Int} (n : Nat) (ha : 0 ≤ A) (hb : 0 ≤ B) : Builtin.bitXor (A % 2 ^ n) (B % 2 ^ n) % 2 ^ n = Builtin.bitXor A B % 2 ^ n := by
  obtain ⟨a, rfl⟩ := Int.eq_ofNat_of_zero_le ha
  obtain ⟨b, rfl⟩ := Int.eq_ofNat_of_zero_le hb
  rw [castMod, castMod, Bits.bitXor_pp (Int.natCast_nonneg _) (Int.natCast_nonneg _), Bits.bitXor_pp (Int.natCast_nonneg _) (Int.natCast_nonneg _), castMod, castMod]
  simp only [Int.toNat_natCast]
  rw [Nat.xor_mod_two_pow, Nat.xor_mod_two_pow, Nat.mod_mod, Nat.mod_mod]
theorem pw_dvd {n k : Nat} (h : n ≤ k) : (2 : Int) ^ n ∣ 2 ^ k := ⟨2 ^ (k - n), by rw [← Int.pow_add]; congr 1; omega⟩
theorem emod_same {a b m : Int} (k : Int) (h : a - b = m * k) : a % m = b % m := Int.emod_eq_emod_iff_emod_sub_eq_zero.mpr (by rw [h]; exact Int.mul_emod_right m k)
theorem dvalue_low' {x : Str} {N c qa qb ra rb A B : Int} (ea : N * qa + ra = A) (eb : N * qb + rb = B) (l1 : Builtin.bitAnd ra rb % N = Builtin.bitAnd A B % N) (l2 : Builtin.bitOr ra rb % N = Builtin.bitOr A B % N)
    (l3 : Builtin.bitXor ra rb % N = Builtin.bitXor A B % N) : dvalue x ra rb N % N = dvalue x A B (N * c) % N := by
  unfold dvalue
  by_cases h1 : x = "none"
  · rw [if_pos h1, if_pos h1]
  rw [if_neg h1, if_neg h1]
  by_cases h2 : x = "one"
  · rw [if_pos h2, if_pos h2]
  rw [if_neg h2, if_neg h2]
  by_cases h3 : x = "all"
  · rw [if_pos h3, if_pos h3]
    exact emod_same (1 - c) (by rw [Int.mul_sub, Int.mul_one]; omega)
  rw [if_neg h3, if_neg h3]
  by_cases h4 : x = "not"
  · rw [if_pos h4, if_pos h4]
    exact emod_same (1 - c + qa) (by rw [Int.mul_add, Int.mul_sub, Int.mul_one]; omega)
  rw [if_neg h4, if_neg h4]
  by_cases h5 : x = "neg"
  · rw [if_pos h5, if_pos h5]
    exact emod_same qa (by omega)
  rw [if_neg h5, if_neg h5]
  by_cases h6 : x = "twice"
  · rw [if_pos h6, if_pos h6]
    exact emod_same (-qa - qa) (by rw [Int.mul_sub, Int.mul_neg]; omega)
  rw [if_neg h6, if_neg h6]
  by_cases h7 : x = "and"
  · rw [if_pos h7, if_pos h7]
    exact l1
  rw [if_neg h7, if_neg h7]
  by_cases h8 : x = "or"
  · rw [if_pos h8, if_pos h8]
    exact l2
  rw [if_neg h8, if_neg h8]
  by_cases h9 : x = "xor"
  · rw [if_pos h9, if_pos h9]
    exact l3
  rw [if_neg h9, if_neg h9]
  by_cases h10 : x = "add"
  · rw [if_pos h10, if_pos h10]
    exact emod_same (-qa - qb) (by rw [Int.mul_sub, Int.mul_neg]; omega)
  rw [if_neg h10, if_neg h10]
  exact emod_same (qb - qa) (by rw [Int.mul_sub]; omega)
theorem dvalue_low {x : Str} {A B : Int} {n k : Nat} (hA : 0 ≤ A) (hB : 0 ≤ B) (h : n ≤ k) : dvalue x (A % 2 ^ n) (B % 2 ^ n) (2 ^ n) % 2 ^ n = dvalue x A B (2 ^ k) % 2 ^ n := by
  obtain ⟨c, hc⟩ := pw_dvd h
  rw [hc]
  exact dvalue_low' (Int.mul_ediv_add_emod A (2 ^ n)) (Int.mul_ediv_add_emod B (2 ^ n)) (low_and n hA hB) (low_or n hA hB) (low_xor n hA hB)
theorem getD_low (N : Int) (l : List Int) (i : Nat) : (l.map (· % N)).getD i 0 = l.getD i 0 % N := by
  rw [List.getD_eq_getElem?_getD, List.getD_eq_getElem?_getD, List.getElem?_map]
  cases l[i]? with
  | none => exact (Int.zero_emod N).symm
  | some y => rfl
theorem arg_nn {told : List Int} (h : ∀ x ∈ told, 0 ≤ x) (d : Deed) (j : Nat) : 0 ≤ argAt d told j := by
  unfold argAt
  rw [List.getD_eq_getElem?_getD]
  cases e : told[(d.2.getD j 0).toNat]? with
  | none => exact Int.le_refl 0
  | some y => exact h y (List.mem_of_getElem? e)
theorem dval_low {d : Deed} {told : List Int} {n k : Nat} (h : ∀ x ∈ told, 0 ≤ x) (hk : n ≤ k) : dval (2 ^ n) d (told.map (· % 2 ^ n)) = dval (2 ^ k) d told % 2 ^ n := by
  unfold dval
  have e : ∀ j, argAt d (told.map (· % 2 ^ n)) j = argAt d told j % 2 ^ n := fun j => getD_low _ _ _
  rw [e, e, dvalue_low (arg_nn h d 0) (arg_nn h d 1) hk, Int.emod_emod_of_dvd _ (pw_dvd hk)]
theorem vals_low {n k : Nat} (hk : n ≤ k) : ∀ (ds : List Deed) (told : List Int), (∀ x ∈ told, 0 ≤ x) → vals (2 ^ n) ds (told.map (· % 2 ^ n)) = (vals (2 ^ k) ds told).map (· % 2 ^ n)
  | [], _, _ => rfl
  | d :: ds, told, h => by
    show vals (2 ^ n) ds (told.map (· % 2 ^ n) ++ [dval (2 ^ n) d (told.map (· % 2 ^ n))]) = (vals (2 ^ k) ds (told ++ [dval (2 ^ k) d told])).map (· % 2 ^ n)
    rw [dval_low h hk, ← vals_low hk ds, List.map_append]
    · rfl
    · intro x hx
      rcases List.mem_append.mp hx with hx | hx
      · exact h x hx
      · rw [List.mem_singleton.mp hx]
        exact Int.emod_nonneg _ (by have := pw_pos k; omega)
theorem vals_range {size : Int} (hs : 0 < size) : ∀ (ds : List Deed) (told : List Int), (∀ x ∈ told, 0 ≤ x ∧ x < size) → ∀ x ∈ vals size ds told, 0 ≤ x ∧ x < size
  | [], _, h => h
  | d :: ds, told, h => by
    refine vals_range hs ds (told ++ [dval size d told]) fun x hx => ?_
    rcases List.mem_append.mp hx with hx | hx
    · exact h x hx
    · rw [List.mem_singleton.mp hx]
      exact ⟨Int.emod_nonneg _ (by omega), Int.emod_lt_of_pos _ hs⟩
/-! ### lists of ints compared -/
theorem eqv_ints : ∀ l : List Int, PyData.eqv (.list (l.map PyData.int)) (.list (l.map PyData.int)) = true := fun l => SeqAt.eqv_refl _ (SeqAt.canLay_of_shaped (shaped_ints l))
theorem dget_at {H : Hp} {a : Addr} {kvs : List (Key × V)} {k : Key} {v : V} (e : H a = some (.dK kvs)) (h : valV kvs k = some v) : DGet H a (kV k) (some v) := h ▸ DGet.k e
theorem fw_cases {x : Str} {n : Nat} (h : (x, (n : Int)) ∈ fwL) : (n = 0 ∧ (x = "none" ∨ x = "one" ∨ x = "all")) ∨ (n = 1 ∧ (x = "not" ∨ x = "neg" ∨ x = "twice")) ∨ (n = 2 ∧ (x = "and" ∨ x = "or" ∨ x = "xor" ∨ x = "add" ∨ x = "sub")) := by
  unfold fwL at h
  simp only [List.mem_cons, List.not_mem_nil, or_false, Prod.mk.injEq] at h
  rcases h with h | h | h | h | h | h | h | h | h | h | h
  · exact .inl ⟨by omega, .inl h.1⟩
  · exact .inl ⟨by omega, .inr (.inl h.1)⟩
  · exact .inl ⟨by omega, .inr (.inr h.1)⟩
  · exact .inr (.inl ⟨by omega, .inl h.1⟩)
  · exact .inr (.inl ⟨by omega, .inr (.inl h.1)⟩)
  · exact .inr (.inl ⟨by omega, .inr (.inr h.1)⟩)
  · exact .inr (.inr ⟨by omega, .inl h.1⟩)
  · exact .inr (.inr ⟨by omega, .inr (.inl h.1)⟩)
  · exact .inr (.inr ⟨by omega, .inr (.inr (.inl h.1))⟩)
  · exact .inr (.inr ⟨by omega, .inr (.inr (.inr (.inl h.1)))⟩)
  · exact .inr (.inr ⟨by omega, .inr (.inr (.inr (.inr h.1)))⟩)
theorem and_lt {A B : Int} {n : Nat} (a0 : 0 ≤ A) (a1 : A < 2 ^ n) (b0 : 0 ≤ B) : Builtin.bitAnd A B % 2 ^ n = Builtin.bitAnd A B := by
  obtain ⟨a, rfl⟩ := Int.eq_ofNat_of_zero_le a0
  obtain ⟨b, rfl⟩ := Int.eq_ofNat_of_zero_le b0
  rw [bitAnd_pp (Int.natCast_nonneg _) (Int.natCast_nonneg _), castMod]
  rw [pw_cast] at a1
  simp only [Int.toNat_natCast]
  rw [Nat.mod_eq_of_lt (Nat.lt_of_le_of_lt Nat.and_le_left (by omega))]
theorem or_lt {A B : Int} {n : Nat} (a0 : 0 ≤ A) (a1 : A < 2 ^ n) (b0 : 0 ≤ B) (b1 : B < 2 ^ n) : Builtin.bitOr A B % 2 ^ n = Builtin.bitOr A B := by
  obtain ⟨a, rfl⟩ := Int.eq_ofNat_of_zero_le a0
  obtain ⟨b, rfl⟩ := Int.eq_ofNat_of_zero_le b0
  rw [bitOr_nn (Int.natCast_nonneg _) (Int.natCast_nonneg _), castMod]
  rw [pw_cast] at a1 b1
  simp only [Int.toNat_natCast]
  rw [Nat.mod_eq_of_lt (Nat.or_lt_two_pow (by omega) (by omega))]
theorem xor_lt {A B : Int} {n : Nat} (a0 : 0 ≤ A) (a1 : A < 2 ^ n) (b0 : 0 ≤ B) (b1 : B < 2 ^ n) : Builtin.bitXor A B % 2 ^ n = Builtin.bitXor A B := by
  obtain ⟨a, rfl⟩ := Int.eq_ofNat_of_zero_le a0
  obtain ⟨b, rfl⟩ := Int.eq_ofNat_of_zero_le b0
  rw [Bits.bitXor_pp (Int.natCast_nonneg _) (Int.natCast_nonneg _), castMod]
  rw [pw_cast] at a1 b1
  simp only [Int.toNat_natCast]
  rw [Nat.mod_eq_of_lt (Nat.xor_lt_two_pow (by omega) (by omega))]
/-! ### all but the first -/
theorem sIx_one (x : V) (xs : List V) : HT.sIx (x :: xs).length 0 (some 1) = 1 := by
  have e : HT.sIx (x :: xs).length 0 (some 1) = min 1 (x :: xs).length := HT.sIx_nat (x :: xs).length 0 1
  rw [e, List.length_cons]
  omega
theorem cutTail (x : V) (xs : List V) : cutV (x :: xs) (some 1) none = xs := by
  have h2 : HT.sIx (x :: xs).length (x :: xs).length none = (x :: xs).length := HT.sIx_none _ _
  unfold cutV
  rw [sIx_one, h2]
  simp
theorem notWhole (x : V) (xs : List V) : ¬ (HT.sIx (x :: xs).length 0 (some 1) = 0 ∧ HT.sIx (x :: xs).length (x :: xs).length none = (x :: xs).length) := by
  rw [sIx_one]
  exact fun h => absurd h.1 (by decide)
theorem intEq {x y : Int} (h : decide (V.int x = V.int y) = true) : x = y := V.int.inj (of_decide_eq_true h)
theorem intNe {x y : Int} (h : ¬ decide (V.int x = V.int y) = true) : ¬ x = y := fun e => h (decide_eq_true (congrArg V.int e))
/-! ### t + u of two tuples at hand, whatever they hold -/
section
variable {X : Cx}
def rCatZ : R2 := fun x y H Q => ∃ a b xs ys, x = .ref a ∧ y = .ref b ∧ H a = some (.tup xs) ∧ H b = some (.tup ys) ∧ xs.length + ys.length ≤ sizeLine ∧ ∀ p H2, Same H H2 → H2 p = some (.tup (xs ++ ys)) → Q (.ref p) H2
theorem op_catZ : OpR X (binaryOp .Add) rCatZ := by
  intro pins s σ H x y v u Q I rx ry h
  obtain ⟨a, b, xs, ys, rfl, rfl, ha, hb, hz, q⟩ := h
  refine op_catA pins s σ H _ _ v u Q I rx ry ⟨a, b, xs, ys, rfl, rfl, SqT.of ha, SqT.of hb, hz, fun e => ?_, fun _ e => ?_, fun _ _ p hp => ?_⟩
  · subst e
    exact q b H (Same.refl H) hb
  · subst e
    exact q a H (Same.refl H) (by rw [List.append_nil]; exact ha)
  · exact q p _ (same_new hp) upd_same
end
theorem awAppend {α β : Type} {F : α → β → Prop} : ∀ {l k : List α} {l2 k2 : List β}, Paired F l l2 → Paired F k k2 → Paired F (l ++ k) (l2 ++ k2)
  | _, _, _, _, .nil, h => h
  | _, _, _, _, .cons r t, h => .cons r (awAppend t h)
theorem dsOk_append {m t : Int} {ds es : List Deed} (h : DsOk m ds) (k : DsOk t es) (e : t = m + ds.length) : DsOk m (ds ++ es) := by
  constructor
  intro i d hi
  by_cases hl : i < ds.length
  · rw [List.getElem?_append_left hl] at hi
    exact h.each i d hi
  · rw [List.getElem?_append_right (by omega)] at hi
    have := k.each _ d hi
    rw [e] at this
    have e2 : m + (ds.length : Int) + ((i - ds.length : Nat) : Int) = m + i := by omega
    rw [e2] at this
    exact this
/-- all but one stands as it stood -/
def But (f : Addr) (H H2 : Hp) : Prop := ∀ b o, b ≠ f → H b = some o → H2 b = some o
theorem But.trans {f : Addr} {H H1 H2 : Hp} (a : But f H H1) (b : But f H1 H2) : But f H H2 := fun c o n e => b c o n (a c o n e)
theorem But.same {f : Addr} {H H2 : Hp} (s : Same H H2) : But f H H2 := fun b o _ e => s b o e
theorem But.put {f : Addr} {H : Hp} {o : HO} : But f H (upd H f o) := fun b u n e => by
  rw [upd_ne n]
  exact e
theorem But.tups {f : Addr} {H H2 : Hp} {xs : List V} (h : But f H H2) (e : H f = some (.lst xs)) : TupsStay H H2 := fun b ys z => h b _ (ne_of z e (fun q => nomatch q)) z
/-! ### the tape -/
def TP (H : Hp) (a : Addr) : Prop := ∃ x y : Int, H a = some (.lst [.int x, .int y])
theorem TP.same {H H2 : Hp} {a : Addr} (h : TP H a) (s : Same H H2) : TP H2 a := by
  obtain ⟨x, y, e⟩ := h
  exact ⟨x, y, s _ _ e⟩
theorem TP.ne_new {H : Hp} {a p : Addr} (h : TP H a) (e : H p = none) : p ≠ a := by
  obtain ⟨x, y, e1⟩ := h
  exact (ne_of_none e1 e).symm
theorem TP.upd {H : Hp} {a p : Addr} {o : HO} (h : TP H a) (n : p ≠ a) : TP (upd H p o) a := by
  obtain ⟨x, y, e1⟩ := h
  exact ⟨x, y, by rw [upd_ne n.symm]; exact e1⟩
theorem But.tape {a : Addr} {H H2 : Hp} (h : But a H H2) (t : TP H a) : TupsStay H H2 := by
  obtain ⟨x, y, e⟩ := t
  exact h.tups e
theorem But.refl (a : Addr) (H : Hp) : But a H H := fun _ _ _ e => e
theorem atI_in {α : Type} {l : List α} {i : Int} (h0 : 0 ≤ i) (h1 : i < l.length) : ∃ v, atI l i = some v ∧ v ∈ l := by
  obtain ⟨k, rfl⟩ := Int.eq_ofNat_of_zero_le h0
  have hk : k < l.length := by omega
  exact ⟨l[k], atI_nat (List.getElem?_eq_getElem hk), List.getElem_mem hk⟩
/-! ### texts in written tuples -/
theorem inS (x : Str) : ∀ l : List Str, inV (.str x) (l.map V.str) = decide (x ∈ l)
  | [] => rfl
  | y :: l => by
    have ih := inS x l
    show (eqV (.str y) (.str x) || inV (.str x) (l.map V.str)) = _
    rw [ih]
    by_cases h : x = y
    · subst h
      simp [eqV]
    · have h2 : ¬ y = x := fun e => h e.symm
      simp [eqV, h, h2]
def tw12 : List Str := ["add", "sub", "and", "xor", "or", "not", "twice", "neg", "all", "one", "none", "add"]
def twC : List Str := ["add", "sub", "twice", "neg", "one"]
theorem tw_zero : ∀ x ∈ (["all", "one", "none"] : List Str), (x, (0 : Int)) ∈ fwL := by decide +kernel
theorem tw_one : ∀ x ∈ (["not", "twice", "neg"] : List Str), (x, (1 : Int)) ∈ fwL := by decide +kernel
theorem tw_two : ∀ x ∈ tw12, x ∈ (["all", "one", "none"] : List Str) ∨ x ∈ (["not", "twice", "neg"] : List Str) ∨ (x, (2 : Int)) ∈ fwL := by decide +kernel
theorem tw_four : ∀ x ∈ (["and", "or", "xor", "not"] : List Str), x ∈ tw12 := by decide +kernel
theorem mem_strs {v : V} {l : List Str} (h : v ∈ l.map V.str) : ∃ x, x ∈ l ∧ v = .str x := by
  obtain ⟨x, hx, e⟩ := List.mem_map.mp h
  exact ⟨x, hx, e.symm⟩
/-! ### bits and carries of rows -/
def fcD (d : Deed) : Int := if d.1 ∈ (["neg", "one"] : List Str) then 1 else 0
def dbit (x : Str) (a b c : Int) : Int :=
  if x = "none" then 0 else if x = "all" then 1 else if x = "one" then c else if x = "twice" then c else if x = "not" then 1 - a else if x = "neg" then Builtin.bitXor (1 - a) c
  else if x = "and" then Builtin.bitAnd a b else if x = "or" then Builtin.bitOr a b else if x = "xor" then Builtin.bitXor a b else Builtin.bitXor (Builtin.bitXor a b) c
def dcar (x : Str) (a b c : Int) : Int :=
  if x = "neg" then Builtin.bitAnd (1 - a) c else if x = "twice" then a else if x = "add" then (a + b + c) / 2 else if x = "sub" then (1 - a + b + c) / 2 else 0
def dbitAt (d : Deed) (c : Int) (told : List Int) : Int := dbit d.1 (argAt d told 0) (argAt d told 1) c
def dcarAt (d : Deed) (c : Int) (told : List Int) : Int := dcar d.1 (argAt d told 0) (argAt d told 1) c
def bts : List Deed → List Int → List Int → List Int
  | d :: ds, c :: cs, told => bts ds cs (told ++ [dbitAt d c told])
  | _, _, told => told
def nxt (ds : List Deed) (cs told : List Int) : List Int := List.zipWith (fun d c => dcarAt d c told) ds cs
abbrev Bit (x : Int) : Prop := x = 0 ∨ x = 1
theorem bit0 : Bit 0 := .inl rfl
theorem bit1 : Bit 1 := .inr rfl
theorem dbit_bit {x : Str} {a b c : Int} (ha : Bit a) (hb : Bit b) (hc : Bit c) : Bit (dbit x a b c) := by
  have n1 : Bit (1 - a) := by rcases ha with rfl | rfl <;> simp [Bit]
  have hx : ∀ {p q : Int}, Bit p → Bit q → Bit (Builtin.bitXor p q) := fun hp hq => by
    rcases hp with rfl | rfl <;> rcases hq with rfl | rfl <;> decide
  have hand : ∀ {p q : Int}, Bit p → Bit q → Bit (Builtin.bitAnd p q) := fun hp hq => by
    rcases hp with rfl | rfl <;> rcases hq with rfl | rfl <;> decide
  have hor : ∀ {p q : Int}, Bit p → Bit q → Bit (Builtin.bitOr p q) := fun hp hq => by
    rcases hp with rfl | rfl <;> rcases hq with rfl | rfl <;> decide
  unfold dbit
  split; · exact bit0
  split; · exact bit1
  split; · exact hc
  split; · exact hc
  split; · exact n1
  split; · exact hx n1 hc
  split; · exact hand ha hb
  split; · exact hor ha hb
  split; · exact hx ha hb
  exact hx (hx ha hb) hc
theorem dcar_bit {x : Str} {a b c : Int} (ha : Bit a) (hb : Bit b) (hc : Bit c) : Bit (dcar x a b c) := by
  unfold dcar
  split
  · rcases ha with rfl | rfl <;> rcases hc with rfl | rfl <;> decide
  split; · exact ha
  split
  · rcases ha with rfl | rfl <;> rcases hb with rfl | rfl <;> rcases hc with rfl | rfl <;> decide
  split
  · rcases ha with rfl | rfl <;> rcases hb with rfl | rfl <;> rcases hc with rfl | rfl <;> decide
  exact bit0
theorem argAt_bit {told : List Int} (h : ∀ x ∈ told, Bit x) (d : Deed) (j : Nat) : Bit (argAt d told j) := by
  unfold argAt
  rw [List.getD_eq_getElem?_getD]
  cases e : told[(d.2.getD j 0).toNat]? with
  | none => exact bit0
  | some y => exact h y (List.mem_of_getElem? e)
theorem bts_next : ∀ {ds : List Deed} {cs t : List Int} {i : Nat} {d : Deed} {c : Int}, ds[i]? = some d → cs[i]? = some c → bts (ds.take (i + 1)) (cs.take (i + 1)) t = bts (ds.take i) (cs.take i) t ++ [dbitAt d c (bts (ds.take i) (cs.take i) t)]
  | [], _, _, _, _, _, h, _ => by simp at h
  | _ :: _, [], _, _, _, _, _, h => by simp at h
  | e :: ds, g :: cs, t, 0, d, c, h, k => by
    simp only [List.getElem?_cons_zero, Option.some.injEq] at h k
    subst h k
    rfl
  | e :: ds, g :: cs, t, i + 1, d, c, h, k => by
    simp only [List.getElem?_cons_succ] at h k
    exact bts_next (t := t ++ [dbitAt e g t]) h k
theorem bts_len : ∀ {ds : List Deed} {cs t : List Int}, ds.length = cs.length → (bts ds cs t).length = t.length + ds.length
  | [], [], _, _ => rfl
  | [], _ :: _, _, h => by simp at h
  | _ :: _, [], _, h => by simp at h
  | d :: ds, c :: cs, t, h => by
    show (bts ds cs (t ++ [dbitAt d c t])).length = _
    rw [bts_len (by simpa using h), List.length_append, List.length_cons, List.length_cons, List.length_nil]
    omega
theorem bts_bits : ∀ {ds : List Deed} {cs t : List Int}, (∀ x ∈ t, Bit x) → (∀ x ∈ cs, Bit x) → ∀ x ∈ bts ds cs t, Bit x
  | [], cs, t, h, _ => by
    unfold bts
    exact h
  | _ :: _, [], t, h, _ => by
    unfold bts
    exact h
  | d :: ds, c :: cs, t, h, k => by
    refine bts_bits (ds := ds) (cs := cs) (t := t ++ [dbitAt d c t]) (fun x hx => ?_) fun x hx => k x (List.mem_cons_of_mem _ hx)
    rcases List.mem_append.mp hx with hx | hx
    · exact h x hx
    · rw [List.mem_singleton.mp hx]
      exact dbit_bit (argAt_bit h d 0) (argAt_bit h d 1) (k c List.mem_cons_self)
theorem nxt_len {ds : List Deed} {cs t : List Int} (h : ds.length = cs.length) : (nxt ds cs t).length = ds.length := by
  unfold nxt
  rw [List.length_zipWith]
  omega
theorem nxt_bits {ds : List Deed} {cs t : List Int} (h : ∀ x ∈ t, Bit x) (k : ∀ x ∈ cs, Bit x) : ∀ x ∈ nxt ds cs t, Bit x := by
  intro x hx
  unfold nxt at hx
  obtain ⟨i, hi⟩ := List.mem_iff_getElem?.mp hx
  rw [List.getElem?_zipWith] at hi
  cases e1 : ds[i]? with
  | none => rw [e1] at hi; simp at hi
  | some d =>
    cases e2 : cs[i]? with
    | none => rw [e1, e2] at hi; simp at hi
    | some c =>
      rw [e1, e2] at hi
      have := Option.some.inj hi
      rw [← this]
      exact dcar_bit (argAt_bit h d 0) (argAt_bit h d 1) (k c (List.mem_of_getElem? e2))
theorem nxt_next {ds : List Deed} {cs t : List Int} {i : Nat} {d : Deed} {c : Int} (h : ds[i]? = some d) (k : cs[i]? = some c) : (nxt ds cs t).take (i + 1) = (nxt ds cs t).take i ++ [dcarAt d c t] := by
  rw [List.take_add_one]
  unfold nxt
  rw [List.getElem?_zipWith, h, k]
  rfl
section
variable {K : PySem.W.Frag} {a b : Addr} {xs ys : List V}
theorem walk_zipT (hn : xs.length = ys.length) : Walk (RZ.ItzT K a b) xs.length (fun H => SqT K H a xs ∧ SqT K H b ys) (YPair (fun i => xs[i]?) (fun i => ys[i]?)) where
  goes := fun i H hi q => ⟨xs, ys, xs[i], ys[i]'(by omega), q.1, q.2, List.getElem?_eq_getElem hi, List.getElem?_eq_getElem (by omega)⟩
  stops := fun H q => ⟨xs, ys, q.1, q.2, .inl (Nat.le_refl _)⟩
  yields := fun i H v H2 hi q y => by
    obtain ⟨T, x, z, h1, h2, h3, h4, h5⟩ := y
    exact ⟨T, x, z, h1, h2, h3, h4 xs q.1, h5 ys q.2⟩
end
/-! ### own exceptions as values -/
section
variable {X : Cx} {K : PySem.W.Frag}
theorem kit_ref {D C : Addr} {b : Bool} (h1 : PySem.W.isClsIn K C = true) (h2 : PySem.W.typeIn K (.ref C) = some (.type "type")) (h3 : PySem.W.subIn K (.ref D) (.ref C) = some b) (h4 : PySem.W.subIn K (.ref C) (.ref C) = some true) : PySem.W.kitOne K (.ref D) (.ref C) = some b := by
  unfold PySem.W.kitOne
  by_cases e : D = C
  · subst e
    rw [h3] at h4
    rw [if_pos (by simp), h4]
  · rw [if_neg (by simpa using e)]
    have e1 : ((PySem.W.clsIn K C).isSome && PySem.W.typeIn K (.ref C) == some (.type "type")) = true := by
      have h1' : (PySem.W.clsIn K C).isSome = true := h1
      rw [h1', h2]
      rfl
    show (if ((PySem.W.clsIn K C).isSome && PySem.W.typeIn K (.ref C) == some (.type "type")) = true then PySem.W.subIn K (.ref D) (.ref C) else none) = some b
    rw [if_pos e1]
    exact h3
theorem kit_ve {D : Addr} {b : Bool} (h : PySem.W.subIn K (.ref D) (.type "ValueError") = some b) : PySem.W.kitOne K (.ref D) (.type "ValueError") = some b := by
  have e1 : PySem.W.kitMeta "ValueError" = true := by decide +kernel
  show (if PySem.W.kitMeta "ValueError" = true then PySem.W.subIn K (.ref D) (.type "ValueError") else none) = some b
  rw [if_pos e1]
  exact h
def rIsX (K : PySem.W.Frag) : List V → Hp → VK → Prop := fun xs H Q => ∃ (a D : Addr) (c : V) (cv : Value) (b : Bool), xs = [.ref a, c] ∧ H a = some (ExO (.ref D) a) ∧ ExcC K D ∧ ClsV c cv ∧ PySem.W.kitOne K (.ref D) cv = some b ∧ Q (.bl b) H
theorem call_isX : CallR X (.builtin "isinstance") (rIsX X.K) := by
  intro pins s σ H xs us Q I r h
  obtain ⟨a, D, c, cv, b, rfl, ha, hD, hc, hk, q⟩ := h
  match us, r with
  | [u1, u2], .cons r1 (.cons r2 .nil) =>
    obtain rfl : u1 = Value.ref a := r1
    obtain rfl := ClsV.eq hc r2
    obtain ⟨⟨oe, vs, hget, ⟨z1, z2⟩, hv, _⟩, _, _⟩ := I.hok a _ ha
    have J : PySem.W.InstAt s.heap a oe D none := by
      obtain ⟨oc, od, oda, osl⟩ := oe
      dsimp only at z1 z2 hv
      subst z1 z2 hv
      exact ⟨hget, rfl, rfl, trivial⟩
    exact PySem.W.kia_one (PySem.W.handS_kitx_exc hD.hg hD.hk hD.hs hD.hd hD.ha hD.hn hD.ht hD.hm) I.kIn J hk (fun z => nomatch z) fun tk => ⟨.bl b, H, I.kept (t' := tk) fun _ _ z => z, rfl, q⟩
end
theorem dp_bls {K : PySem.W.Frag} {H : Hp} : ∀ cs : List Bool, DpAll K H (cs.map V.bl) (cs.map PyData.bool)
  | [] => .nil
  | c :: cs => .cons (.bl c) (dp_bls cs)
theorem lay_bls : ∀ cs : List Bool, PyData.canLayAll0 (cs.map PyData.bool) = true ∧ PyData.depthAll (cs.map PyData.bool) = 0
  | [] => ⟨by simp only [List.map_nil, PyData.canLayAll0], by simp only [List.map_nil, PyData.depthAll]⟩
  | c :: cs => by
    obtain ⟨h1, h2⟩ := lay_bls cs
    exact ⟨by simp only [List.map_cons, PyData.canLayAll0, PyData.canLay0, h1, Bool.and_self], by simp only [List.map_cons, PyData.depthAll, PyData.depth, h2, Nat.max_self]⟩
theorem shaped_bls (cs : List Bool) : SeqAt.shaped (.list (cs.map PyData.bool)) = true := by
  obtain ⟨h1, h2⟩ := lay_bls cs
  simp only [SeqAt.shaped, PyData.canLay0, PyData.depth, h1, h2, Bool.true_and]
  decide
theorem eqv_bls (l : List Bool) : PyData.eqv (.list (l.map PyData.bool)) (.list (l.map PyData.bool)) = true := SeqAt.eqv_refl _ (SeqAt.canLay_of_shaped (shaped_bls l))
/-- a test that is never asked -/
def tNevT : TT := fun _ _ _ => False
theorem pt_never {X : Cx} {e : Expr} : PT X e tNevT := ⟨fun _ _ _ _ _ _ h => h.elim⟩
end AW
namespace KK
open PySem PySem.Spec PyProof.Rows L2 AW
def topS (i : Nat) : Stmt := PySem.Challenge.pw_anywide_k06_refusals_made.main.body.getD i (.Pass ⟨0, 0, 0, 0⟩)
abbrev s_is_whole : Stmt := topS 4
abbrev N_is_whole : List Str := ["thing"]
theorem sc_is_whole : FnScope N_is_whole ["thing"] (defScope s_is_whole) := ⟨rfl, rfl, rfl, by decide +kernel, rfl, by decide +kernel, by decide +kernel⟩
abbrev s_is_number_below : Stmt := topS 5
abbrev N_is_number_below : List Str := ["thing", "many"]
theorem sc_is_number_below : FnScope N_is_number_below ["thing", "many"] (defScope s_is_number_below) := ⟨rfl, rfl, rfl, by decide +kernel, rfl, by decide +kernel, by decide +kernel⟩
abbrev s_is_deed : Stmt := topS 6
abbrev N_is_deed : List Str := ["thing", "ahead", "word", "numbers", "number"]
theorem sc_is_deed : FnScope N_is_deed ["thing", "ahead"] (defScope s_is_deed) := ⟨rfl, rfl, rfl, by decide +kernel, rfl, by decide +kernel, by decide +kernel⟩
abbrev s_are_deeds : Stmt := topS 7
abbrev N_are_deeds : List Str := ["thing", "many", "at", "deed"]
theorem sc_are_deeds : FnScope N_are_deeds ["thing", "many"] (defScope s_are_deeds) := ⟨rfl, rfl, rfl, by decide +kernel, rfl, by decide +kernel, by decide +kernel⟩
abbrev s_is_row : Stmt := topS 8
abbrev N_is_row : List Str := ["thing", "many", "deeds", "out"]
theorem sc_is_row : FnScope N_is_row ["thing"] (defScope s_is_row) := ⟨rfl, rfl, rfl, by decide +kernel, rfl, by decide +kernel, by decide +kernel⟩
abbrev s_law_well : Stmt := topS 19
abbrev N_law_well : List Str := ["script", "seed", "cell"]
theorem sc_law_well : FnScope N_law_well ["script"] (defScope s_law_well) := ⟨rfl, rfl, rfl, by decide +kernel, rfl, by decide +kernel, by decide +kernel⟩
abbrev s_law_draw : Stmt := topS 20
abbrev N_law_draw : List Str := ["well", "many", "cell", "found"]
theorem sc_law_draw : FnScope N_law_draw ["well", "many"] (defScope s_law_draw) := ⟨rfl, rfl, rfl, by decide +kernel, rfl, by decide +kernel, by decide +kernel⟩
abbrev s_law_kinds : Stmt := topS 21
abbrev N_law_kinds : List Str := ["one", "found"]
theorem sc_law_kinds : FnScope N_law_kinds ["one"] (defScope s_law_kinds) := ⟨rfl, rfl, rfl, by decide +kernel, rfl, by decide +kernel, by decide +kernel⟩
abbrev s_law : Stmt := topS 22
abbrev N_law : List Str := ["script", "well", "text", "some", "at", "one", "k"]
theorem sc_law : FnScope N_law ["script"] (defScope s_law) := ⟨rfl, rfl, rfl, by decide +kernel, rfl, by decide +kernel, by decide +kernel⟩
section
variable {P : Program} {w : World} {K : PySem.W.Frag} {mg : Str → Option Value} {base : Heap}
def spWell (K : PySem.W.Frag) : Sp := fun vs H Q _ => ∃ (a : Addr) (ns : List Int), vs = [.ref a] ∧ SqL K H a (ns.map V.int) ∧ ns.length ≤ 63 ∧ (∀ z ∈ ns, Builtin.Int.intBits z ≤ 1048576) ∧
  ∀ H' p c, Same H H' → H p = none → H c = none → WL H' p c → Q (.ref p) H'
theorem ok_well {f : Addr} {fd : FuncData} {k : Nat} (F : Fun K "_law_well" "_law_well" s_law_well f fd) (ma : mg "abs" = none) : FnOk P w K mg base CX0 (k + 1) f fd ["script"] (spWell K) := by
  refine F.ok sc_law_well (fun vs H Q E h => ?_) (fun cdv A outer s H vs Q E hr h => ?_)
  · obtain ⟨a, ns, rfl, _⟩ := h
    rfl
  · obtain ⟨a, ns, rfl, hS, hlen, hbits, q⟩ := h
    refine ⟨_, pss_cons (ps_set (i := 1) sc_law_well.nd rfl (.inl rfl) pe_int)
      (pss_cons (ps_for PassesOwn.never rfl (pi_list (pv 0)) (pg_name (i := 2) sc_law_well.nd rfl (.inl rfl))
        (pss_one (ps_set (i := 1) sc_law_well.nd rfl (.inl rfl) (pe_op op_add (pe_op op_mod (pe_op op_powW (pe_op op_add (pe_op op_mul (pv 1) pe_int) (pv 2)) pe_int) pe_int) pe_int))))
      (pss_one (ps_ret (pe_lst (pa_cons (pe_lc (own := [("cell", 2)]) (g := gName 2) (by rfl) sc_law_well.nd (pi_list (pv 0)) (blkOk_by (own := [("cell", 2)]) (N := ["script", "seed", "cell"]) (sc := defScope s_law_well) (by decide +kernel))
          (fun _ _ _ _ _ => pg_name (i := 2) sc_law_well.nd rfl (Or.inl rfl)) (fun _ _ _ _ _ => pts_nil)
          (fun _ _ _ _ _ => pe_callB call_abs (by rfl) ma (by decide +kernel) (pa_cons (pv 2) pa_nil))) (pa_cons pe_int (pa_cons (pv 1) pa_nil))))))), ?_⟩
    refine ⟨.ref a, rfl, a, rfl, ⟨_, hS⟩, for_list (K := K) (a := a) (xs := ns.map V.int) (fun i σ H3 => ∃ z y, σ = [some (.ref a), some (.int z), y] ∧ 0 ≤ z ∧ z ≤ 2147483629 ∧ H3 = H) ⟨1, none, rfl, by decide, by decide, rfl⟩ (fun i σ H3 _ hp => ?_) (fun i x σ H3 hx hp => ?_) (fun σ H3 hp => ?_)⟩
    · obtain ⟨z, y, _, _, _, rfl⟩ := hp
      exact hS
    · obtain ⟨z, y, rfl, h0, h1, rfl⟩ := hp
      obtain ⟨c, hc, rfl⟩ : ∃ c, c ∈ ns ∧ x = .int c := by
        rw [List.getElem?_map] at hx
        cases e : ns[i]? with
        | none => rw [e] at hx; cases hx
        | some c => rw [e] at hx; exact ⟨c, List.mem_of_getElem? e, (Option.some.inj hx).symm⟩
      refine ⟨.int z, rfl, z, 50021, rfl, rfl, .inr ⟨by decide, by decide⟩, .int c, rfl, _, _, rfl, rfl, _, 3, rfl, rfl, seed_ok h0 h1 (hbits c hc), _, 2147483629, rfl, rfl, (by show (0 : Int) < 2147483629; decide), _, 1, rfl, rfl, ?_⟩
      refine ⟨_, some (.int c), rfl, ?_, ?_, rfl⟩
      · have := Int.emod_nonneg ((z * 50021 + c) ^ (3 : Int).toNat) (show (2147483629 : Int) ≠ 0 by decide)
        omega
      · have := Int.emod_lt_of_pos ((z * 50021 + c) ^ (3 : Int).toNat) (show (0 : Int) < 2147483629 by decide)
        omega
    · obtain ⟨z, y, rfl, h0, h1, rfl⟩ := hp
      refine ⟨.ref a, rfl, a, rfl, ⟨_, hS⟩, fun D hD => ?_⟩
      have sD : ∀ o, Same H3 (upd H3 D o) := fun o => same_new hD
      refine lc_list (K := K) (a := a) (xs := ns.map V.int) (fun i H4 => ∃ cs : List Int, cs.length = i ∧ H4 = upd H3 D (.lst (cs.map V.int))) ⟨[], rfl, rfl⟩ (fun i H4 _ hp => ?_) (fun i x H4 hx hp => ?_) (fun H4 hp => ?_)
      · obtain ⟨cs, _, rfl⟩ := hp
        exact (sD _).seq hS
      · obtain ⟨cs, hl, rfl⟩ := hp
        obtain ⟨c, hc, rfl⟩ : ∃ c, c ∈ ns ∧ x = .int c := by
          rw [List.getElem?_map] at hx
          cases e : ns[i]? with
          | none => rw [e] at hx; cases hx
          | some c => rw [e] at hx; exact ⟨c, List.mem_of_getElem? e, (Option.some.inj hx).symm⟩
        have hi : i < ns.length := by
          have := (List.getElem?_eq_some_iff.mp hx).1
          rwa [List.length_map] at this
        refine ⟨rfl, .int c, rfl, c, rfl, _, upd_same, ?_, cs ++ [if c < 0 then -c else c], ?_, ?_⟩
        · rw [List.length_map, hl]
          exact small1000 (by omega)
        · rw [List.length_append, hl]
          rfl
        · rw [upd_upd, List.map_append]
          rfl
      · obtain ⟨cs, hl, rfl⟩ := hp
        refine ⟨.int z, rfl, by show 3 ≤ sizeLine; decide, fun p hp => ?_⟩
        have np : p ≠ D := fun e => by
          rw [e, upd_same] at hp
          cases hp
        have hp2 : H3 p = none := by
          rw [upd_ne np] at hp
          exact hp
        refine q _ p D ((sD _).trans (same_new hp)) hp2 hD ⟨np, cs, 0, z, upd_same, ?_⟩
        rw [upd_ne np.symm, upd_same]
def spDraw : Sp := fun vs H Q _ => ∃ (a c : Addr) (m : Int), vs = [.ref a, .int m] ∧ 0 < m ∧ m ≤ 2 ^ 80 ∧ WL H a c ∧ ∀ H' z, 0 ≤ z → z < m → WL H' a c → Kp a c H H' → Q (.int z) H'
theorem ok_draw {f : Addr} {fd : FuncData} {k : Nat} (F : Fun K "_law_draw" "_law_draw" s_law_draw f fd) : FnOk P w K mg base CX0 (k + 1) f fd ["well", "many"] spDraw := by
  refine F.ok sc_law_draw (fun vs H Q E h => ?_) (fun cdv A outer s H vs Q E hr h => ?_)
  · obtain ⟨a, c, m, rfl, _⟩ := h
    rfl
  · obtain ⟨a, c, m, rfl, hm, hm2, hw, q⟩ := h
    refine ⟨_, pss_mid (ps_if (PW.pt (pw_and (pt_cmpR op_eq (pe_ix ix_list (pv 0) pe_int (fun _ _ => rfl)) pe_int (nomark _))
          (pw_and1 (pt_cmpR (op_neD hr.units) (pe_ix ix_list (pv 0) pe_int (fun _ _ => rfl)) (pe_lst pa_nil) (nomark _)))))
        (pss_cons (ps_set (i := 2) sc_law_draw.nd rfl (.inl rfl) (pe_bm PySem.F.plainAttrs_list PySem.F.slot_list_pop PySem.F.type_list_pop mt_popAt (pe_ix ix_list (pv 0) pe_int (fun _ _ => rfl)) (pa_cons pe_int pa_nil)))
        (pss_cons (ps_if (pt_cmpR op_lt (pv 2) (pe_op op_pow pe_int pe_int) (nomark _)) (pss_one (ps_ret (pe_op op_mod (pv 2) (pv 1)))) pss_nil)
        (pss_one (ps_asg (pv 2) (pg_sub (pv 0) pe_int set_list))))) pss_nil)
      (pss_cons (ps_if (pt_cmpR op_gt (pe_ix ix_list (pv 0) pe_int (fun _ _ => rfl)) pe_int (nomark _))
        (pss_cons (ps_set (i := 3) sc_law_draw.nd rfl (.inl rfl) (pe_op op_mod (pe_ix ix_list (pv 0) pe_int (fun _ _ => rfl)) (pv 1)))
        (pss_cons (ps_asg (pe_op op_fdivW (pe_ix ix_list (pv 0) pe_int (fun _ _ => rfl)) (pv 1)) (pg_sub (pv 0) pe_int set_list))
        (pss_one (ps_ret (pv 3))))) pss_nil)
      (pss_cons (ps_asg (pe_op op_mod (pe_op op_add (pe_op op_mul (pe_ix ix_list (pv 0) pe_int (fun _ _ => rfl)) pe_int) pe_int) pe_int) (pg_sub (pv 0) pe_int set_list))
      (pss_one (ps_ret (pe_op op_mod (pe_op op_fdiv (pe_op op_mod (pe_op op_pow (pe_op op_mod (pe_op op_pow (pe_ix ix_list (pv 0) pe_int (fun _ _ => rfl)) pe_int) pe_int) pe_int) pe_int) pe_int) (pv 1)))))), ?_⟩
    refine ⟨fun σ2 H2 => ∃ y, σ2 = [some (.ref a), some (.int m), y, none] ∧ WL H2 a c ∧ Kp a c H H2, ?_, ?_⟩
    · obtain ⟨nac, cs, r, sd, ea, ec⟩ := id hw
      have lA : SqL K H a [.ref c, .int r, .int sd] := .inl (.inl ea)
      refine ⟨.ref a, rfl, a, _, 1, .int r, rfl, rfl, lA, rfl, rfl, _, rfl, ite2 (fun e => ?_) (fun e => ?_)⟩
      · refine ⟨.ref a, rfl, a, _, 0, .ref c, rfl, rfl, lA, rfl, Nat.zero_le _, fun p hp => ?_⟩
        have sp : Same H (upd H p (.lst [])) := same_new hp
        refine ⟨.list (cs.map PyData.int), .list [], .lst (sp.seq (.inl (.inl ec))) (dp_ints cs), .lst (.inl (.inl upd_same)) .nil, shaped_ints cs, by decide +kernel, _, rfl, ?_⟩
        have ec2 : upd H p (.lst []) c = some (.lst (cs.map V.int)) := sp _ _ ec
        have ea2 : upd H p (.lst []) a = some (.lst [.ref c, .int r, .int sd]) := sp _ _ ea
        have lA2 : SqL K (upd H p (.lst [])) a [.ref c, .int r, .int sd] := .inl (.inl ea2)
        cases cs with
        | nil =>
          rw [show PyData.eqv (.list (([] : List Int).map PyData.int)) (.list []) = true by decide +kernel]
          exact ⟨_, rfl, hw.same sp, Same.kp sp⟩
        | cons x cs =>
          rw [show PyData.eqv (.list ((x :: cs).map PyData.int)) (.list []) = false by simp only [List.map_cons, PyData.eqv, PyData.eqvAll]]
          refine ⟨.ref a, rfl, a, _, 0, .ref c, rfl, rfl, lA2, rfl, .inl ⟨rfl, _, .inl (.inl ec2)⟩, c, _, 0, 0, .int x, rfl, rfl, ec2, by decide, by decide, ?_, rfl, ?_⟩
          · rw [List.length_map, List.length_cons]
            exact seq0 _
          have w3 : WL (upd (upd H p (.lst [])) c (.lst (List.eraseIdx ((x :: cs).map V.int) 0))) a c := ⟨nac, cs, r, sd, by rw [upd_ne nac]; exact ea2, upd_same⟩
          have k3 : Kp a c H (upd (upd H p (.lst [])) c (.lst (List.eraseIdx ((x :: cs).map V.int) 0))) := fun b o n1 n2 eb => by
            rw [upd_ne n2]
            exact sp _ _ eb
          refine ⟨.int x, rfl, 10, 18, rfl, rfl, ⟨by decide, by decide, by decide⟩, x, _, rfl, rfl, _, rfl, ite2 (fun e => ?_) (fun e => ?_)⟩
          · exact ⟨.int x, rfl, .int m, rfl, x, m, rfl, rfl, hm, q _ _ (Int.emod_nonneg _ (by omega)) (Int.emod_lt_of_pos _ hm) w3 k3⟩
          · refine ⟨.int x, rfl, .ref a, rfl, a, _, 1, 1, rfl, rfl, by rw [upd_ne nac]; exact ea2, rfl, some (.int x), rfl, ?_, ?_⟩
            · exact ⟨nac, cs, x, sd, upd_same, by rw [upd_ne nac.symm]; exact upd_same⟩
            · intro b o n1 n2 eb
              rw [upd_ne n1]
              exact k3 b o n1 n2 eb
      · exact ⟨_, rfl, hw, Kp.refl a c H⟩
    · rintro σ2 H2 ⟨y, rfl, hw2, kp⟩
      obtain ⟨nac, cs, r, sd, ea, ec⟩ := id hw2
      have lA : SqL K H2 a [.ref c, .int r, .int sd] := .inl (.inl ea)
      refine ⟨.ref a, rfl, a, _, 1, .int r, rfl, rfl, lA, rfl, r, 0, rfl, rfl, _, rfl, ite2 (fun e => ?_) (fun e => ?_)⟩
      · refine ⟨.ref a, rfl, a, _, 1, .int r, rfl, rfl, lA, rfl, .int m, rfl, r, m, rfl, rfl, hm, ?_⟩
        refine ⟨.ref a, rfl, a, _, 1, .int r, rfl, rfl, lA, rfl, .int m, rfl, r, m, rfl, rfl, wide_div (b := 81) hm (by omega) (by decide) (by decide), ?_⟩
        refine ⟨.ref a, rfl, a, _, 1, 1, rfl, rfl, ea, rfl, .int (r % m), rfl, ?_⟩
        refine q _ _ (Int.emod_nonneg _ (by omega)) (Int.emod_lt_of_pos _ hm) ⟨nac, cs, r / m, sd, upd_same, ?_⟩ ?_
        · rw [upd_ne nac.symm]
          exact ec
        · intro b o n1 n2 eb
          rw [upd_ne n1]
          exact kp b o n1 n2 eb
      · refine ⟨.ref a, rfl, a, _, 2, .int sd, rfl, rfl, lA, rfl, sd, 48271, rfl, rfl, .inr ⟨by decide, by decide⟩, _, 12345, rfl, rfl, _, 2147483647, rfl, rfl, (by show (0 : Int) < 2147483647; decide), ?_⟩
        have l0 := Int.emod_nonneg (sd * 48271 + 12345) (show (2147483647 : Int) ≠ 0 by decide)
        have l1 := Int.emod_lt_of_pos (sd * 48271 + 12345) (show (0 : Int) < 2147483647 by decide)
        obtain ⟨z, hz⟩ : ∃ z : Int, (sd * 48271 + 12345) % 2147483647 = z := ⟨_, rfl⟩
        rw [hz] at l0 l1
        refine ⟨.ref a, rfl, a, _, 2, 2, rfl, rfl, ea, rfl, ?_⟩
        have l2 := Int.emod_nonneg (z ^ (3 : Int).toNat) (show (2147483629 : Int) ≠ 0 by decide)
        have l3 := Int.emod_lt_of_pos (z ^ (3 : Int).toNat) (show (0 : Int) < 2147483629 by decide)
        refine ⟨.ref a, rfl, a, _, 2, .int z, rfl, rfl, .inl (.inl upd_same), (by rw [← hz]; rfl), z, 3, rfl, rfl, ⟨by decide, by decide, by omega⟩, _, 2147483629, rfl, rfl, (by show (0 : Int) < 2147483629; decide), ?_⟩
        obtain ⟨x, hx⟩ : ∃ x : Int, z ^ (3 : Int).toNat % 2147483629 = x := ⟨_, rfl⟩
        rw [hx] at l2 l3
        refine ⟨x, 5, congrArg V.int hx, rfl, ⟨by decide, by decide, by omega⟩, _, 1000000007, rfl, rfl, (by show (0 : Int) < 1000000007; decide), _, 7, rfl, rfl, ⟨by decide, by decide⟩, .int m, rfl, _, m, rfl, rfl, hm, ?_⟩
        refine q _ _ (Int.emod_nonneg _ (by omega)) (Int.emod_lt_of_pos _ hm) ⟨nac, cs, r, z, (by rw [← hz]; exact upd_same), ?_⟩ ?_
        · rw [upd_ne nac.symm]
          exact ec
        · intro b o n1 n2 eb
          rw [upd_ne n1]
          exact kp b o n1 n2 eb
/-! ### is_row of a text -/
def spIrS : Sp := fun vs H Q _ => ∃ z : Str, vs = [.str z] ∧ Q (.bl false) H
theorem ok_irS {f : Addr} {fd : FuncData} {k : Nat} (F : Fun K "is_row" "is_row" s_is_row f fd) (mi : mg "isinstance" = none) (mt : mg "tuple" = none) : FnOk P w K mg base CX0 (k + 1) f fd ["thing"] spIrS := by
  refine F.ok sc_is_row (fun vs H Q E h => ?_) (fun cdv A outer s H vs Q E hr h => ?_)
  · obtain ⟨z, rfl, _⟩ := h
    rfl
  · obtain ⟨z, rfl, q⟩ := h
    refine ⟨_, pss_cons (ps_if (PW.pt (pw_or (pt_not (pt_val (pe_callB call_isi (by rfl) mi (by decide +kernel) (pa_cons (pv 0) (pa_cons (pe_bltn (v := .ty "tuple") (by rfl) mt (by decide +kernel) rfl) pa_nil))))) (pw_or1 pt_never))) (pss_one (ps_ret pe_bl)) pss_nil) pss_never, ?_⟩
    exact ⟨.str z, rfl, .str z, .ty "tuple", .type "str", .type "tuple", false, rfl, .ty _, .base (.str _), kit_ty (by decide +kernel), _, rfl, q⟩
/-! ### kinds -/
abbrev KitIs (K : PySem.W.Frag) (D C : Addr) (b : Bool) : Prop := PySem.W.kitOne K (.ref D) (.ref C) = some b
def spKi (K : PySem.W.Frag) (c0 c1 c2 c3 c4 c5 c6 : Addr) : Sp := fun vs H Q _ => ∃ (a D : Addr) (b0 b1 b2 b3 b4 b5 b6 : Bool), vs = [.ref a] ∧ H a = some (ExO (.ref D) a) ∧ ExcC K D ∧ KitIs K D c0 b0 ∧ KitIs K D c1 b1 ∧ KitIs K D c2 b2 ∧ KitIs K D c3 b3 ∧ KitIs K D c4 b4 ∧ KitIs K D c5 b5 ∧ KitIs K D c6 b6 ∧
  ∀ H' p, Same H H' → H' p = some (.lst ([b0, b1, b2, b3, b4, b5, b6].map V.bl)) → Q (.ref p) H'
theorem ok_ki {f c0 c1 c2 c3 c4 c5 c6 : Addr} {fd : FuncData} {k : Nat} (F : Fun K "_law_kinds" "_law_kinds" s_law_kinds f fd) (mi : mg "isinstance" = none)
    (g0 : mg "NoName" = some (.ref c0)) (g1 : mg "NoPair" = some (.ref c1)) (g2 : mg "NoRow" = some (.ref c2)) (g3 : mg "NoRule" = some (.ref c3)) (g4 : mg "NoText" = some (.ref c4)) (g5 : mg "Nothing" = some (.ref c5)) (g6 : mg "TooMany" = some (.ref c6)) :
    FnOk P w K mg base CX0 (k + 1) f fd ["one"] (spKi K c0 c1 c2 c3 c4 c5 c6) := by
  refine F.ok sc_law_kinds (fun vs H Q E h => ?_) (fun cdv A outer s H vs Q E hr h => ?_)
  · obtain ⟨a, D, b0, b1, b2, b3, b4, b5, b6, rfl, _⟩ := h
    rfl
  · obtain ⟨a, D, b0, b1, b2, b3, b4, b5, b6, rfl, ea, hD, k0, k1, k2, k3, k4, k5, k6, q⟩ := h
    refine ⟨_, pss_cons (ps_set (i := 1) sc_law_kinds.nd rfl (.inl rfl) (pe_lst
        (pa_cons (pe_callB call_isX (by rfl) mi (by decide +kernel) (pa_cons (pv 0) (pa_cons (pe_glob (v := .ref c0) (by rfl) g0 rfl) pa_nil)))
        (pa_cons (pe_callB call_isX (by rfl) mi (by decide +kernel) (pa_cons (pv 0) (pa_cons (pe_glob (v := .ref c1) (by rfl) g1 rfl) pa_nil)))
        (pa_cons (pe_callB call_isX (by rfl) mi (by decide +kernel) (pa_cons (pv 0) (pa_cons (pe_glob (v := .ref c2) (by rfl) g2 rfl) pa_nil)))
        (pa_cons (pe_callB call_isX (by rfl) mi (by decide +kernel) (pa_cons (pv 0) (pa_cons (pe_glob (v := .ref c3) (by rfl) g3 rfl) pa_nil))) pa_nil))))))
      (pss_one (ps_ret (pe_op op_cat (pv 1) (pe_lst
        (pa_cons (pe_callB call_isX (by rfl) mi (by decide +kernel) (pa_cons (pv 0) (pa_cons (pe_glob (v := .ref c4) (by rfl) g4 rfl) pa_nil)))
        (pa_cons (pe_callB call_isX (by rfl) mi (by decide +kernel) (pa_cons (pv 0) (pa_cons (pe_glob (v := .ref c5) (by rfl) g5 rfl) pa_nil)))
        (pa_cons (pe_callB call_isX (by rfl) mi (by decide +kernel) (pa_cons (pv 0) (pa_cons (pe_glob (v := .ref c6) (by rfl) g6 rfl) pa_nil))) pa_nil))))))), ?_⟩
    refine ⟨.ref a, rfl, a, D, _, _, b0, rfl, ea, hD, .own c0, k0, .ref a, rfl, a, D, _, _, b1, rfl, ea, hD, .own c1, k1, .ref a, rfl, a, D, _, _, b2, rfl, ea, hD, .own c2, k2, .ref a, rfl, a, D, _, _, b3, rfl, ea, hD, .own c3, k3, by show 4 ≤ sizeLine; decide, fun L hL => ?_⟩
    have sL := same_new (o := .lst [.bl b0, .bl b1, .bl b2, .bl b3]) hL
    have ea2 := sL _ _ ea
    refine ⟨.ref L, rfl, .ref a, rfl, a, D, _, _, b4, rfl, ea2, hD, .own c4, k4, .ref a, rfl, a, D, _, _, b5, rfl, ea2, hD, .own c5, k5, .ref a, rfl, a, D, _, _, b6, rfl, ea2, hD, .own c6, k6, by show 3 ≤ sizeLine; decide, fun M hM => ?_⟩
    have sM := same_new (o := .lst [.bl b4, .bl b5, .bl b6]) hM
    refine ⟨L, M, _, _, rfl, rfl, sM _ _ upd_same, upd_same, by show 7 ≤ sizeLine; decide, fun p hp => ?_⟩
    exact q _ p ((sL.trans sM).trans (same_new hp)) upd_same
/-! ### the law -/
def bsAt (i : Nat) : List Bool := (List.range 7).map fun k => decide (i = k)
theorem law_run {fa fWe fDr fKi fIr cW c0 c1 c2 c3 c4 c5 c6 : Addr} {fd fdWe fdDr fdKi fdIr : FuncData} {s : Shared} {a : Addr} {ns : List Int} {H : Hp} (F : Fun K "law" "law" s_law fa fd) (bL : Binds K fd ["script"] [])
    (GW : FnOk P w K mg base CX0 1 fWe fdWe ["script"] (spWell K)) (kW : PySem.W.keepIn K (.ref fWe) = true) (bW : Binds K fdWe ["script"] []) (gW : mg "_law_well" = some (.ref fWe))
    (GD : FnOk P w K mg base CX0 1 fDr fdDr ["well", "many"] spDraw) (kD : PySem.W.keepIn K (.ref fDr) = true) (bD : Binds K fdDr ["well", "many"] []) (gD : mg "_law_draw" = some (.ref fDr))
    (GK : FnOk P w K mg base CX0 1 fKi fdKi ["one"] (spKi K c0 c1 c2 c3 c4 c5 c6)) (kK : PySem.W.keepIn K (.ref fKi) = true) (bK : Binds K fdKi ["one"] []) (gK : mg "_law_kinds" = some (.ref fKi))
    (GI : FnOk P w K mg base CX0 1 fIr fdIr ["thing"] spIrS) (kI : PySem.W.keepIn K (.ref fIr) = true) (bI : Binds K fdIr ["thing"] []) (gI : mg "is_row" = some (.ref fIr))
    (g0 : mg "NoName" = some (.ref c0)) (g1 : mg "NoPair" = some (.ref c1)) (g2 : mg "NoRow" = some (.ref c2)) (g3 : mg "NoRule" = some (.ref c3)) (g4 : mg "NoText" = some (.ref c4)) (g5 : mg "Nothing" = some (.ref c5)) (g6 : mg "TooMany" = some (.ref c6)) (gE : mg "WideError" = some (.ref cW))
    (x0 : PySem.W.excIn K c0 [.type "ValueError", .type "Exception", .type "BaseException", .type "object"] "ValueError.__new__" = true) (x1 : PySem.W.excIn K c1 [.type "ValueError", .type "Exception", .type "BaseException", .type "object"] "ValueError.__new__" = true)
    (x2 : PySem.W.excIn K c2 [.type "ValueError", .type "Exception", .type "BaseException", .type "object"] "ValueError.__new__" = true) (x3 : PySem.W.excIn K c3 [.type "ValueError", .type "Exception", .type "BaseException", .type "object"] "ValueError.__new__" = true)
    (x4 : PySem.W.excIn K c4 [.type "ValueError", .type "Exception", .type "BaseException", .type "object"] "ValueError.__new__" = true) (x5 : PySem.W.excIn K c5 [.type "ValueError", .type "Exception", .type "BaseException", .type "object"] "ValueError.__new__" = true)
    (x6 : PySem.W.excIn K c6 [.type "ValueError", .type "Exception", .type "BaseException", .type "object"] "ValueError.__new__" = true) (xE : PySem.W.excIn K cW [.type "ValueError", .type "Exception", .type "BaseException", .type "object"] "ValueError.__new__" = true)
    (k0 : PySem.W.keepIn K (.ref c0) = true) (k1 : PySem.W.keepIn K (.ref c1) = true) (k2 : PySem.W.keepIn K (.ref c2) = true) (k3 : PySem.W.keepIn K (.ref c3) = true) (k4 : PySem.W.keepIn K (.ref c4) = true) (k5 : PySem.W.keepIn K (.ref c5) = true) (k6 : PySem.W.keepIn K (.ref c6) = true) (kE : PySem.W.keepIn K (.ref cW) = true)
    (each : ∀ (i : Nat) (D : Addr), [c0, c1, c2, c3, c4, c5, c6][i]? = some D → ExcC K D ∧ KitIs K D cW true ∧ PySem.W.kitOne K (.ref D) (.type "ValueError") = some true ∧ KitIs K D c0 (decide (i = 0)) ∧ KitIs K D c1 (decide (i = 1)) ∧ KitIs K D c2 (decide (i = 2)) ∧ KitIs K D c3 (decide (i = 3)) ∧ KitIs K D c4 (decide (i = 4)) ∧ KitIs K D c5 (decide (i = 5)) ∧ KitIs K D c6 (decide (i = 6)))
    (wide : ExcC K cW ∧ PySem.W.kitOne K (.ref cW) (.type "ValueError") = some true ∧ KitIs K cW c0 false ∧ KitIs K cW c1 false ∧ KitIs K cW c2 false ∧ KitIs K cW c3 false ∧ KitIs K cW c4 false ∧ KitIs K cW c5 false ∧ KitIs K cW c6 false)
    (mr : mg "range" = none) (me : mg "enumerate" = none) (mi : mg "isinstance" = none) (mv : mg "ValueError" = none) (hlen : ns.length ≤ 63) (hbits : ∀ z ∈ ns, Builtin.Int.intBits z ≤ 1048576) (e0 : Env0 P w K mg base callerA [] s H) (hS : SqL K H a (ns.map V.int)) :
    codeAny (model P w) callerA (.call (.ref fa) ⟨[.ref a], []⟩) (CR CX0 [] P w H s (fun v _ => v = .bl true) E0) s := by
  refine fn_at (k := 4) (us := [.ref a]) (vs := [.ref a]) F sc_law ⟨rfl, by decide, by decide⟩ e0 ?_ (.cons rfl .nil) rfl (fun cdv => ?_)
  · have := bL s [.ref a] (e0.mod.kin.keeps fun b o e => (e0.bs b o e).1) rfl
    simpa using this
  have hr : Room 4 (callerA.deeper (envOfC "law" (defScope s_law) s.heap.objs.size fa cdv)) := Room.deeper (k := 4) ⟨rfl, by decide, by decide⟩ _
  have R1 := hr.mono (show 1 ≤ 4 by decide)
  refine ⟨_, pss_cons (ps_set (i := 1) sc_law.nd rfl (.inr rfl) (pe_call GW R1 (by rfl) gW kW bW .nil pass0 (pa_cons (pv 0) pa_nil)))
    (pss_cons (ps_set (i := 2) sc_law.nd rfl (.inl rfl) (pe_join pe_str
      (pe_lc (own := [("k", 6)]) (g := gName 6) (by rfl) sc_law.nd (pi_range1 (by rfl) mr (pa_cons (pe_call GD R1 (by rfl) gD kD bD .nil pass0 (pa_cons (pv 1) (pa_cons pe_int pa_nil))) pa_nil)) (blkOk_by (own := [("k", 6)]) (N := N_law) (sc := defScope s_law) (by decide +kernel)) (fun _ _ _ _ _ => pg_name (i := 6) sc_law.nd rfl (Or.inl rfl)) (fun _ _ _ _ _ => pts_nil)
        (fun _ _ _ _ _ => pe_ix ix_str pe_str (pe_call GD R1 (by rfl) gD kD bD .nil pass0 (pa_cons (pv 1) (pa_cons pe_int pa_nil))) (fun _ _ => rfl)))))
    (pss_cons (ps_set (i := 3) sc_law.nd rfl (.inl rfl) (pe_lst (pa_cons (pe_exc1 PySem.F.excBase_ValueError x0 g0 k0 (by rfl) (pv 2)) (pa_cons (pe_exc1 PySem.F.excBase_ValueError x1 g1 k1 (by rfl) (pv 2)) (pa_cons (pe_exc1 PySem.F.excBase_ValueError x2 g2 k2 (by rfl) (pv 2)) (pa_cons (pe_exc1 PySem.F.excBase_ValueError x3 g3 k3 (by rfl) (pv 2)) (pa_cons (pe_exc1 PySem.F.excBase_ValueError x4 g4 k4 (by rfl) (pv 2)) (pa_cons (pe_exc1 PySem.F.excBase_ValueError x5 g5 k5 (by rfl) (pv 2)) (pa_cons (pe_exc1 PySem.F.excBase_ValueError x6 g6 k6 (by rfl) (pv 2)) pa_nil)))))))))
    (pss_cons (ps_for PassesOwn.never rfl (pi_enum (by rfl) me (pa_cons (pv 3) pa_nil)) (pg_tup rfl (pgs_cons (pg_name (i := 4) sc_law.nd rfl (.inr rfl)) (pgs_cons (pg_name (i := 5) sc_law.nd rfl (.inl rfl)) pgs_nil)))
      (pss_cons (ps_if (PW.pt (pw_or (pt_cmpR (op_neD hr.units) (pe_call GK R1 (by rfl) gK kK bK .nil pass0 (pa_cons (pv 5) pa_nil)) (pe_lc (own := [("k", 6)]) (g := gName 6) (by rfl) sc_law.nd (pi_range1 (by rfl) mr (pa_cons pe_int pa_nil)) (blkOk_by (own := [("k", 6)]) (N := N_law) (sc := defScope s_law) (by decide +kernel)) (fun _ _ _ _ _ => pg_name (i := 6) sc_law.nd rfl (Or.inl rfl)) (fun _ _ _ _ _ => pts_nil) (fun _ _ _ _ _ => pe_cmpR op_eq (pv 4) (pv 6) (nomark _))) (nomark _))
          (pw_or1 (pt_not (pt_val (pe_callB call_isX (by rfl) mi (by decide +kernel) (pa_cons (pv 5) (pa_cons (pe_glob (v := .ref cW) (by rfl) gE rfl) pa_nil)))))))) (pss_one (ps_ret pe_bl)) pss_nil)
      (pss_one (ps_if (pt_not (pt_val (pe_callB call_isX (by rfl) mi (by decide +kernel) (pa_cons (pv 5) (pa_cons (pe_bltn (v := .ty "ValueError") (by rfl) mv (by decide +kernel) rfl) pa_nil))))) (pss_one (ps_ret pe_bl)) pss_nil))))
    (pss_cons (ps_if (pt_cmpR op_isnot_bl (pe_call GI R1 (by rfl) gI kI bI .nil pass0 (pa_cons (pv 2) pa_nil)) pe_bl (nomark _)) (pss_one (ps_ret pe_bl)) pss_nil)
    (pss_cons (ps_set (i := 5) sc_law.nd rfl (.inl rfl) (pe_exc1 PySem.F.excBase_ValueError xE gE kE (by rfl) (pv 2)))
    (pss_one (ps_ret (pe_and (pe_callB call_isX (by rfl) mi (by decide +kernel) (pa_cons (pv 5) (pa_cons (pe_bltn (v := .ty "ValueError") (by rfl) mv (by decide +kernel) rfl) pa_nil))) (pe_one (pe_cmpR (op_eqD hr.units) (pe_call GK R1 (by rfl) gK kK bK .nil pass0 (pa_cons (pv 5) pa_nil)) (pe_op op_rep (pe_lst (pa_cons pe_bl pa_nil)) pe_int) (nomark _))))))))))), ?_⟩
  refine ⟨.ref a, rfl, a, ns, rfl, hS, hlen, hbits, fun H1 p c s1 hp hc w1 => ?_⟩
  refine ⟨⟨_, rfl⟩, .ref p, rfl, p, c, 11, rfl, by decide, by decide, w1, fun H2 z z0 z1 w2 kk2 => ?_⟩
  refine ⟨z, rfl, by omega, by omega, fun L hL => ?_⟩
  obtain ⟨nL1, nL2⟩ := w2.ne_new hL
  refine lc_range (lo := 0) (n := z.toNat) (fun i H3 => ∃ ys : List Str, ys.length = i ∧ (∀ y ∈ ys, y.length = 1) ∧ H3 L = some (.lst (ys.map V.str)) ∧ WL H3 p c) ⟨[], rfl, (fun _ z => nomatch z), upd_same, w2.upd nL1 nL2⟩ (fun i H3 hi hp => ?_) (fun H3 hp => ?_)
  · obtain ⟨ys, hyl, hy1, eL, w3⟩ := hp
    refine ⟨rfl, .ref p, rfl, p, c, 10, rfl, by decide, by decide, w3, fun H4 y y0 y1 w4 kk4 => ?_⟩
    obtain ⟨ch, hch, _⟩ := atI_in (l := (PySem.Str.ofString "az09 ~=!-;").cps.toList) y0 (by rw [show (PySem.Str.ofString "az09 ~=!-;").cps.toList.length = 10 by decide +kernel]; exact y1)
    refine ⟨_, y, ch, rfl, rfl, by decide +kernel, hch, _, kk4 _ _ nL1 nL2 eL, by rw [List.length_map]; exact small1000 (by omega), ys ++ [⟨#[ch]⟩], by rw [List.length_append, hyl]; rfl, fun q hq => ?_, ?_, w4.upd nL1 nL2⟩
    · rcases List.mem_append.mp hq with hq | hq
      · exact hy1 q hq
      · rw [List.mem_singleton.mp hq]
        rfl
    · rw [upd_same, List.map_append]
      rfl
  obtain ⟨ys, hyl, hy1, eL, w3⟩ := hp
  have sumb : (ys.map (·.length)).sum = ys.length := by
    clear hyl eL
    induction ys with
    | nil => rfl
    | cons y ys ih =>
      rw [List.map_cons, List.sum_cons, ih fun q hq => hy1 q (List.mem_cons_of_mem _ hq), hy1 y List.mem_cons_self, List.length_cons]
      omega
  refine ⟨_, L, ys, rfl, rfl, .inl (.inl (.inl eL)), ?_, ?_⟩
  · rw [sumb, show (PySem.Str.ofString "").length = 0 by decide +kernel]
    omega
  generalize Txt.join (PySem.Str.ofString "") ys = text
  refine ⟨.str text, rfl, fun a0 h0 => ⟨.str text, rfl, fun a1 h1 => ⟨.str text, rfl, fun a2 h2 => ⟨.str text, rfl, fun a3 h3 => ⟨.str text, rfl, fun a4 h4 => ⟨.str text, rfl, fun a5 h5 => ⟨.str text, rfl, fun a6 h6 => ?_⟩⟩⟩⟩⟩⟩⟩
  refine ⟨by show 7 ≤ sizeLine; decide, fun So hSo => ?_⟩
  have S0 := same_new (o := ExO (.ref c0) a0) h0
  have S1 := same_new (o := ExO (.ref c1) a1) h1
  have S2 := same_new (o := ExO (.ref c2) a2) h2
  have S3 := same_new (o := ExO (.ref c3) a3) h3
  have S4 := same_new (o := ExO (.ref c4) a4) h4
  have S5 := same_new (o := ExO (.ref c5) a5) h5
  have S6 := same_new (o := ExO (.ref c6) a6) h6
  have SS := same_new (o := .lst [.ref a0, .ref a1, .ref a2, .ref a3, .ref a4, .ref a5, .ref a6]) hSo
  have E0 := SS _ _ (S6 _ _ (S5 _ _ (S4 _ _ (S3 _ _ (S2 _ _ (S1 _ _ (upd_same (H := H3) (a := a0) (o := ExO (.ref c0) a0))))))))
  have E1 := SS _ _ (S6 _ _ (S5 _ _ (S4 _ _ (S3 _ _ (S2 _ _ (upd_same (a := a1) (o := ExO (.ref c1) a1)))))))
  have E2 := SS _ _ (S6 _ _ (S5 _ _ (S4 _ _ (S3 _ _ (upd_same (a := a2) (o := ExO (.ref c2) a2))))))
  have E3 := SS _ _ (S6 _ _ (S5 _ _ (S4 _ _ (upd_same (a := a3) (o := ExO (.ref c3) a3)))))
  have E4 := SS _ _ (S6 _ _ (S5 _ _ (upd_same (a := a4) (o := ExO (.ref c4) a4))))
  have E5 := SS _ _ (S6 _ _ (upd_same (a := a5) (o := ExO (.ref c5) a5)))
  have E6 := SS _ _ (upd_same (a := a6) (o := ExO (.ref c6) a6))
  have ESo : ∀ G : Hp, upd G So (.lst [.ref a0, .ref a1, .ref a2, .ref a3, .ref a4, .ref a5, .ref a6]) So = some (.lst [.ref a0, .ref a1, .ref a2, .ref a3, .ref a4, .ref a5, .ref a6]) := fun G => upd_same
  obtain ⟨H4, hH4⟩ : ∃ H4, H4 = upd (upd (upd (upd (upd (upd (upd (upd H3 a0 (ExO (.ref c0) a0)) a1 (ExO (.ref c1) a1)) a2 (ExO (.ref c2) a2)) a3 (ExO (.ref c3) a3)) a4 (ExO (.ref c4) a4)) a5 (ExO (.ref c5) a5)) a6 (ExO (.ref c6) a6)) So (.lst [.ref a0, .ref a1, .ref a2, .ref a3, .ref a4, .ref a5, .ref a6]) := ⟨_, rfl⟩
  have ESo' := ESo (upd (upd (upd (upd (upd (upd (upd H3 a0 (ExO (.ref c0) a0)) a1 (ExO (.ref c1) a1)) a2 (ExO (.ref c2) a2)) a3 (ExO (.ref c3) a3)) a4 (ExO (.ref c4) a4)) a5 (ExO (.ref c5) a5)) a6 (ExO (.ref c6) a6))
  rw [← hH4] at E0 E1 E2 E3 E4 E5 E6 ESo' ⊢
  have exc : ∀ (i : Nat) (x : V), [V.ref a0, .ref a1, .ref a2, .ref a3, .ref a4, .ref a5, .ref a6][i]? = some x → ∃ ai D, x = .ref ai ∧ H4 ai = some (ExO (.ref D) ai) ∧ [c0, c1, c2, c3, c4, c5, c6][i]? = some D := by
    intro i x hx
    have hi : i < 7 := (List.getElem?_eq_some_iff.mp hx).1
    have : i = 0 ∨ i = 1 ∨ i = 2 ∨ i = 3 ∨ i = 4 ∨ i = 5 ∨ i = 6 := by omega
    rcases this with rfl | rfl | rfl | rfl | rfl | rfl | rfl
    · exact ⟨a0, c0, (Option.some.inj hx).symm, E0, rfl⟩
    · exact ⟨a1, c1, (Option.some.inj hx).symm, E1, rfl⟩
    · exact ⟨a2, c2, (Option.some.inj hx).symm, E2, rfl⟩
    · exact ⟨a3, c3, (Option.some.inj hx).symm, E3, rfl⟩
    · exact ⟨a4, c4, (Option.some.inj hx).symm, E4, rfl⟩
    · exact ⟨a5, c5, (Option.some.inj hx).symm, E5, rfl⟩
    · exact ⟨a6, c6, (Option.some.inj hx).symm, E6, rfl⟩
  refine ⟨.ref So, rfl, So, _, rfl, .inl (.inl ESo'), for_it (walk_enum (K := K) (a := So) (xs := [.ref a0, .ref a1, .ref a2, .ref a3, .ref a4, .ref a5, .ref a6])) (fun i σ H5 => (∃ y4 y5, σ = [some (.ref a), some (.ref p), some (.str text), some (.ref So), y4, y5, none]) ∧ Same H4 H5) ⟨⟨none, none, rfl⟩, Same.refl H4⟩ (fun i σ H5 _ hp => .inl (.inl (hp.2 _ _ ESo'))) (fun i x σ H5 H6 hi hp hy => ?_) (fun σ H5 hp => ?_)⟩
  · obtain ⟨⟨y4, y5, rfl⟩, s5⟩ := hp
    obtain ⟨T, x1, x2, rfl, hT, rfl, g1', g2'⟩ := hy
    obtain rfl := Option.some.inj g1'
    obtain ⟨ai, D, rfl, eai, hDi⟩ := exc i x2 g2'
    obtain ⟨hD, hW, hV, q0, q1, q2, q3, q4, q5, q6⟩ := each i D hDi
    have sT := s5.trans (same_new (o := .tup [.int (i : Nat), .ref ai]) hT)
    have eT := sT _ _ eai
    refine ⟨T, [.int (i : Nat), .ref ai], rfl, .inl (.inl upd_same), rfl, .int (i : Nat), [.ref ai], rfl, .ref ai, [], rfl, rfl, ?_⟩
    refine ⟨.ref ai, rfl, ai, D, _, _, _, _, _, _, _, rfl, eT, hD, q0, q1, q2, q3, q4, q5, q6, fun H7 M s7 eM => ?_⟩
    refine ⟨7, rfl, by decide, by decide, fun N hN => ?_⟩
    refine lc_range (lo := 0) (n := 7) (fun j H8 => H8 N = some (.lst (((bsAt i).take j).map V.bl)) ∧ Same H7 H8) ⟨upd_same, same_new hN⟩ (fun j H8 hj hp => ?_) (fun H8 hp => ?_)
    · obtain ⟨eN, s8⟩ := hp
      refine ⟨rfl, .int (i : Nat), rfl, .int (0 + j), rfl, rfl, _, eN, ?_, ?_, ?_⟩
      · rw [List.length_map, List.length_take]
        exact small1000 (by omega)
      · rw [upd_same, List.take_add_one]
        have e1 : (bsAt i)[j]? = some (decide (i = j)) := by
          unfold bsAt
          rw [List.getElem?_map, List.getElem?_range hj]
          rfl
        have e2 : decide (V.int (i : Nat) = V.int (0 + j)) = decide (i = j) := by
          by_cases e : i = j
          · subst e
            rw [decide_eq_true rfl]
            exact decide_eq_true (congrArg V.int (by omega))
          · rw [decide_eq_false e]
            exact decide_eq_false fun q => e (by have := V.int.inj q; omega)
        rw [e1, e2, List.map_append]
        rfl
      · intro b v e
        rw [upd_ne (ne_of_none e hN)]
        exact s8 b v e
    · obtain ⟨eN, s8⟩ := hp
      have eN' : H8 N = some (.lst ((bsAt i).map V.bl)) := by
        rw [eN]
        rfl
      have eM' : H8 M = some (.lst ((bsAt i).map V.bl)) := s8 _ _ eM
      refine ⟨_, _, .lst (.inl (.inl eM')) (dp_bls (bsAt i)), .lst (.inl (.inl eN')) (dp_bls (bsAt i)), shaped_bls _, shaped_bls _, _, rfl, ?_⟩
      rw [eqv_bls]
      have e8 := s8 _ _ (s7 _ _ eT)
      refine ⟨.ref ai, rfl, ai, D, _, _, true, rfl, e8, hD, .own cW, hW, _, rfl, ?_⟩
      refine ⟨.ref ai, rfl, ai, D, _, _, true, rfl, e8, hD, .ty _, hV, _, rfl, ?_⟩
      exact ⟨⟨_, _, rfl⟩, (sT.trans s7).trans s8⟩
  · obtain ⟨⟨y4, y5, rfl⟩, s5⟩ := hp
    obtain ⟨hD, hV, q0, q1, q2, q3, q4, q5, q6⟩ := wide
    refine ⟨.str text, rfl, text, rfl, _, _, rfl, rfl, _, rfl, ?_⟩
    refine ⟨.str text, rfl, fun aw haw => ?_⟩
    have sw := same_new (o := ExO (.ref cW) aw) haw
    refine ⟨.ref aw, rfl, aw, cW, _, _, true, rfl, upd_same, hD, .ty _, hV, _, rfl, ?_⟩
    refine ⟨.ref aw, rfl, aw, cW, false, false, false, false, false, false, false, rfl, upd_same, hD, q0, q1, q2, q3, q4, q5, q6, fun H7 M s7 eM => ?_⟩
    refine ⟨by show 1 ≤ sizeLine; decide, fun N hN => ?_⟩
    have sN := same_new (o := .lst [.bl false]) hN
    refine ⟨N, 7, _, rfl, rfl, upd_same, by decide, by decide, by show 7 ≤ sizeLine; decide, fun Q hQ => ?_⟩
    have sQ := same_new (o := .lst (List.replicate (7 : Int).toNat [V.bl false]).flatten) hQ
    refine ⟨.list ((List.replicate 7 false).map PyData.bool), .list ((List.replicate 7 false).map PyData.bool), .lst (.inl (.inl (sQ _ _ (sN _ _ eM)))) (dp_bls (List.replicate 7 false)), .lst (.inl (.inl upd_same)) (dp_bls (List.replicate 7 false)), shaped_bls _, shaped_bls _, ?_⟩
    rw [eqv_bls]
/-! ### what the top has written -/
theorem all_mk {l : PySem.W.OpenLaw} {w : World} {K : PySem.W.Frag} {h : Heap} {mg : Str → Option Value} {fa : Addr} (X : K.In h) (G : h.Ns mainGlobals mg) (hfa : mg "law" = some (.ref fa))
    {f0 : Addr} {od0 an0 : Option Addr} {sl0 : Array (Option Value)} {oc0 kV0 dc0 pm0 cd0 ct0 : Value}
    {f1 : Addr} {od1 an1 : Option Addr} {sl1 : Array (Option Value)} {oc1 kV1 dc1 pm1 cd1 ct1 : Value}
    {f2 : Addr} {od2 an2 : Option Addr} {sl2 : Array (Option Value)} {oc2 kV2 dc2 pm2 cd2 ct2 : Value}
    {f3 : Addr} {od3 an3 : Option Addr} {sl3 : Array (Option Value)} {oc3 kV3 dc3 pm3 cd3 ct3 : Value}
    {f4 : Addr} {od4 an4 : Option Addr} {sl4 : Array (Option Value)} {oc4 kV4 dc4 pm4 cd4 ct4 : Value}
    {f5 : Addr} {od5 an5 : Option Addr} {sl5 : Array (Option Value)} {oc5 kV5 dc5 pm5 cd5 ct5 : Value}
    {f6 : Addr} {od6 an6 : Option Addr} {sl6 : Array (Option Value)} {oc6 kV6 dc6 pm6 cd6 ct6 : Value}
    {f7 : Addr} {od7 an7 : Option Addr} {sl7 : Array (Option Value)} {oc7 kV7 dc7 pm7 cd7 ct7 : Value}
    {f8 : Addr} {od8 an8 : Option Addr} {sl8 : Array (Option Value)} {oc8 kV8 dc8 pm8 cd8 ct8 : Value}
    {cWideError : Addr}
    {cNoRow : Addr}
    {cNoPair : Addr}
    {cNoRule : Addr}
    {cNoName : Addr}
    {cNoText : Addr}
    {cTooMany : Addr}
    {cNothing : Addr}
    (a0 : PySem.W.nsIn K mainGlobals "is_whole" = some (some (.ref f0)))
    (l0 : K.lookup f0 = some ⟨oc0, od0, .func (PySem.W.fnOf "is_whole" "is_whole" (defArgs s_is_whole) (defBody s_is_whole) (defScope s_is_whole) .none kV0 dc0 pm0 an0 cd0 ct0), sl0⟩)
    (c0 : PySem.W.codeIn K cd0 "is_whole" = true) (k0 : PySem.W.keepIn K (.ref f0) = true)
    (a1 : PySem.W.nsIn K mainGlobals "is_number_below" = some (some (.ref f1)))
    (l1 : K.lookup f1 = some ⟨oc1, od1, .func (PySem.W.fnOf "is_number_below" "is_number_below" (defArgs s_is_number_below) (defBody s_is_number_below) (defScope s_is_number_below) .none kV1 dc1 pm1 an1 cd1 ct1), sl1⟩)
    (c1 : PySem.W.codeIn K cd1 "is_number_below" = true) (k1 : PySem.W.keepIn K (.ref f1) = true)
    (a2 : PySem.W.nsIn K mainGlobals "is_deed" = some (some (.ref f2)))
    (l2 : K.lookup f2 = some ⟨oc2, od2, .func (PySem.W.fnOf "is_deed" "is_deed" (defArgs s_is_deed) (defBody s_is_deed) (defScope s_is_deed) .none kV2 dc2 pm2 an2 cd2 ct2), sl2⟩)
    (c2 : PySem.W.codeIn K cd2 "is_deed" = true) (k2 : PySem.W.keepIn K (.ref f2) = true)
    (a3 : PySem.W.nsIn K mainGlobals "are_deeds" = some (some (.ref f3)))
    (l3 : K.lookup f3 = some ⟨oc3, od3, .func (PySem.W.fnOf "are_deeds" "are_deeds" (defArgs s_are_deeds) (defBody s_are_deeds) (defScope s_are_deeds) .none kV3 dc3 pm3 an3 cd3 ct3), sl3⟩)
    (c3 : PySem.W.codeIn K cd3 "are_deeds" = true) (k3 : PySem.W.keepIn K (.ref f3) = true)
    (a4 : PySem.W.nsIn K mainGlobals "is_row" = some (some (.ref f4)))
    (l4 : K.lookup f4 = some ⟨oc4, od4, .func (PySem.W.fnOf "is_row" "is_row" (defArgs s_is_row) (defBody s_is_row) (defScope s_is_row) .none kV4 dc4 pm4 an4 cd4 ct4), sl4⟩)
    (c4 : PySem.W.codeIn K cd4 "is_row" = true) (k4 : PySem.W.keepIn K (.ref f4) = true)
    (a5 : PySem.W.nsIn K mainGlobals "_law_well" = some (some (.ref f5)))
    (l5 : K.lookup f5 = some ⟨oc5, od5, .func (PySem.W.fnOf "_law_well" "_law_well" (defArgs s_law_well) (defBody s_law_well) (defScope s_law_well) .none kV5 dc5 pm5 an5 cd5 ct5), sl5⟩)
    (c5 : PySem.W.codeIn K cd5 "_law_well" = true) (k5 : PySem.W.keepIn K (.ref f5) = true)
    (a6 : PySem.W.nsIn K mainGlobals "_law_draw" = some (some (.ref f6)))
    (l6 : K.lookup f6 = some ⟨oc6, od6, .func (PySem.W.fnOf "_law_draw" "_law_draw" (defArgs s_law_draw) (defBody s_law_draw) (defScope s_law_draw) .none kV6 dc6 pm6 an6 cd6 ct6), sl6⟩)
    (c6 : PySem.W.codeIn K cd6 "_law_draw" = true) (k6 : PySem.W.keepIn K (.ref f6) = true)
    (a7 : PySem.W.nsIn K mainGlobals "_law_kinds" = some (some (.ref f7)))
    (l7 : K.lookup f7 = some ⟨oc7, od7, .func (PySem.W.fnOf "_law_kinds" "_law_kinds" (defArgs s_law_kinds) (defBody s_law_kinds) (defScope s_law_kinds) .none kV7 dc7 pm7 an7 cd7 ct7), sl7⟩)
    (c7 : PySem.W.codeIn K cd7 "_law_kinds" = true) (k7 : PySem.W.keepIn K (.ref f7) = true)
    (a8 : PySem.W.nsIn K mainGlobals "law" = some (some (.ref f8)))
    (l8 : K.lookup f8 = some ⟨oc8, od8, .func (PySem.W.fnOf "law" "law" (defArgs s_law) (defBody s_law) (defScope s_law) .none kV8 dc8 pm8 an8 cd8 ct8), sl8⟩)
    (c8 : PySem.W.codeIn K cd8 "law" = true) (k8 : PySem.W.keepIn K (.ref f8) = true)
    (a_WideError : PySem.W.nsIn K mainGlobals "WideError" = some (some (.ref cWideError)))
    (x_WideError : PySem.W.excIn K cWideError [.type "ValueError", .type "Exception", .type "BaseException", .type "object"] "ValueError.__new__" = true)
    (k_WideError : PySem.W.keepIn K (.ref cWideError) = true)
    (e1_WideError : PySem.W.findIn K (.ref cWideError) "__getattribute__" = some (some (.builtin "BaseException.__getattribute__")))
    (e2_WideError : PySem.W.findIn K (.ref cWideError) "__getattr__" = some none)
    (e3_WideError : PySem.W.subIn K (.ref cWideError) (.type "BaseException") = some true)
    (e4_WideError : PySem.W.hasDictIn K cWideError = true)
    (e5_WideError : PySem.W.findIn K (.ref cWideError) "__class__" = some (some (.builtin "object.__class__")))
    (e6_WideError : PySem.W.specialIn K (.builtin "object.__class__") "__get__" = some (some (.builtin "getset_descriptor.__get__")))
    (e7_WideError : PySem.W.takesIn K (.builtin "object.__class__") = some true)
    (e8_WideError : PySem.W.mroIn K cWideError (.type "object") = some true)
    (e9_WideError : PySem.W.isClsIn K cWideError = true)
    (e10_WideError : PySem.W.typeIn K (.ref cWideError) = some (.type "type"))
    (e11_WideError : PySem.W.subIn K (.ref cWideError) (.type "ValueError") = some true)
    (a_NoRow : PySem.W.nsIn K mainGlobals "NoRow" = some (some (.ref cNoRow)))
    (x_NoRow : PySem.W.excIn K cNoRow [.type "ValueError", .type "Exception", .type "BaseException", .type "object"] "ValueError.__new__" = true)
    (k_NoRow : PySem.W.keepIn K (.ref cNoRow) = true)
    (e1_NoRow : PySem.W.findIn K (.ref cNoRow) "__getattribute__" = some (some (.builtin "BaseException.__getattribute__")))
    (e2_NoRow : PySem.W.findIn K (.ref cNoRow) "__getattr__" = some none)
    (e3_NoRow : PySem.W.subIn K (.ref cNoRow) (.type "BaseException") = some true)
    (e4_NoRow : PySem.W.hasDictIn K cNoRow = true)
    (e5_NoRow : PySem.W.findIn K (.ref cNoRow) "__class__" = some (some (.builtin "object.__class__")))
    (e6_NoRow : PySem.W.specialIn K (.builtin "object.__class__") "__get__" = some (some (.builtin "getset_descriptor.__get__")))
    (e7_NoRow : PySem.W.takesIn K (.builtin "object.__class__") = some true)
    (e8_NoRow : PySem.W.mroIn K cNoRow (.type "object") = some true)
    (e9_NoRow : PySem.W.isClsIn K cNoRow = true)
    (e10_NoRow : PySem.W.typeIn K (.ref cNoRow) = some (.type "type"))
    (e11_NoRow : PySem.W.subIn K (.ref cNoRow) (.type "ValueError") = some true)
    (a_NoPair : PySem.W.nsIn K mainGlobals "NoPair" = some (some (.ref cNoPair)))
    (x_NoPair : PySem.W.excIn K cNoPair [.type "ValueError", .type "Exception", .type "BaseException", .type "object"] "ValueError.__new__" = true)
    (k_NoPair : PySem.W.keepIn K (.ref cNoPair) = true)
    (e1_NoPair : PySem.W.findIn K (.ref cNoPair) "__getattribute__" = some (some (.builtin "BaseException.__getattribute__")))
    (e2_NoPair : PySem.W.findIn K (.ref cNoPair) "__getattr__" = some none)
    (e3_NoPair : PySem.W.subIn K (.ref cNoPair) (.type "BaseException") = some true)
    (e4_NoPair : PySem.W.hasDictIn K cNoPair = true)
    (e5_NoPair : PySem.W.findIn K (.ref cNoPair) "__class__" = some (some (.builtin "object.__class__")))
    (e6_NoPair : PySem.W.specialIn K (.builtin "object.__class__") "__get__" = some (some (.builtin "getset_descriptor.__get__")))
    (e7_NoPair : PySem.W.takesIn K (.builtin "object.__class__") = some true)
    (e8_NoPair : PySem.W.mroIn K cNoPair (.type "object") = some true)
    (e9_NoPair : PySem.W.isClsIn K cNoPair = true)
    (e10_NoPair : PySem.W.typeIn K (.ref cNoPair) = some (.type "type"))
    (e11_NoPair : PySem.W.subIn K (.ref cNoPair) (.type "ValueError") = some true)
    (a_NoRule : PySem.W.nsIn K mainGlobals "NoRule" = some (some (.ref cNoRule)))
    (x_NoRule : PySem.W.excIn K cNoRule [.type "ValueError", .type "Exception", .type "BaseException", .type "object"] "ValueError.__new__" = true)
    (k_NoRule : PySem.W.keepIn K (.ref cNoRule) = true)
    (e1_NoRule : PySem.W.findIn K (.ref cNoRule) "__getattribute__" = some (some (.builtin "BaseException.__getattribute__")))
    (e2_NoRule : PySem.W.findIn K (.ref cNoRule) "__getattr__" = some none)
    (e3_NoRule : PySem.W.subIn K (.ref cNoRule) (.type "BaseException") = some true)
    (e4_NoRule : PySem.W.hasDictIn K cNoRule = true)
    (e5_NoRule : PySem.W.findIn K (.ref cNoRule) "__class__" = some (some (.builtin "object.__class__")))
    (e6_NoRule : PySem.W.specialIn K (.builtin "object.__class__") "__get__" = some (some (.builtin "getset_descriptor.__get__")))
    (e7_NoRule : PySem.W.takesIn K (.builtin "object.__class__") = some true)
    (e8_NoRule : PySem.W.mroIn K cNoRule (.type "object") = some true)
    (e9_NoRule : PySem.W.isClsIn K cNoRule = true)
    (e10_NoRule : PySem.W.typeIn K (.ref cNoRule) = some (.type "type"))
    (e11_NoRule : PySem.W.subIn K (.ref cNoRule) (.type "ValueError") = some true)
    (a_NoName : PySem.W.nsIn K mainGlobals "NoName" = some (some (.ref cNoName)))
    (x_NoName : PySem.W.excIn K cNoName [.type "ValueError", .type "Exception", .type "BaseException", .type "object"] "ValueError.__new__" = true)
    (k_NoName : PySem.W.keepIn K (.ref cNoName) = true)
    (e1_NoName : PySem.W.findIn K (.ref cNoName) "__getattribute__" = some (some (.builtin "BaseException.__getattribute__")))
    (e2_NoName : PySem.W.findIn K (.ref cNoName) "__getattr__" = some none)
    (e3_NoName : PySem.W.subIn K (.ref cNoName) (.type "BaseException") = some true)
    (e4_NoName : PySem.W.hasDictIn K cNoName = true)
    (e5_NoName : PySem.W.findIn K (.ref cNoName) "__class__" = some (some (.builtin "object.__class__")))
    (e6_NoName : PySem.W.specialIn K (.builtin "object.__class__") "__get__" = some (some (.builtin "getset_descriptor.__get__")))
    (e7_NoName : PySem.W.takesIn K (.builtin "object.__class__") = some true)
    (e8_NoName : PySem.W.mroIn K cNoName (.type "object") = some true)
    (e9_NoName : PySem.W.isClsIn K cNoName = true)
    (e10_NoName : PySem.W.typeIn K (.ref cNoName) = some (.type "type"))
    (e11_NoName : PySem.W.subIn K (.ref cNoName) (.type "ValueError") = some true)
    (a_NoText : PySem.W.nsIn K mainGlobals "NoText" = some (some (.ref cNoText)))
    (x_NoText : PySem.W.excIn K cNoText [.type "ValueError", .type "Exception", .type "BaseException", .type "object"] "ValueError.__new__" = true)
    (k_NoText : PySem.W.keepIn K (.ref cNoText) = true)
    (e1_NoText : PySem.W.findIn K (.ref cNoText) "__getattribute__" = some (some (.builtin "BaseException.__getattribute__")))
    (e2_NoText : PySem.W.findIn K (.ref cNoText) "__getattr__" = some none)
    (e3_NoText : PySem.W.subIn K (.ref cNoText) (.type "BaseException") = some true)
    (e4_NoText : PySem.W.hasDictIn K cNoText = true)
    (e5_NoText : PySem.W.findIn K (.ref cNoText) "__class__" = some (some (.builtin "object.__class__")))
    (e6_NoText : PySem.W.specialIn K (.builtin "object.__class__") "__get__" = some (some (.builtin "getset_descriptor.__get__")))
    (e7_NoText : PySem.W.takesIn K (.builtin "object.__class__") = some true)
    (e8_NoText : PySem.W.mroIn K cNoText (.type "object") = some true)
    (e9_NoText : PySem.W.isClsIn K cNoText = true)
    (e10_NoText : PySem.W.typeIn K (.ref cNoText) = some (.type "type"))
    (e11_NoText : PySem.W.subIn K (.ref cNoText) (.type "ValueError") = some true)
    (a_TooMany : PySem.W.nsIn K mainGlobals "TooMany" = some (some (.ref cTooMany)))
    (x_TooMany : PySem.W.excIn K cTooMany [.type "ValueError", .type "Exception", .type "BaseException", .type "object"] "ValueError.__new__" = true)
    (k_TooMany : PySem.W.keepIn K (.ref cTooMany) = true)
    (e1_TooMany : PySem.W.findIn K (.ref cTooMany) "__getattribute__" = some (some (.builtin "BaseException.__getattribute__")))
    (e2_TooMany : PySem.W.findIn K (.ref cTooMany) "__getattr__" = some none)
    (e3_TooMany : PySem.W.subIn K (.ref cTooMany) (.type "BaseException") = some true)
    (e4_TooMany : PySem.W.hasDictIn K cTooMany = true)
    (e5_TooMany : PySem.W.findIn K (.ref cTooMany) "__class__" = some (some (.builtin "object.__class__")))
    (e6_TooMany : PySem.W.specialIn K (.builtin "object.__class__") "__get__" = some (some (.builtin "getset_descriptor.__get__")))
    (e7_TooMany : PySem.W.takesIn K (.builtin "object.__class__") = some true)
    (e8_TooMany : PySem.W.mroIn K cTooMany (.type "object") = some true)
    (e9_TooMany : PySem.W.isClsIn K cTooMany = true)
    (e10_TooMany : PySem.W.typeIn K (.ref cTooMany) = some (.type "type"))
    (e11_TooMany : PySem.W.subIn K (.ref cTooMany) (.type "ValueError") = some true)
    (a_Nothing : PySem.W.nsIn K mainGlobals "Nothing" = some (some (.ref cNothing)))
    (x_Nothing : PySem.W.excIn K cNothing [.type "ValueError", .type "Exception", .type "BaseException", .type "object"] "ValueError.__new__" = true)
    (k_Nothing : PySem.W.keepIn K (.ref cNothing) = true)
    (e1_Nothing : PySem.W.findIn K (.ref cNothing) "__getattribute__" = some (some (.builtin "BaseException.__getattribute__")))
    (e2_Nothing : PySem.W.findIn K (.ref cNothing) "__getattr__" = some none)
    (e3_Nothing : PySem.W.subIn K (.ref cNothing) (.type "BaseException") = some true)
    (e4_Nothing : PySem.W.hasDictIn K cNothing = true)
    (e5_Nothing : PySem.W.findIn K (.ref cNothing) "__class__" = some (some (.builtin "object.__class__")))
    (e6_Nothing : PySem.W.specialIn K (.builtin "object.__class__") "__get__" = some (some (.builtin "getset_descriptor.__get__")))
    (e7_Nothing : PySem.W.takesIn K (.builtin "object.__class__") = some true)
    (e8_Nothing : PySem.W.mroIn K cNothing (.type "object") = some true)
    (e9_Nothing : PySem.W.isClsIn K cNothing = true)
    (e10_Nothing : PySem.W.typeIn K (.ref cNothing) = some (.type "type"))
    (e11_Nothing : PySem.W.subIn K (.ref cNothing) (.type "ValueError") = some true)
    (s_WideError_WideError : PySem.W.subIn K (.ref cWideError) (.ref cWideError) = some true)
    (s_WideError_NoRow : PySem.W.subIn K (.ref cWideError) (.ref cNoRow) = some false)
    (s_WideError_NoPair : PySem.W.subIn K (.ref cWideError) (.ref cNoPair) = some false)
    (s_WideError_NoRule : PySem.W.subIn K (.ref cWideError) (.ref cNoRule) = some false)
    (s_WideError_NoName : PySem.W.subIn K (.ref cWideError) (.ref cNoName) = some false)
    (s_WideError_NoText : PySem.W.subIn K (.ref cWideError) (.ref cNoText) = some false)
    (s_WideError_TooMany : PySem.W.subIn K (.ref cWideError) (.ref cTooMany) = some false)
    (s_WideError_Nothing : PySem.W.subIn K (.ref cWideError) (.ref cNothing) = some false)
    (s_NoRow_WideError : PySem.W.subIn K (.ref cNoRow) (.ref cWideError) = some true)
    (s_NoRow_NoRow : PySem.W.subIn K (.ref cNoRow) (.ref cNoRow) = some true)
    (s_NoRow_NoPair : PySem.W.subIn K (.ref cNoRow) (.ref cNoPair) = some false)
    (s_NoRow_NoRule : PySem.W.subIn K (.ref cNoRow) (.ref cNoRule) = some false)
    (s_NoRow_NoName : PySem.W.subIn K (.ref cNoRow) (.ref cNoName) = some false)
    (s_NoRow_NoText : PySem.W.subIn K (.ref cNoRow) (.ref cNoText) = some false)
    (s_NoRow_TooMany : PySem.W.subIn K (.ref cNoRow) (.ref cTooMany) = some false)
    (s_NoRow_Nothing : PySem.W.subIn K (.ref cNoRow) (.ref cNothing) = some false)
    (s_NoPair_WideError : PySem.W.subIn K (.ref cNoPair) (.ref cWideError) = some true)
    (s_NoPair_NoRow : PySem.W.subIn K (.ref cNoPair) (.ref cNoRow) = some false)
    (s_NoPair_NoPair : PySem.W.subIn K (.ref cNoPair) (.ref cNoPair) = some true)
    (s_NoPair_NoRule : PySem.W.subIn K (.ref cNoPair) (.ref cNoRule) = some false)
    (s_NoPair_NoName : PySem.W.subIn K (.ref cNoPair) (.ref cNoName) = some false)
    (s_NoPair_NoText : PySem.W.subIn K (.ref cNoPair) (.ref cNoText) = some false)
    (s_NoPair_TooMany : PySem.W.subIn K (.ref cNoPair) (.ref cTooMany) = some false)
    (s_NoPair_Nothing : PySem.W.subIn K (.ref cNoPair) (.ref cNothing) = some false)
    (s_NoRule_WideError : PySem.W.subIn K (.ref cNoRule) (.ref cWideError) = some true)
    (s_NoRule_NoRow : PySem.W.subIn K (.ref cNoRule) (.ref cNoRow) = some false)
    (s_NoRule_NoPair : PySem.W.subIn K (.ref cNoRule) (.ref cNoPair) = some false)
    (s_NoRule_NoRule : PySem.W.subIn K (.ref cNoRule) (.ref cNoRule) = some true)
    (s_NoRule_NoName : PySem.W.subIn K (.ref cNoRule) (.ref cNoName) = some false)
    (s_NoRule_NoText : PySem.W.subIn K (.ref cNoRule) (.ref cNoText) = some false)
    (s_NoRule_TooMany : PySem.W.subIn K (.ref cNoRule) (.ref cTooMany) = some false)
    (s_NoRule_Nothing : PySem.W.subIn K (.ref cNoRule) (.ref cNothing) = some false)
    (s_NoName_WideError : PySem.W.subIn K (.ref cNoName) (.ref cWideError) = some true)
    (s_NoName_NoRow : PySem.W.subIn K (.ref cNoName) (.ref cNoRow) = some false)
    (s_NoName_NoPair : PySem.W.subIn K (.ref cNoName) (.ref cNoPair) = some false)
    (s_NoName_NoRule : PySem.W.subIn K (.ref cNoName) (.ref cNoRule) = some false)
    (s_NoName_NoName : PySem.W.subIn K (.ref cNoName) (.ref cNoName) = some true)
    (s_NoName_NoText : PySem.W.subIn K (.ref cNoName) (.ref cNoText) = some false)
    (s_NoName_TooMany : PySem.W.subIn K (.ref cNoName) (.ref cTooMany) = some false)
    (s_NoName_Nothing : PySem.W.subIn K (.ref cNoName) (.ref cNothing) = some false)
    (s_NoText_WideError : PySem.W.subIn K (.ref cNoText) (.ref cWideError) = some true)
    (s_NoText_NoRow : PySem.W.subIn K (.ref cNoText) (.ref cNoRow) = some false)
    (s_NoText_NoPair : PySem.W.subIn K (.ref cNoText) (.ref cNoPair) = some false)
    (s_NoText_NoRule : PySem.W.subIn K (.ref cNoText) (.ref cNoRule) = some false)
    (s_NoText_NoName : PySem.W.subIn K (.ref cNoText) (.ref cNoName) = some false)
    (s_NoText_NoText : PySem.W.subIn K (.ref cNoText) (.ref cNoText) = some true)
    (s_NoText_TooMany : PySem.W.subIn K (.ref cNoText) (.ref cTooMany) = some false)
    (s_NoText_Nothing : PySem.W.subIn K (.ref cNoText) (.ref cNothing) = some false)
    (s_TooMany_WideError : PySem.W.subIn K (.ref cTooMany) (.ref cWideError) = some true)
    (s_TooMany_NoRow : PySem.W.subIn K (.ref cTooMany) (.ref cNoRow) = some false)
    (s_TooMany_NoPair : PySem.W.subIn K (.ref cTooMany) (.ref cNoPair) = some false)
    (s_TooMany_NoRule : PySem.W.subIn K (.ref cTooMany) (.ref cNoRule) = some false)
    (s_TooMany_NoName : PySem.W.subIn K (.ref cTooMany) (.ref cNoName) = some false)
    (s_TooMany_NoText : PySem.W.subIn K (.ref cTooMany) (.ref cNoText) = some false)
    (s_TooMany_TooMany : PySem.W.subIn K (.ref cTooMany) (.ref cTooMany) = some true)
    (s_TooMany_Nothing : PySem.W.subIn K (.ref cTooMany) (.ref cNothing) = some false)
    (s_Nothing_WideError : PySem.W.subIn K (.ref cNothing) (.ref cWideError) = some true)
    (s_Nothing_NoRow : PySem.W.subIn K (.ref cNothing) (.ref cNoRow) = some false)
    (s_Nothing_NoPair : PySem.W.subIn K (.ref cNothing) (.ref cNoPair) = some false)
    (s_Nothing_NoRule : PySem.W.subIn K (.ref cNothing) (.ref cNoRule) = some false)
    (s_Nothing_NoName : PySem.W.subIn K (.ref cNothing) (.ref cNoName) = some false)
    (s_Nothing_NoText : PySem.W.subIn K (.ref cNothing) (.ref cNoText) = some false)
    (s_Nothing_TooMany : PySem.W.subIn K (.ref cNothing) (.ref cTooMany) = some false)
    (s_Nothing_Nothing : PySem.W.subIn K (.ref cNothing) (.ref cNothing) = some true)
    (z_ValueError : PySem.W.nsIn K mainGlobals "ValueError" = some none)
    (z_abs : PySem.W.nsIn K mainGlobals "abs" = some none)
    (z_all : PySem.W.nsIn K mainGlobals "all" = some none)
    (z_bool : PySem.W.nsIn K mainGlobals "bool" = some none)
    (z_enumerate : PySem.W.nsIn K mainGlobals "enumerate" = some none)
    (z_int : PySem.W.nsIn K mainGlobals "int" = some none)
    (z_isinstance : PySem.W.nsIn K mainGlobals "isinstance" = some none)
    (z_len : PySem.W.nsIn K mainGlobals "len" = some none)
    (z_range : PySem.W.nsIn K mainGlobals "range" = some none)
    (z_str : PySem.W.nsIn K mainGlobals "str" = some none)
    (z_tuple : PySem.W.nsIn K mainGlobals "tuple" = some none)
    : ∀ (s : Shared) (a : Addr) (ns : List Int) (base : Heap) (H : Hp), ns.length ≤ 63 → (∀ z ∈ ns, Builtin.Int.intBits z ≤ 1048576) → Env0 l.prog w K mg base callerA [] s H → SqL K H a (ns.map V.int) →
      codeAny (model l.prog w) callerA (.call (.ref fa) ⟨[.ref a], []⟩) (CR CX0 [] l.prog w H s (fun v _ => v = .bl true) E0) s := by
  have F_is_whole := fun_mk (st := s_is_whole) l0 c0 k0
  have b_is_whole := F_is_whole.binds (ps := ["thing"]) fun _ _ _ _ _ _ us hl => match us, hl with | [_], _ => rfl
  have g_is_whole := PySem.W.mg_of X G a0
  have F_is_number_below := fun_mk (st := s_is_number_below) l1 c1 k1
  have b_is_number_below := F_is_number_below.binds (ps := ["thing", "many"]) fun _ _ _ _ _ _ us hl => match us, hl with | [_, _], _ => rfl
  have g_is_number_below := PySem.W.mg_of X G a1
  have F_is_deed := fun_mk (st := s_is_deed) l2 c2 k2
  have b_is_deed := F_is_deed.binds (ps := ["thing", "ahead"]) fun _ _ _ _ _ _ us hl => match us, hl with | [_, _], _ => rfl
  have g_is_deed := PySem.W.mg_of X G a2
  have F_are_deeds := fun_mk (st := s_are_deeds) l3 c3 k3
  have b_are_deeds := F_are_deeds.binds (ps := ["thing", "many"]) fun _ _ _ _ _ _ us hl => match us, hl with | [_, _], _ => rfl
  have g_are_deeds := PySem.W.mg_of X G a3
  have F_is_row := fun_mk (st := s_is_row) l4 c4 k4
  have b_is_row := F_is_row.binds (ps := ["thing"]) fun _ _ _ _ _ _ us hl => match us, hl with | [_], _ => rfl
  have g_is_row := PySem.W.mg_of X G a4
  have F_law_well := fun_mk (st := s_law_well) l5 c5 k5
  have b_law_well := F_law_well.binds (ps := ["script"]) fun _ _ _ _ _ _ us hl => match us, hl with | [_], _ => rfl
  have g_law_well := PySem.W.mg_of X G a5
  have F_law_draw := fun_mk (st := s_law_draw) l6 c6 k6
  have b_law_draw := F_law_draw.binds (ps := ["well", "many"]) fun _ _ _ _ _ _ us hl => match us, hl with | [_, _], _ => rfl
  have g_law_draw := PySem.W.mg_of X G a6
  have F_law_kinds := fun_mk (st := s_law_kinds) l7 c7 k7
  have b_law_kinds := F_law_kinds.binds (ps := ["one"]) fun _ _ _ _ _ _ us hl => match us, hl with | [_], _ => rfl
  have g_law_kinds := PySem.W.mg_of X G a7
  have F_law := fun_mk (st := s_law) l8 c8 k8
  have b_law := F_law.binds (ps := ["script"]) fun _ _ _ _ _ _ us hl => match us, hl with | [_], _ => rfl
  obtain rfl : fa = f8 := by
    have e := hfa.symm.trans (PySem.W.mg_of X G a8)
    cases e
    rfl
  have g_WideError := PySem.W.mg_of X G a_WideError
  have X_WideError : ExcC K cWideError := ⟨e1_WideError, e2_WideError, e3_WideError, e4_WideError, e5_WideError, e6_WideError, e7_WideError, e8_WideError⟩
  have g_NoRow := PySem.W.mg_of X G a_NoRow
  have X_NoRow : ExcC K cNoRow := ⟨e1_NoRow, e2_NoRow, e3_NoRow, e4_NoRow, e5_NoRow, e6_NoRow, e7_NoRow, e8_NoRow⟩
  have g_NoPair := PySem.W.mg_of X G a_NoPair
  have X_NoPair : ExcC K cNoPair := ⟨e1_NoPair, e2_NoPair, e3_NoPair, e4_NoPair, e5_NoPair, e6_NoPair, e7_NoPair, e8_NoPair⟩
  have g_NoRule := PySem.W.mg_of X G a_NoRule
  have X_NoRule : ExcC K cNoRule := ⟨e1_NoRule, e2_NoRule, e3_NoRule, e4_NoRule, e5_NoRule, e6_NoRule, e7_NoRule, e8_NoRule⟩
  have g_NoName := PySem.W.mg_of X G a_NoName
  have X_NoName : ExcC K cNoName := ⟨e1_NoName, e2_NoName, e3_NoName, e4_NoName, e5_NoName, e6_NoName, e7_NoName, e8_NoName⟩
  have g_NoText := PySem.W.mg_of X G a_NoText
  have X_NoText : ExcC K cNoText := ⟨e1_NoText, e2_NoText, e3_NoText, e4_NoText, e5_NoText, e6_NoText, e7_NoText, e8_NoText⟩
  have g_TooMany := PySem.W.mg_of X G a_TooMany
  have X_TooMany : ExcC K cTooMany := ⟨e1_TooMany, e2_TooMany, e3_TooMany, e4_TooMany, e5_TooMany, e6_TooMany, e7_TooMany, e8_TooMany⟩
  have g_Nothing := PySem.W.mg_of X G a_Nothing
  have X_Nothing : ExcC K cNothing := ⟨e1_Nothing, e2_Nothing, e3_Nothing, e4_Nothing, e5_Nothing, e6_Nothing, e7_Nothing, e8_Nothing⟩
  have t_WideError_WideError := kit_ref e9_WideError e10_WideError s_WideError_WideError s_WideError_WideError
  have t_WideError_NoRow := kit_ref e9_NoRow e10_NoRow s_WideError_NoRow s_NoRow_NoRow
  have t_WideError_NoPair := kit_ref e9_NoPair e10_NoPair s_WideError_NoPair s_NoPair_NoPair
  have t_WideError_NoRule := kit_ref e9_NoRule e10_NoRule s_WideError_NoRule s_NoRule_NoRule
  have t_WideError_NoName := kit_ref e9_NoName e10_NoName s_WideError_NoName s_NoName_NoName
  have t_WideError_NoText := kit_ref e9_NoText e10_NoText s_WideError_NoText s_NoText_NoText
  have t_WideError_TooMany := kit_ref e9_TooMany e10_TooMany s_WideError_TooMany s_TooMany_TooMany
  have t_WideError_Nothing := kit_ref e9_Nothing e10_Nothing s_WideError_Nothing s_Nothing_Nothing
  have v_WideError := kit_ve e11_WideError
  have t_NoRow_WideError := kit_ref e9_WideError e10_WideError s_NoRow_WideError s_WideError_WideError
  have t_NoRow_NoRow := kit_ref e9_NoRow e10_NoRow s_NoRow_NoRow s_NoRow_NoRow
  have t_NoRow_NoPair := kit_ref e9_NoPair e10_NoPair s_NoRow_NoPair s_NoPair_NoPair
  have t_NoRow_NoRule := kit_ref e9_NoRule e10_NoRule s_NoRow_NoRule s_NoRule_NoRule
  have t_NoRow_NoName := kit_ref e9_NoName e10_NoName s_NoRow_NoName s_NoName_NoName
  have t_NoRow_NoText := kit_ref e9_NoText e10_NoText s_NoRow_NoText s_NoText_NoText
  have t_NoRow_TooMany := kit_ref e9_TooMany e10_TooMany s_NoRow_TooMany s_TooMany_TooMany
  have t_NoRow_Nothing := kit_ref e9_Nothing e10_Nothing s_NoRow_Nothing s_Nothing_Nothing
  have v_NoRow := kit_ve e11_NoRow
  have t_NoPair_WideError := kit_ref e9_WideError e10_WideError s_NoPair_WideError s_WideError_WideError
  have t_NoPair_NoRow := kit_ref e9_NoRow e10_NoRow s_NoPair_NoRow s_NoRow_NoRow
  have t_NoPair_NoPair := kit_ref e9_NoPair e10_NoPair s_NoPair_NoPair s_NoPair_NoPair
  have t_NoPair_NoRule := kit_ref e9_NoRule e10_NoRule s_NoPair_NoRule s_NoRule_NoRule
  have t_NoPair_NoName := kit_ref e9_NoName e10_NoName s_NoPair_NoName s_NoName_NoName
  have t_NoPair_NoText := kit_ref e9_NoText e10_NoText s_NoPair_NoText s_NoText_NoText
  have t_NoPair_TooMany := kit_ref e9_TooMany e10_TooMany s_NoPair_TooMany s_TooMany_TooMany
  have t_NoPair_Nothing := kit_ref e9_Nothing e10_Nothing s_NoPair_Nothing s_Nothing_Nothing
  have v_NoPair := kit_ve e11_NoPair
  have t_NoRule_WideError := kit_ref e9_WideError e10_WideError s_NoRule_WideError s_WideError_WideError
  have t_NoRule_NoRow := kit_ref e9_NoRow e10_NoRow s_NoRule_NoRow s_NoRow_NoRow
  have t_NoRule_NoPair := kit_ref e9_NoPair e10_NoPair s_NoRule_NoPair s_NoPair_NoPair
  have t_NoRule_NoRule := kit_ref e9_NoRule e10_NoRule s_NoRule_NoRule s_NoRule_NoRule
  have t_NoRule_NoName := kit_ref e9_NoName e10_NoName s_NoRule_NoName s_NoName_NoName
  have t_NoRule_NoText := kit_ref e9_NoText e10_NoText s_NoRule_NoText s_NoText_NoText
  have t_NoRule_TooMany := kit_ref e9_TooMany e10_TooMany s_NoRule_TooMany s_TooMany_TooMany
  have t_NoRule_Nothing := kit_ref e9_Nothing e10_Nothing s_NoRule_Nothing s_Nothing_Nothing
  have v_NoRule := kit_ve e11_NoRule
  have t_NoName_WideError := kit_ref e9_WideError e10_WideError s_NoName_WideError s_WideError_WideError
  have t_NoName_NoRow := kit_ref e9_NoRow e10_NoRow s_NoName_NoRow s_NoRow_NoRow
  have t_NoName_NoPair := kit_ref e9_NoPair e10_NoPair s_NoName_NoPair s_NoPair_NoPair
  have t_NoName_NoRule := kit_ref e9_NoRule e10_NoRule s_NoName_NoRule s_NoRule_NoRule
  have t_NoName_NoName := kit_ref e9_NoName e10_NoName s_NoName_NoName s_NoName_NoName
  have t_NoName_NoText := kit_ref e9_NoText e10_NoText s_NoName_NoText s_NoText_NoText
  have t_NoName_TooMany := kit_ref e9_TooMany e10_TooMany s_NoName_TooMany s_TooMany_TooMany
  have t_NoName_Nothing := kit_ref e9_Nothing e10_Nothing s_NoName_Nothing s_Nothing_Nothing
  have v_NoName := kit_ve e11_NoName
  have t_NoText_WideError := kit_ref e9_WideError e10_WideError s_NoText_WideError s_WideError_WideError
  have t_NoText_NoRow := kit_ref e9_NoRow e10_NoRow s_NoText_NoRow s_NoRow_NoRow
  have t_NoText_NoPair := kit_ref e9_NoPair e10_NoPair s_NoText_NoPair s_NoPair_NoPair
  have t_NoText_NoRule := kit_ref e9_NoRule e10_NoRule s_NoText_NoRule s_NoRule_NoRule
  have t_NoText_NoName := kit_ref e9_NoName e10_NoName s_NoText_NoName s_NoName_NoName
  have t_NoText_NoText := kit_ref e9_NoText e10_NoText s_NoText_NoText s_NoText_NoText
  have t_NoText_TooMany := kit_ref e9_TooMany e10_TooMany s_NoText_TooMany s_TooMany_TooMany
  have t_NoText_Nothing := kit_ref e9_Nothing e10_Nothing s_NoText_Nothing s_Nothing_Nothing
  have v_NoText := kit_ve e11_NoText
  have t_TooMany_WideError := kit_ref e9_WideError e10_WideError s_TooMany_WideError s_WideError_WideError
  have t_TooMany_NoRow := kit_ref e9_NoRow e10_NoRow s_TooMany_NoRow s_NoRow_NoRow
  have t_TooMany_NoPair := kit_ref e9_NoPair e10_NoPair s_TooMany_NoPair s_NoPair_NoPair
  have t_TooMany_NoRule := kit_ref e9_NoRule e10_NoRule s_TooMany_NoRule s_NoRule_NoRule
  have t_TooMany_NoName := kit_ref e9_NoName e10_NoName s_TooMany_NoName s_NoName_NoName
  have t_TooMany_NoText := kit_ref e9_NoText e10_NoText s_TooMany_NoText s_NoText_NoText
  have t_TooMany_TooMany := kit_ref e9_TooMany e10_TooMany s_TooMany_TooMany s_TooMany_TooMany
  have t_TooMany_Nothing := kit_ref e9_Nothing e10_Nothing s_TooMany_Nothing s_Nothing_Nothing
  have v_TooMany := kit_ve e11_TooMany
  have t_Nothing_WideError := kit_ref e9_WideError e10_WideError s_Nothing_WideError s_WideError_WideError
  have t_Nothing_NoRow := kit_ref e9_NoRow e10_NoRow s_Nothing_NoRow s_NoRow_NoRow
  have t_Nothing_NoPair := kit_ref e9_NoPair e10_NoPair s_Nothing_NoPair s_NoPair_NoPair
  have t_Nothing_NoRule := kit_ref e9_NoRule e10_NoRule s_Nothing_NoRule s_NoRule_NoRule
  have t_Nothing_NoName := kit_ref e9_NoName e10_NoName s_Nothing_NoName s_NoName_NoName
  have t_Nothing_NoText := kit_ref e9_NoText e10_NoText s_Nothing_NoText s_NoText_NoText
  have t_Nothing_TooMany := kit_ref e9_TooMany e10_TooMany s_Nothing_TooMany s_TooMany_TooMany
  have t_Nothing_Nothing := kit_ref e9_Nothing e10_Nothing s_Nothing_Nothing s_Nothing_Nothing
  have v_Nothing := kit_ve e11_Nothing
  have m_ValueError := PySem.W.mg_none_of X G z_ValueError
  have m_abs := PySem.W.mg_none_of X G z_abs
  have m_all := PySem.W.mg_none_of X G z_all
  have m_bool := PySem.W.mg_none_of X G z_bool
  have m_enumerate := PySem.W.mg_none_of X G z_enumerate
  have m_int := PySem.W.mg_none_of X G z_int
  have m_isinstance := PySem.W.mg_none_of X G z_isinstance
  have m_len := PySem.W.mg_none_of X G z_len
  have m_range := PySem.W.mg_none_of X G z_range
  have m_str := PySem.W.mg_none_of X G z_str
  have m_tuple := PySem.W.mg_none_of X G z_tuple
  intro s a ns base H hlen hbits e0 hS
  have GW := ok_well (P := l.prog) (w := w) (mg := mg) (base := base) (k := 0) F_law_well m_abs
  have GD := ok_draw (P := l.prog) (w := w) (mg := mg) (base := base) (k := 0) F_law_draw
  have GK := ok_ki (P := l.prog) (w := w) (mg := mg) (base := base) (k := 0) F_law_kinds m_isinstance g_NoName g_NoPair g_NoRow g_NoRule g_NoText g_Nothing g_TooMany
  have GI := ok_irS (P := l.prog) (w := w) (mg := mg) (base := base) (k := 0) F_is_row m_isinstance m_tuple
  refine law_run F_law b_law GW F_law_well.kp b_law_well g_law_well GD F_law_draw.kp b_law_draw g_law_draw GK F_law_kinds.kp b_law_kinds g_law_kinds GI F_is_row.kp b_is_row g_is_row g_NoName g_NoPair g_NoRow g_NoRule g_NoText g_Nothing g_TooMany g_WideError x_NoName x_NoPair x_NoRow x_NoRule x_NoText x_Nothing x_TooMany x_WideError k_NoName k_NoPair k_NoRow k_NoRule k_NoText k_Nothing k_TooMany k_WideError (fun i D hi => ?_) ⟨X_WideError, v_WideError, t_WideError_NoName, t_WideError_NoPair, t_WideError_NoRow, t_WideError_NoRule, t_WideError_NoText, t_WideError_Nothing, t_WideError_TooMany⟩ m_range m_enumerate m_isinstance m_ValueError hlen hbits e0 hS
  have hi7 : i < 7 := (List.getElem?_eq_some_iff.mp hi).1
  have hc : i = 0 ∨ i = 1 ∨ i = 2 ∨ i = 3 ∨ i = 4 ∨ i = 5 ∨ i = 6 := by omega
  rcases hc with rfl | rfl | rfl | rfl | rfl | rfl | rfl <;> obtain rfl := Option.some.inj hi
  · exact ⟨X_NoName, t_NoName_WideError, v_NoName, t_NoName_NoName, t_NoName_NoPair, t_NoName_NoRow, t_NoName_NoRule, t_NoName_NoText, t_NoName_Nothing, t_NoName_TooMany⟩
  · exact ⟨X_NoPair, t_NoPair_WideError, v_NoPair, t_NoPair_NoName, t_NoPair_NoPair, t_NoPair_NoRow, t_NoPair_NoRule, t_NoPair_NoText, t_NoPair_Nothing, t_NoPair_TooMany⟩
  · exact ⟨X_NoRow, t_NoRow_WideError, v_NoRow, t_NoRow_NoName, t_NoRow_NoPair, t_NoRow_NoRow, t_NoRow_NoRule, t_NoRow_NoText, t_NoRow_Nothing, t_NoRow_TooMany⟩
  · exact ⟨X_NoRule, t_NoRule_WideError, v_NoRule, t_NoRule_NoName, t_NoRule_NoPair, t_NoRule_NoRow, t_NoRule_NoRule, t_NoRule_NoText, t_NoRule_Nothing, t_NoRule_TooMany⟩
  · exact ⟨X_NoText, t_NoText_WideError, v_NoText, t_NoText_NoName, t_NoText_NoPair, t_NoText_NoRow, t_NoText_NoRule, t_NoText_NoText, t_NoText_Nothing, t_NoText_TooMany⟩
  · exact ⟨X_Nothing, t_Nothing_WideError, v_Nothing, t_Nothing_NoName, t_Nothing_NoPair, t_Nothing_NoRow, t_Nothing_NoRule, t_Nothing_NoText, t_Nothing_Nothing, t_Nothing_TooMany⟩
  · exact ⟨X_TooMany, t_TooMany_WideError, v_TooMany, t_TooMany_NoName, t_TooMany_NoPair, t_TooMany_NoRow, t_TooMany_NoRule, t_TooMany_NoText, t_TooMany_Nothing, t_TooMany_TooMany⟩
end
end KK
open PySem PySem.W PyProof.Rows
set_option maxHeartbeats 0 in
theorem PySem.Challenge.cw_anywide_k06_refusals_made_holds : PySem.Challenge.rw_anywide_k06_refusals_made.Holds := by
  w_on; o_law; k_head; (case hw => w_witness2)
  k_fill
  refine AW.walkG (l := PySem.Challenge.rw_anywide_k06_refusals_made) (n := 63) rfl (by decide) rfl (fun w h Y => PySem.W.kIn_of Y) ?F
  case F =>
    intro w mg fa h KX G hmg
    refine' KK.all_mk KX G hmg ?a0 ?l0 ?c0 ?k0 ?a1 ?l1 ?c1 ?k1 ?a2 ?l2 ?c2 ?k2 ?a3 ?l3 ?c3 ?k3 ?a4 ?l4 ?c4 ?k4 ?a5 ?l5 ?c5 ?k5 ?a6 ?l6 ?c6 ?k6 ?a7 ?l7 ?c7 ?k7 ?a8 ?l8 ?c8 ?k8 ?a_WideError ?x_WideError ?k_WideError ?e1_WideError ?e2_WideError ?e3_WideError ?e4_WideError ?e5_WideError ?e6_WideError ?e7_WideError ?e8_WideError ?e9_WideError ?e10_WideError ?e11_WideError ?a_NoRow ?x_NoRow ?k_NoRow ?e1_NoRow ?e2_NoRow ?e3_NoRow ?e4_NoRow ?e5_NoRow ?e6_NoRow ?e7_NoRow ?e8_NoRow ?e9_NoRow ?e10_NoRow ?e11_NoRow ?a_NoPair ?x_NoPair ?k_NoPair ?e1_NoPair ?e2_NoPair ?e3_NoPair ?e4_NoPair ?e5_NoPair ?e6_NoPair ?e7_NoPair ?e8_NoPair ?e9_NoPair ?e10_NoPair ?e11_NoPair ?a_NoRule ?x_NoRule ?k_NoRule ?e1_NoRule ?e2_NoRule ?e3_NoRule ?e4_NoRule ?e5_NoRule ?e6_NoRule ?e7_NoRule ?e8_NoRule ?e9_NoRule ?e10_NoRule ?e11_NoRule ?a_NoName ?x_NoName ?k_NoName ?e1_NoName ?e2_NoName ?e3_NoName ?e4_NoName ?e5_NoName ?e6_NoName ?e7_NoName ?e8_NoName ?e9_NoName ?e10_NoName ?e11_NoName ?a_NoText ?x_NoText ?k_NoText ?e1_NoText ?e2_NoText ?e3_NoText ?e4_NoText ?e5_NoText ?e6_NoText ?e7_NoText ?e8_NoText ?e9_NoText ?e10_NoText ?e11_NoText ?a_TooMany ?x_TooMany ?k_TooMany ?e1_TooMany ?e2_TooMany ?e3_TooMany ?e4_TooMany ?e5_TooMany ?e6_TooMany ?e7_TooMany ?e8_TooMany ?e9_TooMany ?e10_TooMany ?e11_TooMany ?a_Nothing ?x_Nothing ?k_Nothing ?e1_Nothing ?e2_Nothing ?e3_Nothing ?e4_Nothing ?e5_Nothing ?e6_Nothing ?e7_Nothing ?e8_Nothing ?e9_Nothing ?e10_Nothing ?e11_Nothing ?s_WideError_WideError ?s_WideError_NoRow ?s_WideError_NoPair ?s_WideError_NoRule ?s_WideError_NoName ?s_WideError_NoText ?s_WideError_TooMany ?s_WideError_Nothing ?s_NoRow_WideError ?s_NoRow_NoRow ?s_NoRow_NoPair ?s_NoRow_NoRule ?s_NoRow_NoName ?s_NoRow_NoText ?s_NoRow_TooMany ?s_NoRow_Nothing ?s_NoPair_WideError ?s_NoPair_NoRow ?s_NoPair_NoPair ?s_NoPair_NoRule ?s_NoPair_NoName ?s_NoPair_NoText ?s_NoPair_TooMany ?s_NoPair_Nothing ?s_NoRule_WideError ?s_NoRule_NoRow ?s_NoRule_NoPair ?s_NoRule_NoRule ?s_NoRule_NoName ?s_NoRule_NoText ?s_NoRule_TooMany ?s_NoRule_Nothing ?s_NoName_WideError ?s_NoName_NoRow ?s_NoName_NoPair ?s_NoName_NoRule ?s_NoName_NoName ?s_NoName_NoText ?s_NoName_TooMany ?s_NoName_Nothing ?s_NoText_WideError ?s_NoText_NoRow ?s_NoText_NoPair ?s_NoText_NoRule ?s_NoText_NoName ?s_NoText_NoText ?s_NoText_TooMany ?s_NoText_Nothing ?s_TooMany_WideError ?s_TooMany_NoRow ?s_TooMany_NoPair ?s_TooMany_NoRule ?s_TooMany_NoName ?s_TooMany_NoText ?s_TooMany_TooMany ?s_TooMany_Nothing ?s_Nothing_WideError ?s_Nothing_NoRow ?s_Nothing_NoPair ?s_Nothing_NoRule ?s_Nothing_NoName ?s_Nothing_NoText ?s_Nothing_TooMany ?s_Nothing_Nothing ?z_ValueError ?z_abs ?z_all ?z_bool ?z_enumerate ?z_int ?z_isinstance ?z_len ?z_range ?z_str ?z_tuple
    (case a0 => k_is)
    (case l0 => k_is)
    (case c0 => k_is)
    (case k0 => k_is)
    (case a1 => k_is)
    (case l1 => k_is)
    (case c1 => k_is)
    (case k1 => k_is)
    (case a2 => k_is)
    (case l2 => k_is)
    (case c2 => k_is)
    (case k2 => k_is)
    (case a3 => k_is)
    (case l3 => k_is)
    (case c3 => k_is)
    (case k3 => k_is)
    (case a4 => k_is)
    (case l4 => k_is)
    (case c4 => k_is)
    (case k4 => k_is)
    (case a5 => k_is)
    (case l5 => k_is)
    (case c5 => k_is)
    (case k5 => k_is)
    (case a6 => k_is)
    (case l6 => k_is)
    (case c6 => k_is)
    (case k6 => k_is)
    (case a7 => k_is)
    (case l7 => k_is)
    (case c7 => k_is)
    (case k7 => k_is)
    (case a8 => k_is)
    (case l8 => k_is)
    (case c8 => k_is)
    (case k8 => k_is)
    (case a_WideError => k_is)
    (case x_WideError => k_exc)
    (case k_WideError => k_is)
    (case e1_WideError => k_is)
    (case e2_WideError => k_is)
    (case e3_WideError => k_is)
    (case e4_WideError => k_is)
    (case e5_WideError => k_is)
    (case e6_WideError => k_is)
    (case e7_WideError => k_is)
    (case e8_WideError => k_is)
    (case e9_WideError => k_is)
    (case e10_WideError => k_is)
    (case e11_WideError => k_is)
    (case a_NoRow => k_is)
    (case x_NoRow => k_exc)
    (case k_NoRow => k_is)
    (case e1_NoRow => k_is)
    (case e2_NoRow => k_is)
    (case e3_NoRow => k_is)
    (case e4_NoRow => k_is)
    (case e5_NoRow => k_is)
    (case e6_NoRow => k_is)
    (case e7_NoRow => k_is)
    (case e8_NoRow => k_is)
    (case e9_NoRow => k_is)
    (case e10_NoRow => k_is)
    (case e11_NoRow => k_is)
    (case a_NoPair => k_is)
    (case x_NoPair => k_exc)
    (case k_NoPair => k_is)
    (case e1_NoPair => k_is)
    (case e2_NoPair => k_is)
    (case e3_NoPair => k_is)
    (case e4_NoPair => k_is)
    (case e5_NoPair => k_is)
    (case e6_NoPair => k_is)
    (case e7_NoPair => k_is)
    (case e8_NoPair => k_is)
    (case e9_NoPair => k_is)
    (case e10_NoPair => k_is)
    (case e11_NoPair => k_is)
    (case a_NoRule => k_is)
    (case x_NoRule => k_exc)
    (case k_NoRule => k_is)
    (case e1_NoRule => k_is)
    (case e2_NoRule => k_is)
    (case e3_NoRule => k_is)
    (case e4_NoRule => k_is)
    (case e5_NoRule => k_is)
    (case e6_NoRule => k_is)
    (case e7_NoRule => k_is)
    (case e8_NoRule => k_is)
    (case e9_NoRule => k_is)
    (case e10_NoRule => k_is)
    (case e11_NoRule => k_is)
    (case a_NoName => k_is)
    (case x_NoName => k_exc)
    (case k_NoName => k_is)
    (case e1_NoName => k_is)
    (case e2_NoName => k_is)
    (case e3_NoName => k_is)
    (case e4_NoName => k_is)
    (case e5_NoName => k_is)
    (case e6_NoName => k_is)
    (case e7_NoName => k_is)
    (case e8_NoName => k_is)
    (case e9_NoName => k_is)
    (case e10_NoName => k_is)
    (case e11_NoName => k_is)
    (case a_NoText => k_is)
    (case x_NoText => k_exc)
    (case k_NoText => k_is)
    (case e1_NoText => k_is)
    (case e2_NoText => k_is)
    (case e3_NoText => k_is)
    (case e4_NoText => k_is)
    (case e5_NoText => k_is)
    (case e6_NoText => k_is)
    (case e7_NoText => k_is)
    (case e8_NoText => k_is)
    (case e9_NoText => k_is)
    (case e10_NoText => k_is)
    (case e11_NoText => k_is)
    (case a_TooMany => k_is)
    (case x_TooMany => k_exc)
    (case k_TooMany => k_is)
    (case e1_TooMany => k_is)
    (case e2_TooMany => k_is)
    (case e3_TooMany => k_is)
    (case e4_TooMany => k_is)
    (case e5_TooMany => k_is)
    (case e6_TooMany => k_is)
    (case e7_TooMany => k_is)
    (case e8_TooMany => k_is)
    (case e9_TooMany => k_is)
    (case e10_TooMany => k_is)
    (case e11_TooMany => k_is)
    (case a_Nothing => k_is)
    (case x_Nothing => k_exc)
    (case k_Nothing => k_is)
    (case e1_Nothing => k_is)
    (case e2_Nothing => k_is)
    (case e3_Nothing => k_is)
    (case e4_Nothing => k_is)
    (case e5_Nothing => k_is)
    (case e6_Nothing => k_is)
    (case e7_Nothing => k_is)
    (case e8_Nothing => k_is)
    (case e9_Nothing => k_is)
    (case e10_Nothing => k_is)
    (case e11_Nothing => k_is)
    (case s_WideError_WideError => k_is)
    (case s_WideError_NoRow => k_is)
    (case s_WideError_NoPair => k_is)
    (case s_WideError_NoRule => k_is)
    (case s_WideError_NoName => k_is)
    (case s_WideError_NoText => k_is)
    (case s_WideError_TooMany => k_is)
    (case s_WideError_Nothing => k_is)
    (case s_NoRow_WideError => k_is)
    (case s_NoRow_NoRow => k_is)
    (case s_NoRow_NoPair => k_is)
    (case s_NoRow_NoRule => k_is)
    (case s_NoRow_NoName => k_is)
    (case s_NoRow_NoText => k_is)
    (case s_NoRow_TooMany => k_is)
    (case s_NoRow_Nothing => k_is)
    (case s_NoPair_WideError => k_is)
    (case s_NoPair_NoRow => k_is)
    (case s_NoPair_NoPair => k_is)
    (case s_NoPair_NoRule => k_is)
    (case s_NoPair_NoName => k_is)
    (case s_NoPair_NoText => k_is)
    (case s_NoPair_TooMany => k_is)
    (case s_NoPair_Nothing => k_is)
    (case s_NoRule_WideError => k_is)
    (case s_NoRule_NoRow => k_is)
    (case s_NoRule_NoPair => k_is)
    (case s_NoRule_NoRule => k_is)
    (case s_NoRule_NoName => k_is)
    (case s_NoRule_NoText => k_is)
    (case s_NoRule_TooMany => k_is)
    (case s_NoRule_Nothing => k_is)
    (case s_NoName_WideError => k_is)
    (case s_NoName_NoRow => k_is)
    (case s_NoName_NoPair => k_is)
    (case s_NoName_NoRule => k_is)
    (case s_NoName_NoName => k_is)
    (case s_NoName_NoText => k_is)
    (case s_NoName_TooMany => k_is)
    (case s_NoName_Nothing => k_is)
    (case s_NoText_WideError => k_is)
    (case s_NoText_NoRow => k_is)
    (case s_NoText_NoPair => k_is)
    (case s_NoText_NoRule => k_is)
    (case s_NoText_NoName => k_is)
    (case s_NoText_NoText => k_is)
    (case s_NoText_TooMany => k_is)
    (case s_NoText_Nothing => k_is)
    (case s_TooMany_WideError => k_is)
    (case s_TooMany_NoRow => k_is)
    (case s_TooMany_NoPair => k_is)
    (case s_TooMany_NoRule => k_is)
    (case s_TooMany_NoName => k_is)
    (case s_TooMany_NoText => k_is)
    (case s_TooMany_TooMany => k_is)
    (case s_TooMany_Nothing => k_is)
    (case s_Nothing_WideError => k_is)
    (case s_Nothing_NoRow => k_is)
    (case s_Nothing_NoPair => k_is)
    (case s_Nothing_NoRule => k_is)
    (case s_Nothing_NoName => k_is)
    (case s_Nothing_NoText => k_is)
    (case s_Nothing_TooMany => k_is)
    (case s_Nothing_Nothing => k_is)
    (case z_ValueError => k_is)
    (case z_abs => k_is)
    (case z_all => k_is)
    (case z_bool => k_is)
    (case z_enumerate => k_is)
    (case z_int => k_is)
    (case z_isinstance => k_is)
    (case z_len => k_is)
    (case z_range => k_is)
    (case z_str => k_is)
    (case z_tuple => k_is)
